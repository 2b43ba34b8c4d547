import PyProof.Rows.All
import Wide.All
import OpenK.AllK
import Wide.FinOn
import Lean
import PyProof.EqAt
import PyProof.EqKinds
import PyProof.TupleCall
import PyProof.NeKinds
import KE.KIntText
import PyProof.StrCalls
import PyProof.ZipIter
import PyProof.Rows.SetFrom
import PyProof.SetRoads
import PyProof.CompUse
import PyProof.Rows.MinMaxN
import PyProof.Rows.SortStr
import PyProof.Rows.SortWalk
import PyProof.Rows.SeqMore2
import KE.KMinKey
import PyProof.Rows.CallKwBuiltin
import PyProof.TupleOfStr
import PyProof.Draws
import PyProof.Rows.TupIter
import KE.KxText
import PyProof.FString5
import PyProof.DictWalks
import PyProof.CollectStr
import PySem.Challenge.RW_oldhands_k05_no_values
set_option Elab.async false
set_option linter.all false
set_option maxRecDepth 100000
namespace L2
open PySem PySem.Spec PyProof.Rows
noncomputable abbrev Key := Sum Int Str
noncomputable def keyIs : Key → Value → Bool
 | .inl k,v => Value.isInt k v
 | .inr x,v => Value.isStrOf x v
noncomputable def keyH (w : World) : Key → Int
 | .inl k => hashInt k
 | .inr x => hashStr w x
theorem keyIs_shape : ∀ {k : Key} {v : Value},keyIs k v = true → (∃ i t,k = Sum.inl i ∧ v = Value.int i t) ∨ (∃ x t,k = Sum.inr x ∧ v = Value.str x t)
 | .inl i,v,h => by
  obtain ⟨t,e⟩ := Value.isInt_shape (k := i) (v := v) h
  exact .inl ⟨i,t,rfl,e⟩
 | .inr x,v,h => by
  obtain ⟨t,e⟩ := Value.isStrOf_shape (x := x) (v := v) h
  exact .inr ⟨x,t,rfl,e⟩
theorem keyIs_int (i : Int) (t : Tok) : keyIs (.inl i) (.int i t) = true := by simp [keyIs,Value.isInt]
theorem keyIs_str (x : Str) (t : Tok) : keyIs (.inr x) (.str x t) = true := by simp [keyIs,Value.isStrOf]
theorem key_ll (a b : Int) : decide ((Sum.inl a : Key) = Sum.inl b) = (a == b) := by
 by_cases e : a = b
 ·subst e; simp
 ·have h : ¬ (Sum.inl a : Key) = Sum.inl b := fun q => e (Sum.inl.inj q)
  rw [decide_eq_false h]
  exact (beq_eq_false_iff_ne.mpr e).symm
theorem key_rr (a b : Str) : decide ((Sum.inr a : Key) = Sum.inr b) = decide (a = b) := by
 by_cases e : a = b
 ·subst e; simp
 ·have h : ¬ (Sum.inr a : Key) = Sum.inr b := fun q => e (Sum.inr.inj q)
  rw [decide_eq_false h,decide_eq_false e]
theorem key_lr (a : Int) (b : Str) : decide ((Sum.inl a : Key) = Sum.inr b) = false := decide_eq_false (fun q => nomatch q)
theorem key_rl (a : Str) (b : Int) : decide ((Sum.inr a : Key) = Sum.inl b) = false := decide_eq_false (fun q => nomatch q)
noncomputable def mixKind (prog : Program) (w : World) : PySem.KeyKind prog w Key where
 is := keyIs
 hash := keyH w
 inj := fun v a b ha hb => by
  rcases keyIs_shape ha with ⟨i,t,rfl,rfl⟩ | ⟨x,t,rfl,rfl⟩
  ·rcases keyIs_shape hb with ⟨j,u,rfl,e⟩ | ⟨y,u,rfl,e⟩
   ·injection e with e1 _; rw [e1]
   ·exact nomatch e
  ·rcases keyIs_shape hb with ⟨j,u,rfl,e⟩ | ⟨y,u,rfl,e⟩
   ·exact nomatch e
   ·injection e with e1 _; rw [e1]
 byValue := fun k v h => by
  rcases keyIs_shape h with ⟨i,t,rfl,rfl⟩ | ⟨x,t,rfl,rfl⟩ <;> rfl
 pyHash := fun hv h => by
  rcases keyIs_shape hv with ⟨i,t,rfl,rfl⟩ | ⟨x,t,rfl,rfl⟩
  ·exact wpAny_pyHash_int h
  ·exact wpAny_pyHash_str h
 eqBool := fun hu hv h => by
  rcases keyIs_shape hu with ⟨i,t,rfl,rfl⟩ | ⟨x,t,rfl,rfl⟩
  ·rcases keyIs_shape hv with ⟨j,u,rfl,rfl⟩ | ⟨y,u,rfl,rfl⟩
   ·rw [key_ll] at h; exact wpAny_eqBool_int h
   ·rw [key_lr] at h; exact SeqAt.EqAt.int_str i t y u _ _ _ _ h
  ·rcases keyIs_shape hv with ⟨j,u,rfl,rfl⟩ | ⟨y,u,rfl,rfl⟩
   ·rw [key_rl] at h; exact SeqAt.EqAt.str_int x t j u _ _ _ _ h
   ·rw [key_rr] at h; exact wpAny_eqBool_str h
 «strs» := fun k x t v h => by
  rcases keyIs_shape h with ⟨i,u,rfl,e⟩ | ⟨y,u,rfl,e⟩
  ·exact nomatch e
  ·injection e with e1 _
   subst e1
   cases v <;> rfl
theorem mixKind_int (prog : Program) (w : World) (i : Int) (t : Tok) : (mixKind prog w).is (.inl i) (.int i t) = true := keyIs_int i t
theorem mixKind_str (prog : Program) (w : World) (x : Str) (t : Tok) : (mixKind prog w).is (.inr x) (.str x t) = true := keyIs_str x t
end L2
namespace L2
open PySem PySem.Spec PyProof.Rows
inductive V where
 | non | bl (b : Bool) | int (i : Int) | str (x : Str) | byt (b : Array UInt8) | flt (b : UInt64) | ref (a : Addr) | ty (n : String)
 deriving DecidableEq
noncomputable def RelV : V → Value → Prop
 | .non,u => u = Value.none
 | .bl b,u => u = Value.bool b
 | .int i,u => ∃ t,u = Value.int i t
 | .str x,u => ∃ t,u = Value.str x t
 | .byt b,u => ∃ t,u = Value.bytes b t
 | .flt b,u => ∃ t,u = Value.float b t
 | .ref a,u => u = Value.ref a
 | .ty n,u => u = Value.type n
noncomputable abbrev Vals : List V → List Value → Prop := Paired RelV
theorem Vals.length {xs : List V} {us : List Value} (r : Vals xs us) : xs.length = us.length := Paired.length r
theorem Vals.get : ∀ {xs : List V} {us : List Value} {i : Nat} {x : V},Vals xs us → xs[i]? = some x → ∃ u,us[i]? = some u ∧ RelV x u
 | _,_,_,_,.nil,e => by simp at e
 | _,_,0,_,.cons r _,e => by simp at e; subst e; exact ⟨_,rfl,r⟩
 | _,_,i + 1,x,.cons _ t,e => by
  obtain ⟨u,h1,h2⟩ := Vals.get (i := i) (x := x) t (by simpa using e)
  exact ⟨u,by simpa using h1,h2⟩
theorem Vals.set {x : V} {u : Value} (r : RelV x u) : ∀ {xs : List V} {us : List Value} (i : Nat),Vals xs us → Vals (xs.set i x) (us.set i u)
 | _,_,_,.nil => .nil
 | _,_,0,.cons _ t => .cons r t
 | _,_,i + 1,.cons q t => .cons q (Vals.set r i t)
theorem Vals.append : ∀ {xs ys : List V} {us ws : List Value},Vals xs us → Vals ys ws → Vals (xs ++ ys) (us ++ ws)
 | _,_,_,_,.nil,s => s
 | _,_,_,_,.cons r t,s => .cons r (Vals.append t s)
theorem Vals.take : ∀ {xs : List V} {us : List Value} (n : Nat),Vals xs us → Vals (xs.take n) (us.take n)
 | _,_,0,_ => .nil
 | _,_,_ + 1,.nil => .nil
 | _,_,n + 1,.cons r t => .cons r (Vals.take n t)
theorem Vals.drop : ∀ {xs : List V} {us : List Value} (n : Nat),Vals xs us → Vals (xs.drop n) (us.drop n)
 | _,_,0,r => r
 | _,_,_ + 1,.nil => .nil
 | _,_,n + 1,.cons _ t => Vals.drop n t
noncomputable def RelO : Option V → Option Value → Prop
 | some v,some u => RelV v u
 | none,none => True
 | _,_ => False
noncomputable def KV {κ : Type} : List (κ × V) → List (κ × Value) → Prop := Paired fun (p : κ × V) (q : κ × Value) => p.1 = q.1 ∧ RelV p.2 q.2
noncomputable def kV : Key → V
 | .inl i => .int i
 | .inr x => .str x
inductive HO where
 | lst (xs : List V)
 | tup (xs : List V)
 | dK (kvs : List (Key × V)) | dT (kvs : List (List Key × V))
 | set (S : Int → Bool) (n : Nat)
 | ins (C dx : Addr) (fs : List (Str × V))
 | own (x : Addr)
 | xd (fs : List (Str × V))
 | met (f x : Addr)
 | rng (lo hi : Int)
 | frz (o : Obj) (u : HO)
 | tbl (ps : Array Value)
 | ext (φ : Heap → Prop)
noncomputable abbrev Hp := Addr → Option HO
noncomputable def upd (H : Hp) (a : Addr) (o : HO) : Hp := fun b => if b = a then some o else H b
theorem upd_same {H : Hp} {a : Addr} {o : HO} : upd H a o a = some o := by unfold upd; rw [if_pos rfl]
theorem upd_ne {H : Hp} {a b : Addr} {o : HO} (h : b ≠ a) : upd H a o b = H b := by unfold upd; rw [if_neg h]
theorem ne_of {H : Hp} {a b : Addr} {o u : HO} (h : H a = some o) (h' : H b = some u) (d : o ≠ u) : a ≠ b := by
 intro e; subst e; rw [h] at h'; exact d (Option.some.inj h')
theorem ne_of_none {H : Hp} {a b : Addr} {o : HO} (h : H a = some o) (h' : H b = none) : a ≠ b := by
 intro e; subst e; rw [h] at h'; cases h'
section
variable (P : Program) (w : World)
noncomputable def ObjOk (H : Hp) (h : Heap) (a : Addr) : HO → Prop
 | .lst xs => xs.length ≤ sizeLine ∧ ∃ (its : List Value) (n : Nat),Vals xs its ∧ h.get? a = some { cls := .type "list",data := .seq its.toArray n }
 | .tup xs => xs.length ≤ sizeLine ∧ ∃ its : List Value,Vals xs its ∧ IsTup h a its.toArray
 | .dK kvs => kvs.length ≤ sizeLine ∧ (a == sysModules) = false ∧ ∃ vs,KV kvs vs ∧ h.DictOf (mixKind P w) a vs
 | .dT kvs => kvs.length ≤ sizeLine ∧ (a == sysModules) = false ∧ ∃ xs : List (List Key × Addr × Value),
   Paired (fun (p : List Key × V) (q : List Key × Addr × Value) => p.1 = q.1 ∧ H q.2.1 = some (.tup (p.1.map kV)) ∧ RelV p.2 q.2.2) kvs xs ∧
   ∃ o es ep,h.get? a = some o ∧ o.ExactDict ∧ o.data = .dict es ep ∧ es.toList = xs.map (entryOfKey (tupleKind (mixKind P w))) ∧ (xs.map (·.1)).Nodup
 | .set S n => h.SetOf (intKind P w) a S n
 | .ins C dx fs => H dx = some (.own a) ∧ fs.length ≤ 1000 ∧ dx ≠ a ∧ h.get? a = some (PySem.W.instObj C dx) ∧
   ∃ mA,h.Ns1 dx mA ∧ (∀ f,RelO (fs.lookup f) (mA f)) ∧ PySem.Within mA (fs.map (·.1))
 | .own _ => ∃ o,h.get? a = some o
 | .xd fs => ∃ mA,h.Ns1 a mA ∧ ∀ f,RelO (fs.lookup f) (mA f)
 | .rng lo hi => ∃ t u v,h.get? a = some { cls := .type "range",data := .fields #[.int lo t,.int hi u,.int 1 v] }
 | .frz o u => h.get? a = some o ∧ ObjOk H h a u
 | .tbl ps => h.get? a = some { cls := .none,data := .fields ps }
 | .met f x => h.get? a = some (PySem.W.methodObj (.ref f) (.ref x))
 | .ext φ => φ h ∧ (∃ o,h.get? a = some o) ∧ ∀ h1 h2 : Heap,φ h1 → (∀ o,h1.get? a = some o → h2.get? a = some o) → φ h2
noncomputable def HOk (H : Hp) (h : Heap) : Prop := ∀ a o,H a = some o → ObjOk P w H h a o
end
section
variable {P : Program} {w : World} {H H' : Hp} {h h' : Heap} {a : Addr} {o : HO}
theorem ObjOk.lt (x : ObjOk P w H h a o) : a < h.objs.size := by
 cases o with
 | lst xs => obtain ⟨_,_,_,_,e⟩ := x; exact Heap.lt_size e
 | tup xs => obtain ⟨_,_,_,p⟩ := x; exact p.lt
 | dK kvs => obtain ⟨_,_,_,_,o,_,_,e,_⟩ := x; exact Heap.lt_size e
 | dT kvs => obtain ⟨_,_,_,_,o,_,_,e,_⟩ := x; exact Heap.lt_size e
 | set S n => obtain ⟨o,_,_,_,e,_⟩ := x; exact Heap.lt_size e
 | ins C dx fs => obtain ⟨_,_,_,e,_⟩ := x; exact Heap.lt_size e
 | own y => obtain ⟨_,e⟩ := x; exact Heap.lt_size e
 | xd fs => obtain ⟨_,⟨_,_,_,e,_⟩,_⟩ := x; exact Heap.lt_size e
 | rng lo hi => obtain ⟨_,_,_,e⟩ := x; exact Heap.lt_size e
 | frz ob u => obtain ⟨e,_⟩ := x; exact Heap.lt_size e
 | tbl ps => exact Heap.lt_size (show h.get? a = some _ from x)
 | met f y => exact Heap.lt_size (show h.get? a = some _ from x)
 | ext φ => obtain ⟨_,⟨_,e⟩,_⟩ := x; exact Heap.lt_size e
theorem Paired.mapP {α β : Type} {F G : α → β → Prop} : ∀ {l₁ : List α} {l₂ : List β},Paired F l₁ l₂ → (∀ a b,F a b → G a b) → Paired G l₁ l₂
 | _,_,.nil,_ => .nil
 | _,_,.cons r t,f => .cons (f _ _ r) (Paired.mapP t f)
theorem ObjOk.stay (x : ObjOk P w H h a o) (k : ∀ b u,(b = a ∨ H b = some (.own a)) → h.get? b = some u → h'.get? b = some u)
  (ho : ∀ b,H b = some (.own a) → H' b = some (.own a)) (ht : ∀ b xs,H b = some (.tup xs) → H' b = some (.tup xs)) : ObjOk P w H' h' a o := by
 induction o with
 | lst xs => obtain ⟨z,its,n,r,e⟩ := x; exact ⟨z,its,n,r,k _ _ (.inl rfl) e⟩
 | tup xs => obtain ⟨z,its,r,ob,e,c⟩ := x; exact ⟨z,its,r,ob,k _ _ (.inl rfl) e,c⟩
 | dK kvs => obtain ⟨z,y,vs,r,ob,es,ep,e,c⟩ := x; exact ⟨z,y,vs,r,ob,es,ep,k _ _ (.inl rfl) e,c⟩
 | dT kvs =>
  obtain ⟨z,y,xs,r,ob,es,ep,e,c⟩ := x
  exact ⟨z,y,xs,Paired.mapP r fun p q z => ⟨z.1,ht _ _ z.2.1,z.2.2⟩,ob,es,ep,k _ _ (.inl rfl) e,c⟩
 | set S n => obtain ⟨ob,es,ep,t,e,c⟩ := x; exact ⟨ob,es,ep,t,k _ _ (.inl rfl) e,c⟩
 | ins C dx fs =>
  obtain ⟨d,z,ne,e,mA,⟨od,es,ep,e2,c⟩,r⟩ := x
  exact ⟨ho _ d,z,ne,k _ _ (.inl rfl) e,mA,⟨od,es,ep,k _ _ (.inr d) e2,c⟩,r⟩
 | own y => obtain ⟨ob,e⟩ := x; exact ⟨ob,k _ _ (.inl rfl) e⟩
 | xd fs => obtain ⟨mA,⟨od,es,ep,e,c⟩,r⟩ := x; exact ⟨mA,⟨od,es,ep,k _ _ (.inl rfl) e,c⟩,r⟩
 | rng lo hi => obtain ⟨t,u,v,e⟩ := x; exact ⟨t,u,v,k _ _ (.inl rfl) e⟩
 | frz ob u ih => obtain ⟨e,q⟩ := x; exact ⟨k _ _ (.inl rfl) e,ih q⟩
 | tbl ps =>
  have e : h.get? a = some { cls := .none,data := .fields ps } := x
  show h'.get? a = some { cls := .none,data := .fields ps }
  exact k a _ (.inl rfl) e
 | met f y =>
  have e : h.get? a = some (PySem.W.methodObj (.ref f) (.ref y)) := x
  show h'.get? a = some (PySem.W.methodObj (.ref f) (.ref y))
  exact k a _ (.inl rfl) e
 | ext φ => obtain ⟨p,⟨o,e⟩,st⟩ := x; exact ⟨st _ _ p fun o q => k _ _ (.inl rfl) q,⟨o,k _ _ (.inl rfl) e⟩,st⟩
theorem HOk.lt (x : HOk P w H h) (e : H a = some o) : a < h.objs.size := (x a o e).lt
theorem HOk.fresh (x : HOk P w H h) (e : h.objs.size ≤ a) : H a = none := by
 cases q : H a with
 | none => rfl
 | some u => exact absurd (Nat.lt_of_lt_of_le (x.lt q) e) (Nat.lt_irrefl _)
theorem HOk.kept (x : HOk P w H h) (k : ∀ b u,h.get? b = some u → h'.get? b = some u) : HOk P w H h' := fun a o e =>
 (x a o e).stay (fun b u _ q => k b u q) (fun _ q => q) fun _ _ q => q
theorem HOk.laid (x : HOk P w H h) (k : ∀ b u,h.get? b = some u → h'.get? b = some u) (hp : h.objs.size ≤ a) (new : ObjOk P w (upd H a o) h' a o) : HOk P w (upd H a o) h' := fun b u e => by
 have hn := x.fresh hp
 by_cases hb : b = a
 ·subst hb; rw [upd_same] at e; cases e; exact new
 ·rw [upd_ne hb] at e
  exact (x b u e).stay (fun c v _ q => k c v q) (fun c q => by rw [upd_ne (ne_of_none q hn)]; exact q) fun c xs q => by rw [upd_ne (ne_of_none q hn)]; exact q
end
noncomputable def Rd (H : Hp) (a : Addr) (u : HO) : Prop := H a = some u ∨ ∃ o,H a = some (.frz o u)
theorem Rd.ok {P : Program} {w : World} {H : Hp} {h : Heap} {a : Addr} {u : HO} (r : Rd H a u) (x : HOk P w H h) : ObjOk P w H h a u := by
 rcases r with r | ⟨o,r⟩
 ·exact x a u r
 ·obtain ⟨_,q⟩ := x a _ r
  exact q
noncomputable def Mut : Option HO → Prop
 | some (.lst _) => True
 | some (.dK _) => True
 | some (.dT _) => True
 | some (.set _ _) => True
 | some (.ins _ _ _) => True
 | some (.ext _) => True
 | _ => False
section
variable {P : Program} {w : World} {H : Hp} {h h' : Heap} {x e : Addr} {o' : HO}
theorem HOk.write (ok : HOk P w H h) (mu : Mut (H x)) (he : e = x ∨ H e = some (.own x)) (k : ∀ b u,b ≠ e → h.get? b = some u → h'.get? b = some u) (heo : ∃ u,h'.get? e = some u)
  (new : ObjOk P w (upd H x o') h' x o') : HOk P w (upd H x o') h' := fun b u q => by
 have nown : ∀ c y,H c = some (.own y) → c ≠ x := fun c y r z => by subst z; rw [r] at mu; exact mu
 have ntup : ∀ c xs,H c = some (.tup xs) → c ≠ x := fun c xs r z => by subst z; rw [r] at mu; exact mu
 by_cases hb : b = x
 ·subst hb; rw [upd_same] at q; cases q; exact new
 ·rw [upd_ne hb] at q
  by_cases hbe : b = e
  ·have q' : H b = some (.own x) := by
    rcases he with z | z
    ·exact absurd (hbe.trans z) hb
    ·rw [hbe]; exact z
   rw [q] at q'; cases q'
   obtain ⟨v,hv⟩ := heo
   exact ⟨v,by rw [hbe]; exact hv⟩
  ·refine (ok b u q).stay (fun c v hc r => k c v ?_ r) (fun c r => by rw [upd_ne (nown c b r)]; exact r) fun c xs r => by rw [upd_ne (ntup c xs r)]; exact r
   rcases hc with rfl | hc
   ·exact hbe
   ·rintro rfl
    rcases he with z | z
    ·exact nown c b hc z
    ·rw [hc] at z; cases z; exact hb rfl
end
structure Un (fs ex : List Addr) (H H' : Hp) (h h' : Heap) : Prop where
 keep : ∀ b o,h.get? b = some o → H b = none → b ∉ fs → b ∉ ex → h'.get? b = some o
 slot : ∀ b o,h.get? b = some o → H b = none → b ∈ fs → b ∉ ex → ∃ sl,h'.get? b = some { o with slots := sl }
 free : ∀ b o,h.get? b = some o → H b = none → b ∉ ex → H' b = none
 there : ∀ b o,h.get? b = some o → b ∉ ex → ∃ o',h'.get? b = some o'
 tups : ∀ b xs,H b = some (.tup xs) → H' b = some (.tup xs)
 frzs : ∀ b o u,H b = some (.frz o u) → H' b = some (.frz o u)
 tbls : ∀ b ps,H b = some (.tbl ps) → ∃ more,H' b = some (.tbl (ps ++ more))
section
variable {fs fs' ex ex' : List Addr} {H H1 H2 : Hp} {h h1 h2 h' : Heap} {a x e : Addr} {o : HO}
theorem Un.any (u : Un fs ex H H1 h h1) {b : Addr} {ob : Obj} (q : h.get? b = some ob) (n : H b = none) (hx : b ∉ ex) : ∃ sl,h1.get? b = some { ob with slots := sl } := by
 by_cases hb : b ∈ fs
 ·exact u.slot b ob q n hb hx
 ·exact ⟨ob.slots,u.keep b ob q n hb hx⟩
theorem Un.kept (k : ∀ b u,h.get? b = some u → h'.get? b = some u) : Un fs ex H H h h' :=
 ⟨fun b ob q _ _ _ => k b ob q,fun b ob q _ _ _ => ⟨ob.slots,k b ob q⟩,fun _ _ _ n _ => n,fun b ob q _ => ⟨ob,k b ob q⟩,fun _ _ q => q,fun _ _ _ q => q,fun _ ps q => ⟨#[],by rw [q]; simp⟩⟩
theorem Un.refl : Un fs ex H H h h := Un.kept fun _ _ q => q
theorem Un.laid (k : ∀ b u,h.get? b = some u → h'.get? b = some u) (hp : h.objs.size ≤ a) (hn : H a = none) : Un fs ex H (upd H a o) h h' where
 keep := fun b u q _ _ _ => k b u q
 slot := fun b u q _ _ _ => ⟨u.slots,k b u q⟩
 free := fun b u q n _ => by rw [upd_ne (Nat.ne_of_lt (Nat.lt_of_lt_of_le (Heap.lt_size q) hp))]; exact n
 there := fun b u q _ => ⟨u,k b u q⟩
 tups := fun b xs q => by rw [upd_ne (ne_of_none q hn)]; exact q
 frzs := fun b u xs q => by rw [upd_ne (ne_of_none q hn)]; exact q
 tbls := fun b ps q => ⟨#[],by rw [upd_ne (ne_of_none q hn),q]; simp⟩
theorem Un.write (mu : Mut (H x)) (he : e = x ∨ H e = some (.own x)) (k : ∀ b u,b ≠ e → h.get? b = some u → h'.get? b = some u) (heo : ∃ u,h'.get? e = some u) : Un fs ex H (upd H x o) h h' := by
 have hx : ∀ b,H b = none → b ≠ x := fun b n z => by subst z; rw [n] at mu; exact mu
 have hb : ∀ b,H b = none → b ≠ e := fun b n z => by
  subst z
  rcases he with r | r
  ·exact hx b n r
  ·rw [n] at r; cases r
 have hm : ∀ b u,H b = some u → ¬ Mut (some u) → b ≠ x := fun b u q nm z => by subst z; rw [q] at mu; exact nm mu
 refine ⟨fun b u q n _ _ => k b u (hb b n) q,fun b u q n _ _ => ⟨u.slots,k b u (hb b n) q⟩,fun b u q n _ => by rw [upd_ne (hx b n)]; exact n,fun b u q _ => ?_,
  fun b xs q => by rw [upd_ne (hm b _ q fun z => z)]; exact q,fun b u xs q => by rw [upd_ne (hm b _ q fun z => z)]; exact q,fun b ps q => ⟨#[],by rw [upd_ne (hm b _ q fun z => z),q]; simp⟩⟩
 by_cases hbe : b = e
 ·subst hbe; exact heo
 ·exact ⟨u,k b u hbe q⟩
end
noncomputable def trk (h : Heap) (H : Hp) : List Addr := (List.range h.objs.size).filter fun a => (H a).isSome
noncomputable def hidT (h : Heap) (H : Hp) : Heap := PySem.W.hideAll h (trk h H)
theorem hidT_size (h : Heap) (H : Hp) : (hidT h H).objs.size = h.objs.size := PySem.W.hideAll_size _ _
theorem hidT_get {h : Heap} {H : Hp} {b : Addr} {o : Obj} (e : h.get? b = some o) (n : H b = none) : (hidT h H).get? b = some o :=
 PySem.W.hideAll_get _ e fun hm => by
  have q : (H b).isSome = true := (List.mem_filter.mp hm).2
  rw [n] at q; simp at q
theorem of_hidT {h : Heap} {H : Hp} {b : Addr} {o : Obj} (e : (hidT h H).get? b = some o) : h.get? b = some o ∧ H b = none := by
 have e' : h.get? b = some o := PySem.W.of_hideAll (trk h H) e
 refine ⟨e',?_⟩
 cases q : H b with
 | none => rfl
 | some x =>
  have hm : b ∈ trk h H := List.mem_filter.mpr ⟨List.mem_range.mpr (Heap.lt_size e'),by simp [q]⟩
  have z : (hidT h H).get? b = none := PySem.W.hideAll_none (trk h H) hm
  rw [z] at e; cases e
noncomputable def allNews (g h : Heap) (L : Addr) : List (Addr × Obj) := (List.range h.objs.size).filterMap fun a => if a = L ∨ (g.get? a).isSome = true then none else (h.get? a).map fun o => (a,o)
noncomputable def rest (g h : Heap) (L d : Addr) : List (Addr × Obj) := (allNews g h L).filter fun p => decide (p.1 ≠ d)
end L2
namespace L2
open PySem PySem.Spec PyProof.Rows
structure Mod (K : PySem.W.Frag) (mg : Str → Option Value) (base : Heap) : Prop where
 kin : K.In base
 glob : base.Ns mainGlobals mg
 blt : ∃ mb,base.Ns builtinsNs mb ∧ ∀ x : Str,x ≠ "__name__" → mb x = bootBuiltins x
 nolimit : base.NoLimit
structure Cx where
 prog : Program
 w : World
 K : PySem.W.Frag
 mg : Str → Option Value
 base : Heap
 A : Around
 N : List Str
 s₀ : Shared
 H₀ : Hp
 env : Env
 outer : List Env
 stack : List Env
 ex : List Addr
 fn : Str → Bool
 calm : Bool
 pn : List (Addr × Obj)
 xe : Value → Shared → Prop
noncomputable def frs (l : List Env) : List Addr := l.filterMap (·.frame)
noncomputable abbrev Cx.fs (X : Cx) : List Addr := frs X.outer
noncomputable def Vis (sc : Scope) (x : Str) : Prop := sc.names.lookup x = some .local ∨ sc.names.lookup x = some .cell ∨ sc.names.lookup x = some .free
noncomputable def Loc (sc : Scope) (x : Str) : Prop := sc.names.lookup x = some .local ∨ sc.names.lookup x = some .cell
noncomputable def Look (env : Env) (h : Heap) (m : Str → Option Value) (x : Str) (u : Value) : Prop :=
 (env.kindOf x = some .local ∧ m x = some u) ∨ ((env.kindOf x = some .cell ∨ env.kindOf x = some .free) ∧ ∃ c,env.cells.lookup x = some c ∧ h.IsCell c (some u))
structure Cx.Ok (X : Cx) : Prop where
 mod : Mod X.K X.mg X.base
 kind : X.env.scope.kind = .function
 glob : X.env.globals = mainGlobals
 blt : X.env.builtins = builtinsNs
 above : X.s₀.heap.objs.size ≤ X.env.locals
 inj : ∀ x y c,X.env.cells.lookup x = some c → X.env.cells.lookup y = some c → x = y
 has : ∀ x,(X.env.kindOf x = some .cell ∨ X.env.kindOf x = some .free) → ∃ c,X.env.cells.lookup x = some c
 cab : ∀ x c,X.fn x = true → X.env.cells.lookup x = some c → X.s₀.heap.objs.size ≤ c
 hd : X.calm = true → X.A.handled = none
 frames : X.A.frames = some X.stack
 stk : X.stack = X.outer ∨ (X.stack = X.env :: X.outer ∧ X.env.frame = some X.env.locals)
 exf : ∀ b ∈ X.ex,b ≠ X.env.locals ∧ ∀ x c,X.env.cells.lookup x = some c → c ≠ b
 bs : ∀ b o,X.base.get? b = some o → X.s₀.heap.get? b = some o ∧ X.H₀ b = none
 bsz : X.base.objs.size ≤ X.s₀.heap.objs.size
 noex : ∀ b o,X.base.get? b = some o → b ∉ X.ex
 exfs : ∀ b ∈ X.ex,b ∉ X.fs
 funs : X.s₀.heap.FunFrames X.base X.outer
 frf : ∀ b ∈ X.fs,X.H₀ b = none
structure Inv (X : Cx) (pins : List (Addr × Obj)) (σ : List (Option V)) (H : Hp) (s : Shared) : Prop where
 ok : X.Ok
 os : s.os = X.s₀.os
 bare : AllBare s.gens
 base : Un X.fs X.ex X.H₀ H X.s₀.heap s.heap
 loc : ∃ m,s.heap.Ns X.env.locals m ∧ ∀ (i : Nat) (x : Str) (v : V),X.N[i]? = some x → σ[i]? = some (some v) → Vis X.env.scope x → ∃ u,RelV v u ∧ Look X.env s.heap m x u
 cell : ∀ x c,X.env.cells.lookup x = some c → ∃ v,s.heap.IsCell c v
 free : H X.env.locals = none
 freeC : ∀ x c,X.env.cells.lookup x = some c → H c = none
 pin : ∀ p ∈ X.pn ++ pins,s.heap.get? p.1 = some p.2 ∧ H p.1 = none ∧ p.1 ≠ X.env.locals ∧ p.1 ∉ X.fs ∧ ∀ v,p.2.data ≠ .cell v
 hok : HOk X.prog X.w H s.heap
 len : σ.length = X.N.length
section
variable {X : Cx} {pins : List (Addr × Obj)} {σ : List (Option V)} {H H' : Hp} {s : Shared} {h' : Heap}
theorem Cx.Ok.nofr (ok : X.Ok) {b : Addr} {o : Obj} (e : X.base.get? b = some o) : b ∉ X.fs := fun hb => by
 have := (ok.funs.mem hb).1
 rw [e] at this; cases this
theorem Inv.bs (I : Inv X pins σ H s) : ∀ b o,X.base.get? b = some o → s.heap.get? b = some o ∧ H b = none := fun b o e =>
 ⟨I.base.keep b o (I.ok.bs b o e).1 (I.ok.bs b o e).2 (I.ok.nofr e) (I.ok.noex b o e),I.base.free b o (I.ok.bs b o e).1 (I.ok.bs b o e).2 (I.ok.noex b o e)⟩
theorem Inv.bk (I : Inv X pins σ H s) : ∀ b o,X.base.get? b = some o → s.heap.get? b = some o := fun b o e => (I.bs b o e).1
theorem Inv.mod (I : Inv X pins σ H s) : Mod X.K X.mg X.base := I.ok.mod
theorem Inv.kIn (I : Inv X pins σ H s) : X.K.In s.heap := I.ok.mod.kin.keeps I.bk
theorem Inv.lt (I : Inv X pins σ H s) : X.env.locals < s.heap.objs.size := let ⟨_,hn,_⟩ := I.loc; hn.lt
theorem Inv.sz (I : Inv X pins σ H s) : X.s₀.heap.objs.size ≤ s.heap.objs.size := Nat.le_trans I.ok.above (Nat.le_of_lt I.lt)
theorem Inv.nofs (I : Inv X pins σ H s) {a : Addr} (h : s.heap.objs.size ≤ a) : a ∉ X.fs := fun hb => by
 obtain ⟨_,o,ho,_⟩ := I.ok.funs.mem hb
 exact absurd (Nat.lt_of_lt_of_le (Heap.lt_size ho) (Nat.le_trans I.sz h)) (Nat.lt_irrefl _)
theorem Inv.cne (I : Inv X pins σ H s) : ∀ x c,X.env.cells.lookup x = some c → c ≠ X.env.locals := fun x c e z => by
 obtain ⟨v,o,ho,hd⟩ := I.cell x c e
 obtain ⟨m,⟨o',es,ep,ho',hd',_⟩,_⟩ := I.loc
 rw [z,ho'] at ho; cases ho; rw [hd'] at hd; cases hd
theorem Inv.funs (I : Inv X pins σ H s) : s.heap.FunFrames X.base X.outer := by
 have all : ∀ (l : List Env),(∀ b ∈ frs l,b ∈ X.fs) → X.s₀.heap.FunFrames X.base l → s.heap.FunFrames X.base l := by
  intro l
  induction l with
  | nil => intro _ _; trivial
  | cons env r ih =>
   intro hs hl
   obtain ⟨hk,⟨L,o,hf,hn,ho,hd⟩,hr⟩ := hl
   have hL : L ∈ X.fs := hs L (by unfold frs; rw [List.filterMap_cons,hf]; exact List.mem_cons_self)
   obtain ⟨sl,e⟩ := I.base.slot L o ho (I.ok.frf L hL) hL fun z => I.ok.exfs L z hL
   exact ⟨hk,⟨L,_,hf,hn,e,hd⟩,ih (fun b hb => hs b (by unfold frs; rw [List.filterMap_cons,hf]; exact List.mem_cons_of_mem _ hb)) hr⟩
 exact all X.outer (fun _ hb => hb) I.ok.funs
theorem Inv.stack (I : Inv X pins σ H s) : s.heap.FunFrames X.base X.stack := by
 rcases I.ok.stk with e | ⟨e,hf⟩
 ·rw [e]; exact I.funs
 ·rw [e]
  obtain ⟨m,hn,_⟩ := I.loc
  refine .cons (by rw [I.ok.kind]; decide) hf hn ?_ I.funs
  exact Heap.get?_none_of_le (Nat.le_trans I.ok.bsz I.ok.above)
theorem Inv.stkSub (I : Inv X pins σ H s) : ∀ b ∈ frs X.stack,b ∈ X.env.locals :: X.fs := fun b hb => by
 rcases I.ok.stk with e | ⟨e,hf⟩
 ·rw [e] at hb; exact List.mem_cons_of_mem _ hb
 ·rw [e] at hb
  unfold frs at hb
  rw [List.filterMap_cons,hf] at hb
  exact hb
theorem Inv.stkFree (I : Inv X pins σ H s) : ∀ b ∈ frs X.stack,H b = none := fun b hb => by
 rcases List.mem_cons.mp (I.stkSub b hb) with e | hb
 ·rw [e]; exact I.free
 ·obtain ⟨_,o,ho,_⟩ := I.ok.funs.mem hb
  exact I.base.free b o ho (I.ok.frf b hb) fun z => I.ok.exfs b z hb
theorem Inv.step {g' : Array GenState} {t' : Nat} {d' : Drawn} {ch : List Addr} (I : Inv X pins σ H s)
  (hch : ∀ b ∈ ch,(b ∈ X.ex ∨ X.s₀.heap.objs.size ≤ b) ∧ b ≠ X.env.locals ∧ (∀ x c,X.env.cells.lookup x = some c → c ≠ b) ∧ ∀ p ∈ X.pn ++ pins,p.1 ≠ b)
  (keep : ∀ b o,b ≠ X.env.locals → b ∉ X.fs → b ∉ ch → s.heap.get? b = some o → H b = none → h'.get? b = some o)
  (slot : ∀ b o,b ≠ X.env.locals → b ∈ X.fs → b ∉ ch → s.heap.get? b = some o → H b = none → ∃ sl,h'.get? b = some { o with slots := sl }) (free : ∀ b o,b ∉ ch → s.heap.get? b = some o → H b = none → H' b = none)
  (there : ∀ b o,b ∉ ch → s.heap.get? b = some o → ∃ o',h'.get? b = some o')
  (tups : ∀ b xs,H b = some (.tup xs) → H' b = some (.tup xs)) (frzs : ∀ b o u,H b = some (.frz o u) → H' b = some (.frz o u)) (tbls : ∀ b ps,H b = some (.tbl ps) → ∃ more,H' b = some (.tbl (ps ++ more)))
  (ns : ∀ m,s.heap.Ns X.env.locals m → h'.Ns X.env.locals m) (hok : HOk X.prog X.w H' h') (hg : AllBare g') :
  Inv X pins σ H' { s with heap := h',gens := g',drawn := d',toks := t' } := by
 have neL : ∀ b o,X.s₀.heap.get? b = some o → b ≠ X.env.locals := fun b o e => Nat.ne_of_lt (Nat.lt_of_lt_of_le (Heap.lt_size e) I.ok.above)
 have neC : ∀ b o,X.s₀.heap.get? b = some o → b ∉ X.ex → b ∉ ch := fun b o e hx hb => by
  rcases (hch b hb).1 with z | z
  ·exact hx z
  ·exact absurd (Nat.lt_of_lt_of_le (Heap.lt_size e) z) (Nat.lt_irrefl _)
 have cellK : ∀ x c,X.env.cells.lookup x = some c → ∀ v,s.heap.IsCell c v → h'.IsCell c v := fun x c e v ⟨o,ho,hd⟩ => by
  have nch : c ∉ ch := fun z => (hch c z).2.2.1 x c e rfl
  by_cases hc : c ∈ X.fs
  ·obtain ⟨sl,q⟩ := slot c o (I.cne x c e) hc nch ho (I.freeC x c e)
   exact ⟨_,q,hd⟩
  ·exact ⟨o,keep c o (I.cne x c e) hc nch ho (I.freeC x c e),hd⟩
 refine ⟨I.ok,I.os,hg,⟨fun b o e n hb hx => ?_,fun b o e n hb hx => ?_,fun b o e n hx => ?_,fun b o e hx => ?_,fun b xs e => tups b xs (I.base.tups b xs e),fun b o xs e => frzs b o xs (I.base.frzs b o xs e),fun b ps e => ?_⟩,?_,fun x c e => ?_,?_,fun x c e => ?_,fun p hp => ?_,hok,I.len⟩
 ·exact keep b o (neL b o e) hb (neC b o e hx) (I.base.keep b o e n hb hx) (I.base.free b o e n hx)
 ·obtain ⟨sl,e1⟩ := I.base.slot b o e n hb hx
  obtain ⟨sl',e2⟩ := slot b _ (neL b o e) hb (neC b o e hx) e1 (I.base.free b o e n hx)
  exact ⟨sl',e2⟩
 ·obtain ⟨o',e1⟩ := I.base.there b o e hx
  exact free b o' (neC b o e hx) e1 (I.base.free b o e n hx)
 ·obtain ⟨o',e1⟩ := I.base.there b o e hx
  exact there b o' (neC b o e hx) e1
 ·obtain ⟨m1,e1⟩ := I.base.tbls b ps e
  obtain ⟨m2,e2⟩ := tbls b _ e1
  exact ⟨m1 ++ m2,by rw [e2,Array.append_assoc]⟩
 ·obtain ⟨m,hn,hl⟩ := I.loc
  refine ⟨m,ns m hn,fun i x v e1 e2 e3 => ?_⟩
  obtain ⟨u,r,l⟩ := hl i x v e1 e2 e3
  refine ⟨u,r,?_⟩
  rcases l with l | ⟨k,c,e,z⟩
  ·exact .inl l
  ·exact .inr ⟨k,c,e,cellK x c e _ z⟩
 ·obtain ⟨v,z⟩ := I.cell x c e
  exact ⟨v,cellK x c e v z⟩
 ·obtain ⟨m,⟨o,_,_,ho,_⟩,_⟩ := I.loc
  exact free _ o (fun z => (hch _ z).2.1 rfl) ho I.free
 ·obtain ⟨v,o,ho,hd⟩ := I.cell x c e
  exact free c o (fun z => (hch c z).2.2.1 x c e rfl) ho (I.freeC x c e)
 ·obtain ⟨e,n,ne,nf,d⟩ := I.pin p hp
  have nch : p.1 ∉ ch := fun z => (hch p.1 z).2.2.2 p hp rfl
  exact ⟨keep p.1 p.2 ne nf nch e n,free p.1 p.2 nch e n,ne,nf,d⟩
theorem Inv.un {t' : Nat} (I : Inv X pins σ H s) (u : Un X.fs [] H H' s.heap h') (hok : HOk X.prog X.w H' h') : Inv X pins σ H' { s with heap := h',toks := t' } := by
 obtain ⟨m,⟨o,es,ep,ho,r⟩,_⟩ := id I.loc
 obtain ⟨sl,hL⟩ := u.any ho I.free (by simp)
 exact I.step (g' := s.gens) (d' := s.drawn) (ch := []) (fun _ z => nomatch z) (fun b o _ hb _ e n => u.keep b o e n hb (by simp)) (fun b o _ hb _ e n => u.slot b o e n hb (by simp)) (fun b o _ e n => u.free b o e n (by simp)) (fun b o _ e => u.there b o e (by simp)) u.tups u.frzs u.tbls (fun m' hm => by
  obtain ⟨o',es',ep',ho',r'⟩ := hm
  rw [ho] at ho'; cases ho'
  exact ⟨_,es',ep',hL,r'⟩) hok I.bare
theorem Inv.call {g' : Array GenState} {t' : Nat} {d' : Drawn} {ch : List Addr} (I : Inv X pins σ H s) (u : Un (frs X.stack) ch H H' s.heap h') (hok : HOk X.prog X.w H' h') (hg : AllBare g')
  (hch : ∀ b ∈ ch,(b ∈ X.ex ∨ X.s₀.heap.objs.size ≤ b) ∧ b ≠ X.env.locals ∧ (∀ x c,X.env.cells.lookup x = some c → c ≠ b) ∧ ∀ p ∈ X.pn ++ pins,p.1 ≠ b) :
  Inv X pins σ H' { s with heap := h',gens := g',drawn := d',toks := t' } := by
 obtain ⟨m,⟨o,es,ep,ho,r⟩,_⟩ := id I.loc
 obtain ⟨sl,hL⟩ := u.any ho I.free fun z => (hch _ z).2.1 rfl
 exact I.step (ch := ch) hch (fun b o hL hb hc e n => u.keep b o e n (fun z => (List.mem_cons.mp (I.stkSub b z)).elim hL hb) hc) (fun b o _ _ hc e n => u.any e n hc) (fun b o hc e n => u.free b o e n hc) (fun b o hc e => u.there b o e hc) u.tups u.frzs u.tbls (fun m' hm => by
  obtain ⟨o',es',ep',ho',r'⟩ := hm
  rw [ho] at ho'; cases ho'
  exact ⟨_,es',ep',hL,r'⟩) hok hg
theorem Inv.turned {t' : Nat} {it : Addr} (I : Inv X pins σ H s) (k : ∀ b o,b ≠ it → s.heap.get? b = some o → h'.get? b = some o) (hn : H it = none) (hL : it ≠ X.env.locals)
  (h1 : it ∈ X.ex ∨ X.s₀.heap.objs.size ≤ it) (h2 : ∀ x c,X.env.cells.lookup x = some c → c ≠ it) (h3 : ∀ p ∈ X.pn ++ pins,p.1 ≠ it) : Inv X pins σ H { s with heap := h',toks := t' } := by
 have nit : ∀ b u,H b = some u → b ≠ it := fun b u e z => by rw [z,hn] at e; cases e
 refine I.step (g' := s.gens) (d' := s.drawn) (ch := [it]) (fun b hb => ?_) (fun b o _ _ hc e _ => k b o (fun z => hc (by simp [z])) e) (fun b o _ _ hc e _ => ⟨o.slots,k b o (fun z => hc (by simp [z])) e⟩) (fun _ _ _ _ n => n)
  (fun b o hc e => ⟨o,k b o (fun z => hc (by simp [z])) e⟩) (fun _ _ e => e) (fun _ _ _ e => e) (fun b ps e => ⟨#[],by rw [e]; simp⟩) (fun m hm => ?_) (fun b u e => ?_) I.bare
 ·have e : b = it := by simpa using hb
  subst e
  exact ⟨h1,hL,h2,h3⟩
 ·obtain ⟨o,es,ep,ho,r⟩ := hm
  exact ⟨o,es,ep,k _ o (Ne.symm hL) ho,r⟩
 ·refine (I.hok b u e).stay (fun c v hc q => k c v ?_ q) (fun _ q => q) fun _ _ q => q
  rcases hc with z | z
  ·rw [z]; exact nit b u e
  ·exact nit c _ z
theorem Inv.tok (I : Inv X pins σ H s) (t : Nat) : Inv X pins σ H { s with toks := t } := I.un (h' := s.heap) (t' := t) Un.refl I.hok
theorem Inv.kept {t' : Nat} (I : Inv X pins σ H s) (k : ∀ b u,s.heap.get? b = some u → h'.get? b = some u) : Inv X pins σ H { s with heap := h',toks := t' } := I.un (Un.kept k) (I.hok.kept k)
theorem Inv.laid {a : Addr} {o : HO} {t' : Nat} (I : Inv X pins σ H s) (k : ∀ b u,s.heap.get? b = some u → h'.get? b = some u) (hp : s.heap.objs.size ≤ a) (new : ObjOk X.prog X.w (upd H a o) h' a o) :
  Inv X pins σ (upd H a o) { s with heap := h',toks := t' } := I.un (Un.laid k hp (I.hok.fresh hp)) (I.hok.laid k hp new)
theorem Inv.write {x e : Addr} {o : HO} {t' : Nat} (I : Inv X pins σ H s) (mu : Mut (H x)) (he : e = x ∨ H e = some (.own x)) (k : ∀ b u,b ≠ e → s.heap.get? b = some u → h'.get? b = some u) (heo : ∃ u,h'.get? e = some u)
  (new : ObjOk X.prog X.w (upd H x o) h' x o) : Inv X pins σ (upd H x o) { s with heap := h',toks := t' } := I.un (Un.write mu he k heo) (I.hok.write mu he k heo new)
theorem Inv.pins_of {pins' : List (Addr × Obj)} (I : Inv X pins σ H s) (h : ∀ p ∈ pins',s.heap.get? p.1 = some p.2 ∧ H p.1 = none ∧ p.1 ≠ X.env.locals ∧ p.1 ∉ X.fs ∧ ∀ v,p.2.data ≠ .cell v) : Inv X pins' σ H s :=
 ⟨I.ok,I.os,I.bare,I.base,I.loc,I.cell,I.free,I.freeC,fun p hp => (List.mem_append.mp hp).elim (fun z => I.pin p (List.mem_append_left _ z)) (h p),I.hok,I.len⟩
theorem nodup_ix {N : List Str} (hN : N.Nodup) {i j : Nat} {x : Str} (a : N[i]? = some x) (b : N[j]? = some x) : i = j := by
 obtain ⟨h1,e1⟩ := List.getElem?_eq_some_iff.mp a
 obtain ⟨h2,e2⟩ := List.getElem?_eq_some_iff.mp b
 exact (List.getElem_inj hN).mp (e1.trans e2.symm)
theorem store_ok2 {M : Model} {A : Around} {E : Value → Shared → Prop} {i : Nat} {x : Str} {v : V} {u : Value} {Q : Unit → Shared → Prop} (I : Inv X pins σ H s) (hN : X.N.Nodup) (hi : X.N[i]? = some x) (hx : Loc X.env.scope x) (r : RelV v u)
  (h : ∀ s',Inv X pins (σ.set i (some v)) H s' → (∃ a,Heap.SameBut a s.heap s'.heap ∧ (a = X.env.locals ∨ X.env.cells.lookup x = some a)) → Q () s') (hf : X.fn x = true ∨ X.env.scope.names.lookup x = some .local := by first | exact .inl rfl | exact .inr rfl | assumption) : wpAny M A (storeName X.env x u) Q E s := by
 obtain ⟨m,hn,hl⟩ := id I.loc
 have hcls : (X.env.scope.kind == .class || (X.env.scope.kind == .module && X.env.locals != X.env.globals)) = false := by rw [I.ok.kind]; rfl
 have hiσ : i < σ.length := by rw [I.len]; exact (List.getElem?_eq_some_iff.mp hi).1
 have cne := I.cne
 have tracked : ∀ {a : Addr} {h' : Heap},(∃ o,s.heap.get? a = some o ∧ H a = none) → Heap.SameBut a s.heap h' → HOk X.prog X.w H h' := fun {a h'} ha hs b ob e => by
  obtain ⟨_,_,hfree⟩ := ha
  refine (I.hok b ob e).stay (fun c w' hc q => (hs.2 c ?_).trans q) (fun _ q => q) fun _ _ q => q
  rintro rfl
  rcases hc with rfl | hc
  ·rw [hfree] at e; cases e
  ·rw [hfree] at hc; cases hc
 rcases hx with hk | hk
 ·refine wpAny_storeName_local hk hn (fun h' hn' hs => ?_) hcls
  obtain ⟨oL,_,_,hoL,_⟩ := id hn
  refine h _ ⟨I.ok,I.os,I.bare,⟨fun b o e n hb hx => ?_,fun b o e n hb hx => ?_,I.base.free,fun b o e hx => ?_,I.base.tups,I.base.frzs,I.base.tbls⟩,⟨_,hn',fun j y v' e1 e2 e3 => ?_⟩,fun y c e => ?_,I.free,I.freeC,fun p hp => ?_,tracked ⟨oL,hoL,I.free⟩ hs,by simpa using I.len⟩ ⟨_,hs,.inl rfl⟩
  ·exact (hs.2 b (Nat.ne_of_lt (Nat.lt_of_lt_of_le (Heap.lt_size e) I.ok.above))).trans (I.base.keep b o e n hb hx)
  ·obtain ⟨sl,e1⟩ := I.base.slot b o e n hb hx
   exact ⟨sl,(hs.2 b (Nat.ne_of_lt (Nat.lt_of_lt_of_le (Heap.lt_size e) I.ok.above))).trans e1⟩
  ·obtain ⟨o',e1⟩ := I.base.there b o e hx
   exact ⟨o',(hs.2 b (Nat.ne_of_lt (Nat.lt_of_lt_of_le (Heap.lt_size e) I.ok.above))).trans e1⟩
  ·by_cases hj : j = i
   ·subst hj
    rw [hi] at e1; cases e1
    rw [List.getElem?_set_self hiσ] at e2
    cases e2
    exact ⟨u,r,.inl ⟨hk,by simp⟩⟩
   ·rw [List.getElem?_set_ne (Ne.symm hj)] at e2
    obtain ⟨u',r',q⟩ := hl j y v' e1 e2 e3
    refine ⟨u',r',?_⟩
    rcases q with ⟨k,e⟩ | ⟨k,c,e,z⟩
    ·refine .inl ⟨k,?_⟩
     have : y ≠ x := fun e => hj (nodup_ix hN e1 (e ▸ hi))
     simp [this,e]
    ·exact .inr ⟨k,c,e,z.sameBut hs (cne y c e)⟩
  ·obtain ⟨w',z⟩ := I.cell y c e
   exact ⟨w',z.sameBut hs (cne y c e)⟩
  ·obtain ⟨e,n,ne,nf,d⟩ := I.pin p hp
   exact ⟨(hs.2 p.1 ne).trans e,n,ne,nf,d⟩
 ·have hfn : X.fn x = true := by
   rcases hf with z | z
   ·exact z
   ·rw [z] at hk; cases hk
  obtain ⟨c,hc⟩ := I.ok.has x (.inl hk)
  obtain ⟨w',z⟩ := I.cell x c hc
  refine wpAny_storeName_cell I.ok.kind hk hc z (fun h' hc' hs => ?_)
  obtain ⟨oc,hoc,hocd⟩ := id z
  refine h { s with heap := h' } ⟨I.ok,I.os,I.bare,⟨fun b o e n hb hx => ?_,fun b o e n hb hx => ?_,I.base.free,fun b o e hx => ?_,I.base.tups,I.base.frzs,I.base.tbls⟩,⟨m,hn.sameBut hs (Ne.symm (cne x c hc)),fun j y v' e1 e2 e3 => ?_⟩,fun y c' e => ?_,I.free,I.freeC,fun p hp => ?_,tracked ⟨oc,hoc,I.freeC x c hc⟩ hs,by simpa using I.len⟩ ⟨c,hs,.inr hc⟩
  ·exact (hs.2 b (Nat.ne_of_lt (Nat.lt_of_lt_of_le (Heap.lt_size e) (I.ok.cab x c hfn hc)))).trans (I.base.keep b o e n hb hx)
  ·obtain ⟨sl,e1⟩ := I.base.slot b o e n hb hx
   exact ⟨sl,(hs.2 b (Nat.ne_of_lt (Nat.lt_of_lt_of_le (Heap.lt_size e) (I.ok.cab x c hfn hc)))).trans e1⟩
  ·obtain ⟨o',e1⟩ := I.base.there b o e hx
   exact ⟨o',(hs.2 b (Nat.ne_of_lt (Nat.lt_of_lt_of_le (Heap.lt_size e) (I.ok.cab x c hfn hc)))).trans e1⟩
  ·by_cases hj : j = i
   ·subst hj
    rw [hi] at e1; cases e1
    rw [List.getElem?_set_self hiσ] at e2
    cases e2
    exact ⟨u,r,.inr ⟨.inl hk,c,hc,hc'⟩⟩
   ·rw [List.getElem?_set_ne (Ne.symm hj)] at e2
    obtain ⟨u',r',q⟩ := hl j y v' e1 e2 e3
    refine ⟨u',r',?_⟩
    rcases q with q | ⟨k,c',e,z'⟩
    ·exact .inl q
    ·refine .inr ⟨k,c',e,z'.sameBut hs ?_⟩
     rintro rfl
     exact hj (nodup_ix hN e1 (I.ok.inj _ _ _ e hc ▸ hi))
  ·by_cases hcc : c' = c
   ·subst hcc; exact ⟨_,hc'⟩
   ·obtain ⟨w2,z2⟩ := I.cell y c' e
    exact ⟨w2,z2.sameBut hs hcc⟩
  ·obtain ⟨e,n,ne,nf,d⟩ := I.pin p hp
   refine ⟨(hs.2 p.1 ?_).trans e,n,ne,nf,d⟩
   intro q
   rw [q,hoc] at e
   have q' : oc = p.2 := Option.some.inj e
   exact d w' (by rw [← q']; exact hocd)
theorem store_ok {M : Model} {A : Around} {E : Value → Shared → Prop} {i : Nat} {x : Str} {v : V} {u : Value} {Q : Unit → Shared → Prop} (I : Inv X pins σ H s) (hN : X.N.Nodup) (hi : X.N[i]? = some x) (hx : Loc X.env.scope x) (r : RelV v u)
  (h : ∀ s',Inv X pins (σ.set i (some v)) H s' → Q () s') (hf : X.fn x = true ∨ X.env.scope.names.lookup x = some .local := by first | exact .inl rfl | exact .inr rfl | assumption) : wpAny M A (storeName X.env x u) Q E s :=
 store_ok2 I hN hi hx r (fun s' I' _ => h s' I') hf
theorem Inv.call' {s' : Shared} {ch : List Addr} (I : Inv X pins σ H s) (ho : s'.os = s.os) (u : Un (frs X.stack) ch H H' s.heap s'.heap) (hok : HOk X.prog X.w H' s'.heap) (hg : AllBare s'.gens)
  (hch : ∀ b ∈ ch,(b ∈ X.ex ∨ X.s₀.heap.objs.size ≤ b) ∧ b ≠ X.env.locals ∧ (∀ x c,X.env.cells.lookup x = some c → c ≠ b) ∧ ∀ p ∈ X.pn ++ pins,p.1 ≠ b) : Inv X pins σ H' s' := by
 obtain ⟨h',g',d',t',o'⟩ := s'
 have e : o' = s.os := ho
 subst e
 exact I.call (g' := g') (t' := t') (d' := d') u hok hg hch
end
noncomputable abbrev XK := Value → Option Addr → Hp → Prop
noncomputable abbrev St := List (Option V)
noncomputable abbrev VK := V → Hp → Prop
noncomputable abbrev TE := St → Hp → VK → Prop
noncomputable abbrev TT := St → Hp → (Bool → Hp → Prop) → Prop
noncomputable abbrev TA := St → Hp → (List V → Hp → Prop) → Prop
structure Ends where
 nx : St → Hp → Prop
 rt : VK
 bk : St → Hp → Prop := fun _ _ => False
 ct : St → Hp → Prop := fun _ _ => False
noncomputable abbrev TS := Ends → St → Hp → Prop
noncomputable def EP (X : Cx) (pins : List (Addr × Obj)) (σ : St) (Q : VK) (u : Value) (s' : Shared) : Prop := ∃ v H',Inv X pins σ H' s' ∧ RelV v u ∧ Q v H'
noncomputable def TP (X : Cx) (pins : List (Addr × Obj)) (σ : St) (Q : Bool → Hp → Prop) (b : Bool) (s' : Shared) : Prop := ∃ H',Inv X pins σ H' s' ∧ Q b H'
noncomputable def AP (X : Cx) (pins : List (Addr × Obj)) (σ : St) (Q : List V → Hp → Prop) (us : List Value) (s' : Shared) : Prop := ∃ vs H',Inv X pins σ H' s' ∧ Vals vs us ∧ Q vs H'
noncomputable def SP (X : Cx) (pins : List (Addr × Obj)) (D : Ends) (f : Flow) (s' : Shared) : Prop :=
 match f with
 | .next => ∃ σ' H',Inv X pins σ' H' s' ∧ D.nx σ' H'
 | .brk => ∃ σ' H',Inv X pins σ' H' s' ∧ D.bk σ' H'
 | .cont => ∃ σ' H',Inv X pins σ' H' s' ∧ D.ct σ' H'
 | .ret u => ∃ v σ' H',Inv X pins σ' H' s' ∧ RelV v u ∧ D.rt v H'
noncomputable def PE (X : Cx) (e : Expr) (t : TE) : Prop :=
 ∀ (pins : List (Addr × Obj)) (s : Shared) (σ : St) (H : Hp) (Q : VK),Inv X pins σ H s → t σ H Q → wpAny (model X.prog X.w) X.A (eval e X.env) (EP X pins σ Q) X.xe s
noncomputable def PT (X : Cx) (e : Expr) (t : TT) : Prop :=
 ∀ (pins : List (Addr × Obj)) (s : Shared) (σ : St) (H : Hp) (Q : Bool → Hp → Prop),Inv X pins σ H s → t σ H Q → wpAny (model X.prog X.w) X.A (isTrue e X.env (eval e X.env)) (TP X pins σ Q) X.xe s
noncomputable def PW (X : Cx) (e : Expr) (t : TT) : Prop :=
 ∀ (whole : Sem Value) (pins : List (Addr × Obj)) (s : Shared) (σ : St) (H : Hp) (Q : Bool → Hp → Prop),Inv X pins σ H s → t σ H Q → wpAny (model X.prog X.w) X.A (isTrue e X.env whole) (TP X pins σ Q) X.xe s
theorem PW.pt {X : Cx} {e : Expr} {t : TT} (h : PW X e t) : PT X e t := h _
noncomputable def PA (X : Cx) (es : List Expr) (t : TA) : Prop :=
 ∀ (pos : Pos) (pins : List (Addr × Obj)) (s : Shared) (σ : St) (H : Hp) (Q : List V → Hp → Prop),Inv X pins σ H s → t σ H Q → wpAny (model X.prog X.w) X.A (spliced (backTo pos (starEach es X.env))) (AP X pins σ Q) X.xe s
noncomputable def PS (X : Cx) (st : Stmt) (t : TS) : Prop :=
 ∀ (pins : List (Addr × Obj)) (s : Shared) (σ : St) (H : Hp) (D : Ends),Inv X pins σ H s → t D σ H → wpAny (model X.prog X.w) X.A (exec st X.env) (SP X pins D) X.xe s
noncomputable def PSs (X : Cx) (st : List Stmt) (t : TS) : Prop :=
 ∀ (pins : List (Addr × Obj)) (s : Shared) (σ : St) (H : Hp) (D : Ends),Inv X pins σ H s → t D σ H → wpAny (model X.prog X.w) X.A (execs st X.env) (SP X pins D) X.xe s
theorem thn {α : Type} {t : Sem α} {Q Q' : α → Shared → Prop} {M : Model} {A : Around} {E : Value → Shared → Prop} {s : Shared} (h : wpAny M A t Q E s) (hQ : ∀ a s,Q a s → Q' a s) : wpAny M A t Q' E s := wpAny_mono h hQ fun _ _ x => x
end L2
namespace L2
open PySem PySem.Spec PyProof.Rows
section
variable {X : Cx}
inductive IVar (i : Nat) (σ : St) (H : Hp) (Q : VK) : Prop
 | mk (v : V) : (σ[i]? = some (some v)) → (Q v H) → IVar i σ H Q
noncomputable def tVar (i : Nat) : TE := fun σ H Q => IVar i σ H Q
noncomputable def tC (v : V) : TE := fun _ H Q => Q v H
theorem pe_var {i : Nat} {x : Str} {pos : Pos} (hN : X.N[i]? = some x) (hv : Vis X.env.scope x) (hd : (x == ("__debug__" : Str)) = false := by decide) (hcd : (x == ("__classdict__" : Str)) = false := by decide) : PE X (.Name x pos) (tVar i) := by
 intro pins s σ H Q I h
 obtain ⟨v,e,h⟩ := h
 obtain ⟨m,hn,hl⟩ := I.loc
 obtain ⟨u,r,l⟩ := hl i x v hN e hv
 have fin : EP X pins σ Q u s := ⟨v,H,I,r,h⟩
 rcases l with ⟨hk,hm⟩ | ⟨hk,c,hc,hcell⟩
 ·exact wpAny_Name (wpAny_loadName_local I.ok.kind hk hn hm fin) hd
 ·rcases hk with hk | hk
  ·exact wpAny_Name (wpAny_loadName_cell I.ok.kind hk hc hcell fin) hd
  ·exact wpAny_Name (wpAny_loadName_free I.ok.kind hk hc hcell fin hcd) hd
theorem pe_int {i j pos} : PE X (.Constant (.int i) j pos) (tC (.int i)) := fun _ _ _ H _ I h => wpAny_Constant_int ⟨.int i,H,I.tok _,⟨_,rfl⟩,h⟩
theorem pe_bl {b j pos} : PE X (.Constant (.bool b) j pos) (tC (.bl b)) := fun _ _ _ H _ I h => Constant_bool ⟨.bl b,H,I,rfl,h⟩
theorem pe_non {j pos} : PE X (.Constant .none j pos) (tC .non) := fun _ _ _ H _ I h => Constant_none ⟨.non,H,I,rfl,h⟩
theorem pe_str {x j pos} : PE X (.Constant (.str x) j pos) (tC (.str x)) := fun _ _ _ H _ I h => Calls.Constant_str ⟨.str x,H,I.tok _,⟨_,rfl⟩,h⟩
noncomputable def Gl (X : Cx) (x : Str) : Prop := X.env.kindOf x = some .globalImplicit
theorem ld_glob {E : Value → Shared → Prop} {pins : List (Addr × Obj)} {s : Shared} {σ : St} {H : Hp} {x : Str} {u : Value} {pos : Pos} {Q : Value → Shared → Prop} (I : Inv X pins σ H s) (hg : Gl X x) (hm : X.mg x = some u) (h : Q u s)
  (hd : (x == ("__debug__" : Str)) = false := by decide) : wpAny (model X.prog X.w) X.A (eval (.Name x pos) X.env) Q E s :=
 Calls.Name_function_global I.ok.kind hg (Calls.loadGlobal_global (by rw [I.ok.glob]; exact I.mod.glob.keeps I.bk) hm h) hd
theorem ld_blt {E : Value → Shared → Prop} {pins : List (Addr × Obj)} {s : Shared} {σ : St} {H : Hp} {x : Str} {u : Value} {pos : Pos} {Q : Value → Shared → Prop} (I : Inv X pins σ H s) (hg : Gl X x) (hm : X.mg x = none) (hv : bootBuiltins x = some u) (h : Q u s)
  (hn : x ≠ "__name__" := by decide) (hd : (x == ("__debug__" : Str)) = false := by decide) : wpAny (model X.prog X.w) X.A (eval (.Name x pos) X.env) Q E s := by
 obtain ⟨mb,h1,h2⟩ := I.mod.blt
 exact Calls.Name_function_global I.ok.kind hg (Calls.loadGlobal_builtin (by rw [I.ok.glob]; exact I.mod.glob.keeps I.bk) hm (by rw [I.ok.blt]; exact h1.keeps I.bk) ((h2 x hn).trans hv) h) hd
theorem pe_glob {x : Str} {v : V} {u : Value} {pos : Pos} (hg : Gl X x) (hm : X.mg x = some u) (r : RelV v u) (hd : (x == ("__debug__" : Str)) = false := by decide) : PE X (.Name x pos) (tC v) :=
 fun _ _ _ H _ I h => ld_glob I hg hm ⟨v,H,I,r,h⟩ hd
theorem pe_bltn {x : Str} {v : V} {u : Value} {pos : Pos} (hg : Gl X x) (hm : X.mg x = none) (hv : bootBuiltins x = some u) (r : RelV v u) (hn : x ≠ "__name__" := by decide) (hd : (x == ("__debug__" : Str)) = false := by decide) : PE X (.Name x pos) (tC v) :=
 fun _ _ _ H _ I h => ld_blt I hg hm hv ⟨v,H,I,r,h⟩ hn hd
variable {a b : Expr} {ta tb : TE} {pos : Pos}
noncomputable def tB (t : TE) : TT := fun σ H Q => t σ H fun x H1 => ∃ c,x = .bl c ∧ Q c H1
theorem pt_val {e : Expr} {t : TE} (h : PE X e t) (he : ∀ whole,isTrue e X.env whole = (do let v ← whole; standAt e.pos; holding [v] (truthy v)) := by intro _; rfl) : PT X e (tB t) := by
 intro pins s σ H Q I hw
 refine isTrue_plain (thn (h pins s σ H _ I hw) fun v s1 ⟨x,H1,I1,r1,q1⟩ => ?_) (he _)
 obtain ⟨d,rfl,q⟩ := q1
 cases r1
 exact wpAny_truthy_bool ⟨H1,I1,q⟩
variable {tA tB' : TT} {rest : List Expr}
noncomputable def tAnd (t u : TT) : TT := fun σ H Q => t σ H fun c H1 => if c = true then u σ H1 Q else Q false H1
noncomputable def tOr (t u : TT) : TT := fun σ H Q => t σ H fun c H1 => if c = true then Q true H1 else u σ H1 Q
noncomputable def tNot (t : TT) : TT := fun σ H Q => t σ H fun c H1 => Q (!c) H1
theorem pw_and1 (ha : PT X a tA) : PW X (.BoolOp .And [a] pos) tA := by
 intro wh pins s σ H Q I h
 refine isTrue_and (thn (ha pins s σ H Q I h) fun c s1 e => ?_)
 cases c with
 | true => exact isTrue_and_nil e
 | false => exact e
theorem pw_or1 (ha : PT X a tA) : PW X (.BoolOp .Or [a] pos) tA := by
 intro wh pins s σ H Q I h
 refine isTrue_or (thn (ha pins s σ H Q I h) fun c s1 e => ?_)
 cases c with
 | false => exact isTrue_or_nil e
 | true => exact e
theorem pw_and (ha : PT X a tA) (hb : PW X (.BoolOp .And (b :: rest) pos) tB') : PW X (.BoolOp .And (a :: b :: rest) pos) (tAnd tA tB') := by
 intro wh pins s σ H Q I h
 refine isTrue_and (thn (ha pins s σ H _ I h) fun c s1 ⟨H1,I1,q1⟩ => ?_)
 cases c with
 | true => exact hb wh pins s1 σ H1 Q I1 q1
 | false => exact ⟨H1,I1,q1⟩
theorem pw_or (ha : PT X a tA) (hb : PW X (.BoolOp .Or (b :: rest) pos) tB') : PW X (.BoolOp .Or (a :: b :: rest) pos) (tOr tA tB') := by
 intro wh pins s σ H Q I h
 refine isTrue_or (thn (ha pins s σ H _ I h) fun c s1 ⟨H1,I1,q1⟩ => ?_)
 cases c with
 | true => exact ⟨H1,I1,q1⟩
 | false => exact hb wh pins s1 σ H1 Q I1 q1
theorem pt_not (ha : PT X a tA) : PT X (.UnaryOp .Not a pos) (tNot tA) := by
 intro pins s σ H Q I h
 exact isTrue_not (ha pins s σ H (fun c H1 => Q (!c) H1) I h)
noncomputable def tAndV (ta tb : TE) : TE := fun σ H Q => ta σ H fun x H1 => ∃ c,x = .bl c ∧ if c = true then tb σ H1 Q else Q (.bl false) H1
noncomputable def tNotV (ta : TE) : TE := fun σ H Q => ta σ H fun x H1 => ∃ c,x = .bl c ∧ Q (.bl (!c)) H1
theorem pe_one {op} {t : TE} (h : PE X a t) : PE X (.BoolOp op [a] pos) t := fun pins s σ H Q I hw => BoolOp_one (h pins s σ H Q I hw)
theorem pe_and (ha : PE X a ta) (hb : PE X (.BoolOp .And (b :: rest) pos) tb) : PE X (.BoolOp .And (a :: b :: rest) pos) (tAndV ta tb) := by
 intro pins s σ H Q I h
 refine BoolOp_and (thn (ha pins s σ H _ I h) fun v s1 ⟨x,H1,I1,r1,q1⟩ => ?_)
 obtain ⟨c,rfl,q1⟩ := q1
 cases r1
 refine wpAny_truthy_bool ?_
 cases c with
 | true => exact hb pins s1 σ H1 Q I1 q1
 | false => exact ⟨.bl false,H1,I1,rfl,q1⟩
theorem pe_not (ha : PE X a ta) : PE X (.UnaryOp .Not a pos) (tNotV ta) := by
 intro pins s σ H Q I h
 refine UnaryOp_ (thn (ha pins s σ H _ I h) fun v s1 ⟨x,H1,I1,r1,q1⟩ => ?_)
 obtain ⟨c,rfl,q1⟩ := q1
 cases r1
 exact not_of (wpAny_truthy_bool ⟨.bl (!c),H1,I1,rfl,q1⟩)
end
end L2
namespace L2
open PySem PySem.Spec PyProof.Rows
noncomputable def SqL (K : PySem.W.Frag) (H : Hp) (a : Addr) (xs : List V) : Prop :=
 Rd H a (.lst xs) ∨
  ∃ (o : Obj) (its : Array Value) (n : Nat),K.lookup a = some o ∧ o.cls = .type "list" ∧ o.dict = none ∧ o.data = .seq its n ∧ its.size ≤ sizeLine ∧ Vals xs its.toList
noncomputable def SqT (K : PySem.W.Frag) (H : Hp) (a : Addr) (xs : List V) : Prop :=
 Rd H a (.tup xs) ∨
  ∃ (o : Obj) (its : Array Value) (n : Nat),K.lookup a = some o ∧ o.cls = .type "tuple" ∧ o.data = .seq its n ∧ its.size ≤ sizeLine ∧ Vals xs its.toList
noncomputable def absV : Value → Option V
 | .none => some .non
 | .bool b => some (.bl b)
 | .int i _ => some (.int i)
 | .str x _ => some (.str x)
 | .bytes b _ => some (.byt b)
 | .float b _ => some (.flt b)
 | .ref a => some (.ref a)
 | .type n => some (.ty n)
 | _ => none
theorem RelV.abs {x : V} {u : Value} (r : RelV x u) : absV u = some x := by
 cases x with
 | non => cases r; rfl
 | bl _ => cases r; rfl
 | int _ => obtain ⟨t,rfl⟩ := r; rfl
 | str _ => obtain ⟨t,rfl⟩ := r; rfl
 | byt _ => obtain ⟨t,rfl⟩ := r; rfl
 | flt _ => obtain ⟨t,rfl⟩ := r; rfl
 | ref _ => cases r; rfl
 | ty _ => cases r; rfl
theorem RelV.inj {x y : V} {u : Value} (r : RelV x u) (q : RelV y u) : x = y := Option.some.inj (r.abs.symm.trans q.abs)
theorem Vals.inj : ∀ {xs ys : List V} {us : List Value},Vals xs us → Vals ys us → xs = ys
 | _,_,_,.nil,.nil => rfl
 | _,_,_,.cons r t,.cons r' t' => by rw [r.inj r',Vals.inj t t']
section
variable {X : Cx} {pins : List (Addr × Obj)} {σ : St} {H : Hp} {s : Shared} {a : Addr} {xs ys : List V}
theorem SqL.of {K : PySem.W.Frag} (h : H a = some (.lst xs)) : SqL K H a xs := .inl (.inl h)
theorem Inv.list (I : Inv X pins σ H s) (h : SqL X.K H a xs) : ∃ its : List Value,Vals xs its ∧ PlainL s.heap a its.toArray ∧ xs.length ≤ sizeLine := by
 rcases h with h | ⟨o,its,n,hk,hc,hd,hs,hz,r⟩
 ·obtain ⟨z,its,n,r,e⟩ := h.ok I.hok
  exact ⟨its,r,⟨_,n,e,rfl,rfl,rfl⟩,z⟩
 ·refine ⟨its.toList,r,⟨o,n,I.kIn a o hk,hc,hd,by simpa using hs⟩,?_⟩
  have e := r.length
  simp only [Array.length_toList] at e
  lia
theorem Inv.tuple (I : Inv X pins σ H s) (h : SqT X.K H a xs) : ∃ its : List Value,Vals xs its ∧ IsTup s.heap a its.toArray ∧ xs.length ≤ sizeLine := by
 rcases h with h | ⟨o,its,n,hk,hc,hs,hz,r⟩
 ·obtain ⟨z,its,r,p⟩ := h.ok I.hok
  exact ⟨its,r,p,z⟩
 ·refine ⟨its.toList,r,⟨o,I.kIn a o hk,hc,n,by simpa using hs⟩,?_⟩
  have e := r.length
  simp only [Array.length_toList] at e
  lia
theorem Inv.list_inj (I : Inv X pins σ H s) (h : SqL X.K H a xs) (h' : SqL X.K H a ys) : xs = ys := by
 obtain ⟨its,r,⟨o,n,e,_,_,d⟩,_⟩ := I.list h
 obtain ⟨its',r',⟨o',n',e',_,_,d'⟩,_⟩ := I.list h'
 rw [e] at e'; cases e'
 rw [d] at d'
 injection d' with d1 _
 have : its = its' := by simpa using congrArg Array.toList d1
 subst this
 exact r.inj r'
theorem Inv.tuple_inj (I : Inv X pins σ H s) (h : SqT X.K H a xs) (h' : SqT X.K H a ys) : xs = ys := by
 obtain ⟨its,r,⟨o,e,_,n,d⟩,_⟩ := I.tuple h
 obtain ⟨its',r',⟨o',e',_,n',d'⟩,_⟩ := I.tuple h'
 rw [e] at e'; cases e'
 rw [d] at d'
 injection d' with d1 _
 have : its = its' := by simpa using congrArg Array.toList d1
 subst this
 exact r.inj r'
end
noncomputable abbrev Cx.wish (X : Cx) (E : Value → Shared → Prop) : Cx := { X with xe := E }
noncomputable abbrev Cx.nox (X : Cx) : Cx := X.wish fun _ _ => False
theorem Cx.Ok.wish {X : Cx} (ok : X.Ok) (E : Value → Shared → Prop) : (X.wish E).Ok :=
 ⟨ok.mod,ok.kind,ok.glob,ok.blt,ok.above,ok.inj,ok.has,ok.cab,ok.hd,ok.frames,ok.stk,ok.exf,ok.bs,ok.bsz,ok.noex,ok.exfs,ok.funs,ok.frf⟩
theorem Cx.Ok.unwish {X : Cx} {E : Value → Shared → Prop} (ok : (X.wish E).Ok) : X.Ok :=
 ⟨ok.mod,ok.kind,ok.glob,ok.blt,ok.above,ok.inj,ok.has,ok.cab,ok.hd,ok.frames,ok.stk,ok.exf,ok.bs,ok.bsz,ok.noex,ok.exfs,ok.funs,ok.frf⟩
section
variable {X : Cx} {pins : List (Addr × Obj)} {σ : St} {H : Hp} {s : Shared} {E : Value → Shared → Prop}
theorem Inv.wish (I : Inv X pins σ H s) (E : Value → Shared → Prop) : Inv (X.wish E) pins σ H s := ⟨I.ok.wish E,I.os,I.bare,I.base,I.loc,I.cell,I.free,I.freeC,I.pin,I.hok,I.len⟩
theorem Inv.unwish (I : Inv (X.wish E) pins σ H s) : Inv X pins σ H s := ⟨I.ok.unwish,I.os,I.bare,I.base,I.loc,I.cell,I.free,I.freeC,I.pin,I.hok,I.len⟩
theorem SP.unwish {D : Ends} {f : Flow} {s' : Shared} (h : SP (X.wish E) pins D f s') : SP X pins D f s' := by
 cases f with
 | next => obtain ⟨σ',H',I,q⟩ := h; exact ⟨σ',H',I.unwish,q⟩
 | brk => obtain ⟨σ',H',I,q⟩ := h; exact ⟨σ',H',I.unwish,q⟩
 | cont => obtain ⟨σ',H',I,q⟩ := h; exact ⟨σ',H',I.unwish,q⟩
 | ret u => obtain ⟨v,σ',H',I,r,q⟩ := h; exact ⟨v,σ',H',I.unwish,r,q⟩
theorem PSs.nox {st : List Stmt} {t : TS} (h : PSs X.nox st t) : PSs X st t := fun pins s σ H D I hw =>
 wpAny_mono (h pins s σ H D (I.wish _) hw) (fun _ _ q => q.unwish) fun _ _ z => False.elim z
end
section
variable {X : Cx} {st : Stmt} {rest : List Stmt} {t u : TS} {e : Expr} {te : TE} {pos : Pos}
noncomputable def tNext : TS := fun D σ H => D.nx σ H
noncomputable def tSeq (t u : TS) : TS := fun D σ H => t { D with nx := u D } σ H
theorem pss_nil : PSs X [] tNext := fun _ _ σ H _ I h => wpAny_execs_nil ⟨σ,H,I,h⟩
theorem pss_cons (h1 : PS X st t) (h2 : PSs X rest u) : PSs X (st :: rest) (tSeq t u) := by
 intro pins s σ H D I h
 refine wpAny_execs_cons (thn (h1 pins s σ H { D with nx := u D } I h) fun f s1 q => ?_)
 cases f with
 | next =>
  obtain ⟨σ',H',I',q⟩ := q
  exact h2 pins s1 σ' H' D I' q
 | ret v => exact q
 | brk => exact q
 | cont => exact q
theorem pss_one (h1 : PS X st t) : PSs X [st] t := by
 intro pins s σ H D I h
 refine wpAny_execs_cons (thn (h1 pins s σ H D I h) fun f s1 q => ?_)
 cases f with
 | next => exact wpAny_execs_nil q
 | ret v => exact q
 | brk => exact q
 | cont => exact q
theorem Inv.quiet {pins : List (Addr × Obj)} {σ : St} {H : Hp} {s : Shared} (I : Inv X pins σ H s) : interactive X.env = false := by simp [interactive,I.ok.kind]
noncomputable def tDrop (te : TE) : TS := fun D σ H => te σ H fun _ H1 => D.nx σ H1
theorem ps_expr (he : PE X e te) (hs : swapsWith e none pos.line X.env = pure false := by rfl) : PS X (.Expr e pos) (tDrop te) := by
 intro pins s σ H D I h
 exact wpAny_Expr_any (thn (he pins s σ H _ I h) fun v s1 ⟨x,H1,I1,r1,q1⟩ => ⟨σ,H1,I1,q1⟩) I.quiet hs
noncomputable def tRet (te : TE) : TS := fun D σ H => te σ H D.rt
theorem ps_ret (he : PE X e te) : PS X (.Return (some e) pos) (tRet te) := by
 intro pins s σ H D I h
 exact wpAny_Return_some (thn (he pins s σ H _ I h) fun v s1 ⟨x,H1,I1,r1,q1⟩ => ⟨x,σ,H1,I1,r1,q1⟩)
noncomputable def tIfS (c : TT) (t u : TS) : TS := fun D σ H => c σ H fun b H1 => if b = true then t D σ H1 else u D σ H1
theorem ps_if {c : Expr} {a b : List Stmt} {tc : TT} (hc : PT X c tc) (ha : PSs X a t) (hb : PSs X b u) : PS X (.If c a b pos) (tIfS tc t u) := by
 intro pins s σ H D I h
 refine wpAny_If (thn (hc pins s σ H _ I h) fun d s1 ⟨H1,I1,q1⟩ => ?_)
 cases d with
 | true => exact ha pins s1 σ H1 D I1 q1
 | false => exact hb pins s1 σ H1 D I1 q1
end
noncomputable abbrev TG := V → St → Hp → (St → Hp → Prop) → Prop
noncomputable abbrev TGs := List V → St → Hp → (St → Hp → Prop) → Prop
noncomputable def PG (X : Cx) (target : Expr) (t : TG) : Prop :=
 ∀ (pins : List (Addr × Obj)) (s : Shared) (σ : St) (H : Hp) (v : V) (u : Value) (Q : St → Hp → Prop),Inv X pins σ H s → RelV v u → t v σ H Q →
  wpAny (model X.prog X.w) X.A (assign target X.env u) (fun _ s' => ∃ σ' H',Inv X pins σ' H' s' ∧ Q σ' H') X.xe s
noncomputable def PGs (X : Cx) (ts : List Expr) (t : TGs) : Prop :=
 ∀ (pins : List (Addr × Obj)) (s : Shared) (σ : St) (H : Hp) (vs : List V) (us : List Value) (Q : St → Hp → Prop),Inv X pins σ H s → Vals vs us → t vs σ H Q →
  wpAny (model X.prog X.w) X.A (assignInOrder ((assignEach ts X.env).map (·.2)) us) (fun _ s' => ∃ σ' H',Inv X pins σ' H' s' ∧ Q σ' H') X.xe s
noncomputable abbrev TSet := V → V → V → Hp → (Hp → Prop) → Prop
noncomputable def PSet (X : Cx) (t : TSet) : Prop :=
 ∀ (pins : List (Addr × Obj)) (s : Shared) (σ : St) (H : Hp) (o i v : V) (ov iv u : Value) (Q : Hp → Prop),Inv X pins σ H s → RelV o ov → RelV i iv → RelV v u → t o i v H Q →
  wpAny (model X.prog X.w) X.A (setItem ov iv u) (fun _ s' => ∃ H',Inv X pins σ H' s' ∧ Q H') X.xe s
section
variable {X : Cx} {pos : Pos}
noncomputable def gName (i : Nat) : TG := fun v σ H Q => Q (σ.set i (some v)) H
theorem pg_name {i : Nat} {x : Str} (hN : X.N.Nodup) (hi : X.N[i]? = some x) (hx : Loc X.env.scope x) (hf : X.fn x = true ∨ X.env.scope.names.lookup x = some .local := by first | exact .inl rfl | exact .inr rfl | assumption) : PG X (.Name x pos) (gName i) := by
 intro pins s σ H v u Q I r h
 exact wpAny_assign_Name (store_ok I hN hi hx r (fun s' I' => ⟨_,H,I',h⟩) hf)
noncomputable def gNil : TGs := fun vs σ H Q => vs = [] ∧ Q σ H
noncomputable def gCons (t : TG) (u : TGs) : TGs := fun vs σ H Q => ∃ v r,vs = v :: r ∧ t v σ H fun σ' H' => u r σ' H' Q
theorem pgs_nil : PGs X [] gNil := by
 intro pins s σ H vs us Q I r h
 obtain ⟨e,h⟩ := h
 subst e
 cases r
 exact assignInOrder_nil ⟨σ,H,I,h⟩
theorem pgs_cons {e : Expr} {es : List Expr} {t : TG} {u : TGs} (h1 : PG X e t) (h2 : PGs X es u)
  (hs : (assignEach (e :: es) X.env).map (·.2) = assign e X.env :: (assignEach es X.env).map (·.2) := by rfl) : PGs X (e :: es) (gCons t u) := by
 intro pins s σ H vs us Q I r h
 obtain ⟨v,vr,e1,h⟩ := h
 subst e1
 cases r with
 | cons r rr =>
  rw [hs]
  refine assignInOrder_cons (thn (h1 pins s σ H _ _ _ I r h) fun _ s1 ⟨σ1,H1,I1,q1⟩ => ?_)
  exact h2 pins s1 σ1 H1 _ _ Q I1 rr q1
noncomputable def gTup (K : PySem.W.Frag) (n : Nat) (t : TGs) : TG := fun v σ H Q => ∃ a xs,v = .ref a ∧ SqT K H a xs ∧ xs.length = n ∧ t xs σ H Q
theorem pg_tup {es : List Expr} {k : Nat} {t : TGs} {n : Nat} (hc : X.calm = true) (h : PGs X es t)
  (hn : (assignEach es X.env).length = n := by rfl) (hst : (assignEach es X.env).findIdx? (·.1) = none := by rfl) : PG X (.Tuple es k pos) (gTup X.K n t) := by
 intro pins s σ H v u Q I r hw
 obtain ⟨a,xs,e1,hq,hl,hw⟩ := hw
 subst e1
 cases r
 obtain ⟨its,rv,ht,hz⟩ := I.tuple hq
 refine assign_Tuple_tuple (I.ok.hd hc) ht (by simp [hn,← hl,rv.length]) hst fun h' hx => ?_
 have I1 : Inv X pins σ H { s with heap := h' } := I.kept (t' := s.toks) fun b o e => hx b o (Nat.ne_of_lt (Heap.lt_size e)) e
 exact h pins _ σ H xs _ Q I1 (by simpa using rv) hw
noncomputable def gSub (to ti : TE) (t : TSet) : TG := fun v σ H Q => to σ H fun o H1 => ti σ H1 fun i H2 => t o i v H2 fun H3 => Q σ H3
theorem pg_sub {o i : Expr} {to ti : TE} {t : TSet} (ho : PE X o to) (hi : PE X i ti) (hs : PSet X t)
  (ha : ∀ v,assign (.Subscript o i pos) X.env v = (do
   let ov ← holding [v] (eval o X.env)
   let iv ← holding [v,ov] (eval i X.env)
   standAt pos
   holding [v,ov,iv] (setItem ov iv v)
   release [v,ov,iv] []) := by intro _; rfl) : PG X (.Subscript o i pos) (gSub to ti t) := by
 intro pins s σ H v u Q I r h
 rw [ha]
 refine wpAny_bind (wpAny_holding (thn (ho pins s σ H _ I h) fun ov s1 ⟨x,H1,I1,r1,q1⟩ => ?_))
 refine wpAny_bind (wpAny_holding (thn (hi pins s1 σ H1 _ I1 q1) fun iv s2 ⟨y,H2,I2,r2,q2⟩ => ?_))
 refine wpAny_bind (wpAny_standAt (wpAny_bind (wpAny_holding (thn (hs pins s2 σ H2 x y v ov iv u _ I2 r1 r2 r q2) fun _ s3 ⟨H3,I3,q3⟩ => ?_))))
 exact wpAny_release ⟨σ,H3,I3,q3⟩
noncomputable def tAsg (te : TE) (g : TG) : TS := fun D σ H => te σ H fun x H1 => g x σ H1 D.nx
theorem ps_asg {tg e : Expr} {te : TE} {g : TG} (he : PE X e te) (hg : PG X tg g) (hs : swapsWithSole [tg] e pos.line X.env = pure false := by rfl) (hw : swappedStores [tg] e X.env = pure none := by rfl)
  (h1 : (assignEach [tg] X.env).map (·.2) = [assign tg X.env] := by rfl) : PS X (.Assign [tg] e pos) (tAsg te g) := by
 intro pins s σ H D I h
 refine wpAny_Assign_stores (thn (he pins s σ H _ I h) fun v s1 ⟨x,H1,I1,r1,q1⟩ => ?_) hs hw
 rw [h1]
 exact thn (hg pins s1 σ H1 x v _ I1 r1 q1) fun _ s2 q => q
theorem ps_set {i : Nat} {x : Str} {e : Expr} {te : TE} {pos' : Pos} (hN : X.N.Nodup) (hi : X.N[i]? = some x) (hx : Loc X.env.scope x) (he : PE X e te) (hs : swapsWith e (some (.Name x pos')) pos.line X.env = pure false := by rfl) (hf : X.fn x = true ∨ X.env.scope.names.lookup x = some .local := by first | exact .inl rfl | exact .inr rfl | assumption) :
  PS X (.Assign [.Name x pos'] e pos) (tAsg te (gName i)) := by
 intro pins s σ H D I h
 refine wpAny_Assign_Name (thn (he pins s σ H _ I h) fun v s1 ⟨y,H1,I1,r1,q1⟩ => ?_) hs
 exact store_ok I1 hN hi hx r1 (fun s2 I2 => ⟨_,H1,I2,q1⟩) hf
end
section
variable {X : Cx} {pos : Pos}
end
structure It where
 go : Nat → Hp → Prop
 yld : Nat → Hp → V → Hp → Prop
 stop : Nat → Hp → Prop
noncomputable def FpOk (X : Cx) (pins : List (Addr × Obj)) (H : Hp) (b : Addr) : Prop :=
 H b = none ∧ b ≠ X.env.locals ∧ b ∉ X.fs ∧ (b ∈ X.ex ∨ X.s₀.heap.objs.size ≤ b) ∧ (∀ x c,X.env.cells.lookup x = some c → c ≠ b) ∧ ∀ p ∈ X.pn ++ pins,p.1 ≠ b
theorem Inv.fpOk {X : Cx} {pins : List (Addr × Obj)} {σ : St} {H H' : Hp} {s : Shared} {b : Addr} (I : Inv X pins σ H s) (hb : s.heap.objs.size ≤ b) (hn : H' b = none) : FpOk X pins H' b := by
 refine ⟨hn,Nat.ne_of_gt (Nat.lt_of_lt_of_le I.lt hb),I.nofs hb,.inr (Nat.le_trans I.sz hb),fun x c e z => ?_,fun p hp z => ?_⟩
 ·obtain ⟨v,q⟩ := I.cell x c e
  exact absurd (Nat.lt_of_lt_of_le q.lt (by rw [z]; exact hb)) (Nat.lt_irrefl _)
 ·exact absurd (Nat.lt_of_lt_of_le (Heap.lt_size (I.pin p hp).1) (by rw [z]; exact hb)) (Nat.lt_irrefl _)
structure Turn (P : Program) (w : World) (K : PySem.W.Frag) (tg : Expr) (J : It) (fp : List Addr) (it : Addr) (tn : Nat → Heap → Prop) : Prop where
 mem : it ∈ fp
 obj : ∀ i h,tn i h → ∀ b ∈ fp,∃ o,h.get? b = some o ∧ ∀ v,o.data ≠ .cell v
 keep : ∀ i h h',tn i h → (∀ b ∈ fp,∀ o,h.get? b = some o → h'.get? b = some o) → tn i h'
 item : ∀ (X : Cx),X.prog = P → X.w = w → X.K = K → X.calm = true → ∀ (i : Nat) (pins : List (Addr × Obj)) (s : Shared) (σ : St) (H : Hp) (E : Value → Shared → Prop),Inv X pins σ H s → (∀ b ∈ fp,FpOk X pins H b) → tn i s.heap → J.go i H →
  wpAny (model P w) X.A (pyNext (.ref it)) (fun r s1 => ∃ u,r = some u ∧
   wpAny (model P w) X.A (letOwnedTupleGo tg (.ref it) u) (fun _ s2 => ∃ x H',Inv X pins σ H' s2 ∧ RelV x u ∧ J.yld i H x H' ∧ tn (i + 1) s2.heap ∧ ∀ b ∈ fp,H' b = none) E s1) E s
 done : ∀ (X : Cx),X.prog = P → X.w = w → X.K = K → X.calm = true → ∀ (i : Nat) (pins : List (Addr × Obj)) (s : Shared) (σ : St) (H : Hp) (E : Value → Shared → Prop),Inv X pins σ H s → (∀ b ∈ fp,FpOk X pins H b) → tn i s.heap → J.stop i H →
  wpAny (model P w) X.A (pyNext (.ref it)) (fun r s1 => r = none ∧ Inv X pins σ H s1) E s
 self : ∀ (A : Around) (i : Nat) (s : Shared) (Q : Value → Shared → Prop) (E : Value → Shared → Prop),tn i s.heap → Q (.ref it) s → wpAny (model P w) A (pyIter (.ref it)) Q E s
noncomputable abbrev TI := St → Hp → (It → Hp → Prop) → Prop
noncomputable def PIE (X : Cx) (pins : List (Addr × Obj)) (σ : St) (tg : Expr) (R : It → Hp → Prop) (itv : Value) (s2 : Shared) : Prop :=
 ∃ (it : Addr) (fp : List Addr) (tn : Nat → Heap → Prop) (J : It) (H' : Hp),itv = .ref it ∧ Inv X pins σ H' s2 ∧ Turn X.prog X.w X.K tg J fp it tn ∧ tn 0 s2.heap ∧ (∀ b ∈ fp,FpOk X pins H' b) ∧ R J H'
noncomputable def PI (X : Cx) (tg iter : Expr) (wi : TI) : Prop :=
 ∀ (pins : List (Addr × Obj)) (s : Shared) (σ : St) (H : Hp) (R : It → Hp → Prop),Inv X pins σ H s → wi σ H R →
  wpAny (model X.prog X.w) X.A (eval iter X.env) (fun v s1 => wpAny (model X.prog X.w) X.A (pyIter v) (PIE X pins σ tg R) X.xe s1) X.xe s
theorem go_of {M : Model} {A : Around} {E : Value → Shared → Prop} {s : Shared} {tg : Expr} {it : Addr} {u : Value} {o : Obj} {n : String} {vs : Array Value} {Q : Unit → Shared → Prop} (ho : s.heap.get? it = some o) (hc : o.cls = .type n) (hd : o.data = .fields vs)
    (hn : ["enumerate","zip","dict_itemiterator","dict_reverseitemiterator","odict_iterator","itertools.zip_longest","itertools.pairwise"].contains n = false) (hQ : Q () s) : wpAny M A (letOwnedTupleGo tg (.ref it) u) Q E s := by
  unfold letOwnedTupleGo
  cases tg <;> first
    | exact wpAny_pure hQ
    | (cases u <;> first
        | exact wpAny_pure hQ
        | (refine wpAny_bind (wpAny_load ho ?_)
           rw [hc,hd]
           show wpAny M A (if (["enumerate","zip","dict_itemiterator","dict_reverseitemiterator","odict_iterator","itertools.zip_longest","itertools.pairwise"].contains n && vs[0]? == some (rawInt _)) = true then _ else _) Q E s
           rw [if_neg (by intro h; rw [hn,Bool.false_and] at h; cases h)]
           exact wpAny_pure hQ))
noncomputable def Itl (K : PySem.W.Frag) (a : Addr) : It :=
 ⟨fun i H => ∃ xs x,SqL K H a xs ∧ xs[i]? = some x,fun i H x H' => H' = H ∧ ∀ xs,SqL K H a xs → xs[i]? = some x,fun i H => ∃ xs,SqL K H a xs ∧ xs.length ≤ i⟩
noncomputable def Itt (K : PySem.W.Frag) (a : Addr) : It :=
 ⟨fun i H => ∃ xs x,SqT K H a xs ∧ xs[i]? = some x,fun i H x H' => H' = H ∧ ∀ xs,SqT K H a xs → xs[i]? = some x,fun i H => ∃ xs,SqT K H a xs ∧ xs.length ≤ i⟩
noncomputable def Itr (lo : Int) (n : Nat) : It := ⟨fun i _ => i < n,fun i H x H' => H' = H ∧ x = .int (lo + i),fun i _ => n ≤ i⟩
theorem turn_list {P : Program} {w : World} {K : PySem.W.Frag} {tg : Expr} (a it : Addr) : Turn P w K tg (Itl K a) [it] it (fun i h => h.IsListIter it a i) where
 mem := by simp
 obj := fun i h st b hb => by
  have e : b = it := by simpa using hb
  subst e
  obtain ⟨o,e,c,d⟩ := st
  exact ⟨o,e,fun v z => by rw [d] at z; cases z⟩
 keep := fun i h h' st k => st.at fun o e => k it (by simp) o e
 item := by
  intro X hP hw hK hc i pins s σ H E I hf st hg
  subst hP hw hK
  obtain ⟨xs,x,hq,hx⟩ := hg
  obtain ⟨its,rv,p,hz⟩ := I.list hq
  obtain ⟨u,hu,ru⟩ := rv.get hx
  obtain ⟨f0,f1,f2,f3,f4,f5⟩ := hf it (by simp)
  refine wpAny_pyNext_list_item st p.isList (x := u) (by simpa using hu) fun h' st' sb => ?_
  have I1 : Inv X pins σ H { s with heap := h' } := I.turned (t' := s.toks) (fun b o hb e => (sb.2 b hb).trans e) f0 f1 f3 f4 f5
  obtain ⟨o,e,c,d⟩ := id st'
  exact ⟨u,rfl,go_of (s := { s with heap := h' }) e c d (by decide) ⟨x,H,I1,ru,⟨rfl,fun ys hy => by rw [I.list_inj hy hq]; exact hx⟩,st',fun b hb => (hf b hb).1⟩⟩
 done := by
  intro X hP hw hK hc i pins s σ H E I hf st hg
  subst hP hw hK
  obtain ⟨xs,hq,hx⟩ := hg
  obtain ⟨its,rv,p,hz⟩ := I.list hq
  obtain ⟨f0,f1,f2,f3,f4,f5⟩ := hf it (by simp)
  have hl := rv.length
  exact wpAny_pyNext_list_end (I.ok.hd hc) st p.isList (by simp; lia) fun h' eb => ⟨rfl,I.turned (t' := s.toks) (fun b o hb e => eb b o hb e) f0 f1 f3 f4 f5⟩
 self := fun _ _ _ _ _ st h => wpAny_pyIter_listiter st h
theorem turn_tuple {P : Program} {w : World} {K : PySem.W.Frag} {tg : Expr} (a it : Addr) : Turn P w K tg (Itt K a) [it] it (fun i h => h.IsTupleIter it a i) where
 mem := by simp
 obj := fun i h st b hb => by
  have e : b = it := by simpa using hb
  subst e
  obtain ⟨o,e,c,d⟩ := st
  exact ⟨o,e,fun v z => by rw [d] at z; cases z⟩
 keep := fun i h h' st k => st.at fun o e => k it (by simp) o e
 item := by
  intro X hP hw hK hc i pins s σ H E I hf st hg
  subst hP hw hK
  obtain ⟨xs,x,hq,hx⟩ := hg
  obtain ⟨its,rv,p,hz⟩ := I.tuple hq
  obtain ⟨u,hu,ru⟩ := rv.get hx
  obtain ⟨f0,f1,f2,f3,f4,f5⟩ := hf it (by simp)
  refine wpAny_pyNext_tuple_item st (show s.heap.IsTuple a its.toArray from p) (x := u) (by simpa using hu) fun h' st' sb => ?_
  have I1 : Inv X pins σ H { s with heap := h' } := I.turned (t' := s.toks) (fun b o hb e => (sb.2 b hb).trans e) f0 f1 f3 f4 f5
  obtain ⟨o,e,c,d⟩ := id st'
  exact ⟨u,rfl,go_of (s := { s with heap := h' }) e c d (by decide) ⟨x,H,I1,ru,⟨rfl,fun ys hy => by rw [I.tuple_inj hy hq]; exact hx⟩,st',fun b hb => (hf b hb).1⟩⟩
 done := by
  intro X hP hw hK hc i pins s σ H E I hf st hg
  subst hP hw hK
  obtain ⟨xs,hq,hx⟩ := hg
  obtain ⟨its,rv,p,hz⟩ := I.tuple hq
  obtain ⟨f0,f1,f2,f3,f4,f5⟩ := hf it (by simp)
  have hl := rv.length
  exact wpAny_pyNext_tuple_end (I.ok.hd hc) st (show s.heap.IsTuple a its.toArray from p) (by simp; lia) fun h' eb => ⟨rfl,I.turned (t' := s.toks) (fun b o hb e => eb b o hb e) f0 f1 f3 f4 f5⟩
 self := fun _ _ _ _ _ st h => wpAny_pyIter_tupleiter st h
theorem turn_range {P : Program} {w : World} {K : PySem.W.Frag} {tg : Expr} (it : Addr) (lo : Int) (n : Nat) : Turn P w K tg (Itr lo n) [it] it (fun i h => IsRangeIter h it (lo + (i : Nat) * 1) ((n : Int) - (i : Nat)) 1) where
 mem := by simp
 obj := fun i h st b hb => by
  have e : b = it := by simpa using hb
  subst e
  exact ⟨_,st,fun v z => by
   have z' : Data.fields _ = Data.cell v := z
   cases z'⟩
 keep := fun i h h' st k => k it (by simp) _ st
 item := by
  intro X hP hw hK hc i pins s σ H E I hf st hg
  subst hP hw hK
  obtain ⟨f0,f1,f2,f3,f4,f5⟩ := hf it (by simp)
  have W := Walks.range (prog := X.prog) (w := X.w) (I.ok.hd hc) it lo 1 n
  refine W.item i s _ _ hg st fun v h' tk hv st' kk => ?_
  obtain ⟨t,rfl⟩ := hv
  have I1 : Inv X pins σ H { s with heap := h',toks := tk } := I.turned (fun b o hb e => kk b o (by simpa using hb) e) f0 f1 f3 f4 f5
  refine ⟨_,rfl,go_of (s := { s with heap := h',toks := tk }) (n := "range_iterator") st' rfl rfl (by decide) ⟨.int (lo + i),H,I1,⟨t,?_⟩,⟨rfl,rfl⟩,st',fun b hb => (hf b hb).1⟩⟩
  rw [Int.mul_one]
 done := by
  intro X hP hw hK hc i pins s σ H E I hf st hg
  subst hP hw hK
  obtain ⟨f0,f1,f2,f3,f4,f5⟩ := hf it (by simp)
  exact wpAny_pyNext_range_end (I.ok.hd hc) st (by have : n ≤ i := hg; lia) fun h' eb => ⟨rfl,I.turned (t' := s.toks) (fun b o hb e => eb b o hb e) f0 f1 f3 f4 f5⟩
 self := fun _ _ _ _ _ st h => wpAny_pyIter_rangeiter st h
end L2
namespace L2
open PySem PySem.Spec PyProof.Rows
section
variable {X : Cx} {tg : Expr}
noncomputable def iList (K : PySem.W.Frag) (tl : TE) : TI := fun σ H R => tl σ H fun x H1 => ∃ a,x = .ref a ∧ (∃ xs,SqL K H1 a xs) ∧ R (Itl K a) H1
noncomputable def iTup (K : PySem.W.Frag) (tl : TE) : TI := fun σ H R => tl σ H fun x H1 => ∃ a,x = .ref a ∧ (∃ xs,SqT K H1 a xs) ∧ R (Itt K a) H1
theorem pi_list {l : Expr} {tl : TE} (hl : PE X l tl) : PI X tg l (iList X.K tl) := by
 intro pins s σ H R I h
 refine thn (hl pins s σ H _ I h) fun v s1 ⟨x,H1,I1,r1,q1⟩ => ?_
 obtain ⟨a,e,⟨xs,hq⟩,q⟩ := q1
 subst e
 cases r1
 obtain ⟨its,rv,p,hz⟩ := I1.list hq
 refine wpAny_pyIter_list p.isList ?_
 refine ⟨s1.heap.objs.size,[s1.heap.objs.size],_,_,H1,rfl,I1.kept (t' := s1.toks) fun b o e => Heap.get?_push_of_some _ e,turn_list a _,⟨_,Heap.get?_push_size _ rfl,rfl,rfl⟩,fun b hb => ?_,q⟩
 have e : b = s1.heap.objs.size := by simpa using hb
 subst e
 exact I1.fpOk (Nat.le_refl _) (I1.hok.fresh (Nat.le_refl _))
theorem pi_tup {l : Expr} {tl : TE} (hl : PE X l tl) : PI X tg l (iTup X.K tl) := by
 intro pins s σ H R I h
 refine thn (hl pins s σ H _ I h) fun v s1 ⟨x,H1,I1,r1,q1⟩ => ?_
 obtain ⟨a,e,⟨xs,hq⟩,q⟩ := q1
 subst e
 cases r1
 obtain ⟨its,rv,p,hz⟩ := I1.tuple hq
 refine wpAny_pyIter_tuple (show s1.heap.IsTuple a its.toArray from p) ?_
 refine ⟨s1.heap.objs.size,[s1.heap.objs.size],_,_,H1,rfl,I1.kept (t' := s1.toks) fun b o e => Heap.get?_push_of_some _ e,turn_tuple a _,⟨_,Heap.get?_push_size _ rfl,rfl,rfl⟩,fun b hb => ?_,q⟩
 have e : b = s1.heap.objs.size := by simpa using hb
 subst e
 exact I1.fpOk (Nat.le_refl _) (I1.hok.fresh (Nat.le_refl _))
theorem range_it {pins : List (Addr × Obj)} {σ : St} {H : Hp} {s : Shared} {R : It → Hp → Prop} {E : Value → Shared → Prop} {lo hi : Int} {t u v : Tok} {tk : Nat} (I : Inv X pins σ H s) (h1 : -(2 ^ 62) ≤ lo) (h2 : lo < 2 ^ 62) (h3 : -(2 ^ 62) ≤ hi) (h4 : hi < 2 ^ 62)
  (q : R (Itr lo (hi - lo).toNat) H) : wpAny (model X.prog X.w) X.A (pyIter (.ref s.heap.objs.size)) (PIE X pins σ tg R) E { s with heap := s.heap.push { cls := .type "range",data := .fields #[.int lo t,.int hi u,.int 1 v] },toks := tk } := by
 refine wpAny_pyIter_range (IsRange.new ..) (small_one h1 h2 h3 h4) ?_
 have I1 : Inv X pins σ H { s with heap := s.heap.push { cls := .type "range",data := .fields #[.int lo t,.int hi u,.int 1 v] },toks := tk } := I.kept fun b o e => Heap.get?_push_of_some _ e
 refine ⟨(s.heap.push { cls := .type "range",data := .fields #[.int lo t,.int hi u,.int 1 v] }).objs.size,[(s.heap.push { cls := .type "range",data := .fields #[.int lo t,.int hi u,.int 1 v] }).objs.size],_,_,H,rfl,
  I1.kept (t' := tk) fun b o e => Heap.get?_push_of_some _ e,turn_range _ lo (hi - lo).toNat,?_,fun b hb => ?_,q⟩
 ·have e1 : lo + ((0 : Nat) : Int) * 1 = lo := by simp
  have e2 : (((hi - lo).toNat : Nat) : Int) - ((0 : Nat) : Int) = Builtin.Range.rangeSize lo hi 1 := by rw [rangeSize_one]; split <;> lia
  show IsRangeIter _ _ (lo + ((0 : Nat) : Int) * 1) ((((hi - lo).toNat : Nat) : Int) - ((0 : Nat) : Int)) 1
  rw [e1,e2]
  exact Heap.get?_push_size _ rfl
 ·have e : b = (s.heap.push { cls := .type "range",data := .fields #[.int lo t,.int hi u,.int 1 v] }).objs.size := by simpa using hb
  subst e
  exact I1.fpOk (Nat.le_refl _) (I1.hok.fresh (Nat.le_refl _))
noncomputable def iRng1 (ta : TA) : TI := fun σ H R => ta σ H fun vs H1 => ∃ j : Int,vs = [.int j] ∧ -(2 ^ 62) ≤ j ∧ j < 2 ^ 62 ∧ R (Itr 0 j.toNat) H1
theorem pi_range1 {a : Expr} {ta : TA} {p pos : Pos} (hg : Gl X "range") (hm : X.mg "range" = none) (ha : PA X [a] ta) (hs : starEach [a] X.env = [(false,eval a X.env)] := by rfl) : PI X tg (.Call (.Name "range" p) [a] [] pos) (iRng1 ta) := by
 intro pins s σ H R I h
 refine Call_ (ld_blt I hg hm boot_range (PyProof.Rows.callWith_type1 (thn (ha pos pins s σ H _ I h) fun us s1 ⟨vs,H1,I1,r1,q1⟩ => ?_) hs rfl))
 obtain ⟨j,e,q1,q2,q⟩ := q1
 subst e
 cases r1 with
 | cons r rr =>
  cases rr
  obtain ⟨t,rfl⟩ := r
  exact call_range_1 (range_it I1 (by lia) (by lia) q1 q2 (by simpa using q))
noncomputable def tFor (wi : TI) (g : TG) (tb : TS) : TS := fun D σ H => wi σ H fun J H1 => ∃ W : Nat → Nat → St → Hp → Prop,(∃ m,W 0 m σ H1) ∧ ∀ i m σ H,W i m σ H →
 (J.stop i H ∧ D.nx σ H) ∨ (J.go i H ∧ ∃ N : St → Hp → Prop,(∀ σ' H',N σ' H' → ∃ m',m' < m ∧ W (i + 1) m' σ' H') ∧ ∀ x H',J.yld i H x H' → g x σ H' fun σ2 H2 => tb { D with nx := N,ct := N,bk := D.nx } σ2 H2)
noncomputable def pinsAt (fp : List Addr) (h : Heap) : List (Addr × Obj) := fp.filterMap fun b => (h.get? b).map fun o => (b,o)
theorem mem_pinsAt {fp : List Addr} {h : Heap} {b : Addr} {o : Obj} (hb : b ∈ fp) (e : h.get? b = some o) : (b,o) ∈ pinsAt fp h := List.mem_filterMap.mpr ⟨b,hb,by rw [e]; rfl⟩
theorem of_pinsAt {fp : List Addr} {h : Heap} {p : Addr × Obj} (hp : p ∈ pinsAt fp h) : p.1 ∈ fp ∧ h.get? p.1 = some p.2 := by
 obtain ⟨b,hb,e⟩ := List.mem_filterMap.mp hp
 cases q : h.get? b with
 | none => rw [q] at e; cases e
 | some o =>
  rw [q] at e
  have e' : (b,o) = p := Option.some.inj e
  subst e'
  exact ⟨hb,q⟩
theorem Inv.pinned {pins : List (Addr × Obj)} {σ : St} {H : Hp} {s : Shared} {fp : List Addr} (I : Inv X pins σ H s) (hf : ∀ b ∈ fp,FpOk X pins H b) (ho : ∀ b ∈ fp,∃ o,s.heap.get? b = some o ∧ ∀ v,o.data ≠ .cell v) : Inv X (pins ++ pinsAt fp s.heap) σ H s :=
 I.pins_of fun p hp => (List.mem_append.mp hp).elim (fun z => I.pin p (List.mem_append_right _ z)) fun z => by
  obtain ⟨hb,e⟩ := of_pinsAt z
  obtain ⟨f0,f1,f2,_⟩ := hf p.1 hb
  obtain ⟨o,e',d⟩ := ho p.1 hb
  rw [e] at e'; cases e'
  exact ⟨e,f0,f1,f2,d⟩
theorem Inv.unpinned {pins pl : List (Addr × Obj)} {σ : St} {H : Hp} {s : Shared} (I : Inv X (pins ++ pl) σ H s) : Inv X pins σ H s := I.pins_of fun p hp => I.pin p (List.mem_append_right _ (List.mem_append_left _ hp))
theorem ps_for {iter : Expr} {body : List Stmt} {wi : TI} {g : TG} {tb : TS} {pos : Pos} (hp : PassesOwn (model X.prog X.w) X.A X.env X.xe) (hc : X.calm = true) (hi : PI X tg iter wi) (hg : PG X tg g) (hb : PSs X body tb)
  (hs : ∀ x,foldedSetIterable iter X.env x = pure x := by intro _; rfl) : PS X (.For tg iter body [] pos) (tFor wi g tb) := by
 intro pins s σ H D I h
 refine wpAny_For (thn (hi pins s σ H _ I h) fun v s1 h1 => thn h1 fun itv s2 h2 => ?_) hs
 obtain ⟨it,fp,tn,J,H2,e,I2,T,st2,f2,W,⟨m0,w0⟩,turn⟩ := h2
 subst e
 have stat : ∀ {H' : Hp},(∀ b ∈ fp,H' b = none) → ∀ b ∈ fp,FpOk X pins H' b := fun hn b hb => ⟨hn b hb,(f2 b hb).2⟩
 refine codeAny_forLoop_any (fun n s' => ∃ i σ' H',Inv X pins σ' H' s' ∧ tn i s'.heap ∧ (∀ b ∈ fp,H' b = none) ∧ W i n σ' H') ?_ m0 ⟨0,σ,H2,I2,st2,fun b hb => (f2 b hb).1,w0⟩
 rintro n s3 ⟨i,σ3,H3,I3,st3,fr3,w3⟩
 rcases turn i n σ3 H3 w3 with ⟨stop,qn⟩ | ⟨go,N,hN,step⟩
 ·refine wpAny_passesOwn hp (thn (T.done X rfl rfl rfl hc i pins s3 σ3 H3 X.xe I3 (stat fr3) st3 stop) fun r s4 ⟨hr,I4⟩ => ?_)
  subst hr
  exact wpAny_execs_nil ⟨σ3,H3,I4,qn⟩
 ·refine wpAny_passesOwn hp (thn (T.item X rfl rfl rfl hc i pins s3 σ3 H3 X.xe I3 (stat fr3) st3 go) fun r s4 ⟨u,hr,h4⟩ => ?_)
  subst hr
  refine wpAny_passesOwn hp (thn h4 fun _ s5 ⟨x,H5,I5,r5,y5,st5,fr5⟩ => ?_)
  have I5' := I5.pinned (stat fr5) (T.obj _ _ st5)
  refine wpAny_passesOwn hp (thn (hg _ s5 σ3 H5 x u _ I5' r5 (step x H5 y5)) fun _ s6 ⟨σ6,H6,I6,q6⟩ => ?_)
  refine wpAny_passesOwn hp (thn (hb _ s6 σ6 H6 _ I6 q6) fun f s7 q7 => ?_)
  have again : ∀ {σ7 : St} {H7 : Hp},Inv X (pins ++ pinsAt fp s5.heap) σ7 H7 s7 → N σ7 H7 → ∃ m,m < n ∧ ∃ i σ' H',Inv X pins σ' H' s7 ∧ tn i s7.heap ∧ (∀ b ∈ fp,H' b = none) ∧ W i m σ' H' := fun {σ7 H7} I7 n7 => by
   obtain ⟨m',hm,w7⟩ := hN σ7 H7 n7
   refine ⟨m',hm,i + 1,σ7,H7,I7.unpinned,T.keep _ _ _ st5 fun b hb o e => (I7.pin (b,o) (List.mem_append_right _ (List.mem_append_right _ (mem_pinsAt hb e)))).1,fun b hb => ?_,w7⟩
   obtain ⟨o,e,d⟩ := T.obj _ _ st5 b hb
   exact (I7.pin (b,o) (List.mem_append_right _ (List.mem_append_right _ (mem_pinsAt hb e)))).2.1
  cases f with
  | next => obtain ⟨σ7,H7,I7,n7⟩ := q7; exact again I7 n7
  | cont => obtain ⟨σ7,H7,I7,n7⟩ := q7; exact again I7 n7
  | brk => obtain ⟨σ7,H7,I7,q7⟩ := q7; exact ⟨σ7,H7,I7.unpinned,q7⟩
  | ret v => obtain ⟨x7,σ7,H7,I7,r7,q7⟩ := q7; exact ⟨x7,σ7,H7,I7.unpinned,r7,q7⟩
end
theorem for_list {K : PySem.W.Frag} {a : Addr} {xs : List V} {g : TG} {tb : TS} {D : Ends} {σ : St} {H : Hp} (Pv : Nat → St → Hp → Prop) (h0 : Pv 0 σ H) (hl : ∀ i σ H,i ≤ xs.length → Pv i σ H → SqL K H a xs)
  (hs : ∀ i x σ H,xs[i]? = some x → Pv i σ H → g x σ H fun σ2 H2 => tb { D with nx := Pv (i + 1),ct := Pv (i + 1),bk := D.nx } σ2 H2) (hd : ∀ σ H,Pv xs.length σ H → D.nx σ H) :
  ∃ W : Nat → Nat → St → Hp → Prop,(∃ m,W 0 m σ H) ∧ ∀ i m σ H,W i m σ H →
   ((Itl K a).stop i H ∧ D.nx σ H) ∨ ((Itl K a).go i H ∧ ∃ N : St → Hp → Prop,(∀ σ' H',N σ' H' → ∃ m',m' < m ∧ W (i + 1) m' σ' H') ∧ ∀ x H',(Itl K a).yld i H x H' → g x σ H' fun σ2 H2 => tb { D with nx := N,ct := N,bk := D.nx } σ2 H2) := by
 refine ⟨fun i m σ H => m = xs.length - i ∧ i ≤ xs.length ∧ Pv i σ H,⟨xs.length,by simp,Nat.zero_le _,h0⟩,?_⟩
 rintro i m σ H ⟨rfl,hi,p⟩
 have q := hl i σ H hi p
 by_cases hlt : i < xs.length
 ·refine .inr ⟨⟨xs,xs[i],q,by simp [hlt]⟩,Pv (i + 1),fun σ' H' p' => ⟨xs.length - (i + 1),by lia,rfl,hlt,p'⟩,fun x H' y => ?_⟩
  obtain ⟨e,y⟩ := y
  subst e
  exact hs i x σ _ (y xs q) p
 ·have e : i = xs.length := by lia
  subst e
  exact .inl ⟨⟨xs,q,Nat.le_refl _⟩,hd σ H p⟩
theorem for_tup {K : PySem.W.Frag} {a : Addr} {xs : List V} {g : TG} {tb : TS} {D : Ends} {σ : St} {H : Hp} (Pv : Nat → St → Hp → Prop) (h0 : Pv 0 σ H) (hl : ∀ i σ H,i ≤ xs.length → Pv i σ H → SqT K H a xs)
  (hs : ∀ i x σ H,xs[i]? = some x → Pv i σ H → g x σ H fun σ2 H2 => tb { D with nx := Pv (i + 1),ct := Pv (i + 1),bk := D.nx } σ2 H2) (hd : ∀ σ H,Pv xs.length σ H → D.nx σ H) :
  ∃ W : Nat → Nat → St → Hp → Prop,(∃ m,W 0 m σ H) ∧ ∀ i m σ H,W i m σ H →
   ((Itt K a).stop i H ∧ D.nx σ H) ∨ ((Itt K a).go i H ∧ ∃ N : St → Hp → Prop,(∀ σ' H',N σ' H' → ∃ m',m' < m ∧ W (i + 1) m' σ' H') ∧ ∀ x H',(Itt K a).yld i H x H' → g x σ H' fun σ2 H2 => tb { D with nx := N,ct := N,bk := D.nx } σ2 H2) := by
 refine ⟨fun i m σ H => m = xs.length - i ∧ i ≤ xs.length ∧ Pv i σ H,⟨xs.length,by simp,Nat.zero_le _,h0⟩,?_⟩
 rintro i m σ H ⟨rfl,hi,p⟩
 have q := hl i σ H hi p
 by_cases hlt : i < xs.length
 ·refine .inr ⟨⟨xs,xs[i],q,by simp [hlt]⟩,Pv (i + 1),fun σ' H' p' => ⟨xs.length - (i + 1),by lia,rfl,hlt,p'⟩,fun x H' y => ?_⟩
  obtain ⟨e,y⟩ := y
  subst e
  exact hs i x σ _ (y xs q) p
 ·have e : i = xs.length := by lia
  subst e
  exact .inl ⟨⟨xs,q,Nat.le_refl _⟩,hd σ H p⟩
theorem for_range {lo : Int} {n : Nat} {g : TG} {tb : TS} {D : Ends} {σ : St} {H : Hp} (Pv : Nat → St → Hp → Prop) (h0 : Pv 0 σ H)
  (hs : ∀ i σ H,i < n → Pv i σ H → g (.int (lo + i)) σ H fun σ2 H2 => tb { D with nx := Pv (i + 1),ct := Pv (i + 1),bk := D.nx } σ2 H2) (hd : ∀ σ H,Pv n σ H → D.nx σ H) :
  ∃ W : Nat → Nat → St → Hp → Prop,(∃ m,W 0 m σ H) ∧ ∀ i m σ H,W i m σ H →
   ((Itr lo n).stop i H ∧ D.nx σ H) ∨ ((Itr lo n).go i H ∧ ∃ N : St → Hp → Prop,(∀ σ' H',N σ' H' → ∃ m',m' < m ∧ W (i + 1) m' σ' H') ∧ ∀ x H',(Itr lo n).yld i H x H' → g x σ H' fun σ2 H2 => tb { D with nx := N,ct := N,bk := D.nx } σ2 H2) := by
 refine ⟨fun i m σ H => m = n - i ∧ i ≤ n ∧ Pv i σ H,⟨n,by simp,Nat.zero_le _,h0⟩,?_⟩
 rintro i m σ H ⟨rfl,hi,p⟩
 by_cases hlt : i < n
 ·refine .inr ⟨hlt,Pv (i + 1),fun σ' H' p' => ⟨n - (i + 1),by lia,rfl,hlt,p'⟩,fun x H' y => ?_⟩
  obtain ⟨e,y⟩ := y
  subst e y
  exact hs i σ _ hlt p
 ·have e : i = n := by lia
  subst e
  exact .inl ⟨Nat.le_refl _,hd σ H p⟩
end L2
namespace L2
open PySem PySem.Spec PyProof.Rows
noncomputable abbrev R2 := V → V → Hp → VK → Prop
noncomputable def OpR (X : Cx) (f : Value → Value → Sem Value) (r : R2) : Prop :=
 ∀ (pins : List (Addr × Obj)) (s : Shared) (σ : St) (H : Hp) (x y : V) (v u : Value) (Q : VK),Inv X pins σ H s → RelV x v → RelV y u → r x y H Q →
  wpAny (model X.prog X.w) X.A (f v u) (EP X pins σ Q) X.xe s
noncomputable def UnR (X : Cx) (f : Value → Sem Value) (r : V → Hp → VK → Prop) : Prop :=
 ∀ (pins : List (Addr × Obj)) (s : Shared) (σ : St) (H : Hp) (x : V) (v : Value) (Q : VK),Inv X pins σ H s → RelV x v → r x H Q →
  wpAny (model X.prog X.w) X.A (f v) (EP X pins σ Q) X.xe s
noncomputable def CallR (X : Cx) (f : Value) (r : List V → Hp → VK → Prop) : Prop :=
 ∀ (pins : List (Addr × Obj)) (s : Shared) (σ : St) (H : Hp) (xs : List V) (us : List Value) (Q : VK),Inv X pins σ H s → Vals xs us → r xs H Q →
  wpAny (model X.prog X.w) X.A (call f us) (EP X pins σ Q) X.xe s
noncomputable def tOp (r : R2) (ta tb : TE) : TE := fun σ H Q => ta σ H fun x H1 => tb σ H1 fun y H2 => r x y H2 Q
noncomputable def tUn (r : V → Hp → VK → Prop) (ta : TE) : TE := fun σ H Q => ta σ H fun x H1 => r x H1 Q
inductive IRI (C : Int → Int → Prop) (g : Int → Int → V) (x y : V) (H : Hp) (Q : VK) : Prop
 | mk (i j : Int) : (x = .int i) → (y = .int j) → (C i j) → (Q (g i j) H) → IRI C g x y H Q
noncomputable def rI (C : Int → Int → Prop) (g : Int → Int → V) : R2 := fun x y H Q => IRI C g x y H Q
inductive IRI0 (g : Int → Int → V) (x y : V) (H : Hp) (Q : VK) : Prop
 | mk (i j : Int) : (x = .int i) → (y = .int j) → (Q (g i j) H) → IRI0 g x y H Q
noncomputable def rI0 (g : Int → Int → V) : R2 := fun x y H Q => IRI0 g x y H Q
noncomputable def rU (g : Int → V) : V → Hp → VK → Prop := fun x H Q => ∃ i,x = .int i ∧ Q (g i) H
section
variable {X : Cx} {a b c : Expr} {ta tb tc : TE} {pos : Pos}
theorem binT (ha : PE X a ta) (hb : PE X b tb) {pins : List (Addr × Obj)} {s : Shared} {σ : St} {H : Hp} {R : V → V → Hp → Prop} (I : Inv X pins σ H s)
  (h : ta σ H fun x H1 => tb σ H1 fun y H2 => R x y H2) {Q : Value → Shared → Prop} {f : Value → Value → Sem Value}
  (hf : ∀ v u s2 x y H2,Inv X pins σ H2 s2 → RelV x v → RelV y u → R x y H2 → wpAny (model X.prog X.w) X.A (f v u) Q X.xe s2) :
  wpAny (model X.prog X.w) X.A (eval a X.env) (fun v s₁ => wpAny (model X.prog X.w) X.A (eval b X.env) (fun u s₂ => wpAny (model X.prog X.w) X.A (f v u) Q X.xe s₂) X.xe s₁) X.xe s := by
 refine thn (ha pins s σ H _ I h) fun v s1 ⟨x,H1,I1,r1,q1⟩ => ?_
 refine thn (hb pins s1 σ H1 _ I1 q1) fun u s2 ⟨y,H2,I2,r2,q2⟩ => ?_
 exact hf v u s2 x y H2 I2 r1 r2 q2
theorem pe_op {op : Operator} {r : R2} (ho : OpR X (binaryOp op) r) (ha : PE X a ta) (hb : PE X b tb) : PE X (.BinOp a op b pos) (tOp r ta tb) := by
 intro pins s σ H Q I h
 exact wpAny_BinOp (binT ha hb I h fun v u s2 x y H2 I2 rx ry q => ho pins s2 σ H2 x y v u Q I2 rx ry q)
theorem pe_un {op : UnaryOp} {r : V → Hp → VK → Prop} (ho : UnR X (unaryOp op) r) (ha : PE X a ta) : PE X (.UnaryOp op a pos) (tUn r ta) := by
 intro pins s σ H Q I h
 exact UnaryOp_ (thn (ha pins s σ H _ I h) fun v s1 ⟨x,H1,I1,r1,q1⟩ => ho pins s1 σ H1 x v Q I1 r1 q1)
theorem opI {f : Value → Value → Sem Value} {C : Int → Int → Prop} {g : Int → Int → Int}
  (rule : ∀ (i j : Int) (t u : Tok) (s : Shared) (Q : Value → Shared → Prop) (E : Value → Shared → Prop),C i j → Q (.int (g i j) s.toks) { s with toks := s.toks + 1 } → wpAny (model X.prog X.w) X.A (f (.int i t) (.int j u)) Q E s) :
  OpR X f (rI C fun i j => .int (g i j)) := by
 intro pins s σ H x y v u Q I rx ry h
 obtain ⟨i,j,rfl,rfl,hc,q⟩ := h
 obtain ⟨t,rfl⟩ := rx
 obtain ⟨t',rfl⟩ := ry
 exact rule i j t t' s _ _ hc ⟨.int (g i j),H,I.tok _,⟨_,rfl⟩,q⟩
theorem opI0 {f : Value → Value → Sem Value} {g : Int → Int → Int}
  (rule : ∀ (i j : Int) (t u : Tok) (s : Shared) (Q : Value → Shared → Prop) (E : Value → Shared → Prop),Q (.int (g i j) s.toks) { s with toks := s.toks + 1 } → wpAny (model X.prog X.w) X.A (f (.int i t) (.int j u)) Q E s) :
  OpR X f (rI0 fun i j => .int (g i j)) := by
 intro pins s σ H x y v u Q I rx ry h
 obtain ⟨i,j,rfl,rfl,q⟩ := h
 obtain ⟨t,rfl⟩ := rx
 obtain ⟨t',rfl⟩ := ry
 exact rule i j t t' s _ _ ⟨.int (g i j),H,I.tok _,⟨_,rfl⟩,q⟩
theorem opB0 {f : Value → Value → Sem Value} {g : Int → Int → Bool}
  (rule : ∀ (i j : Int) (t u : Tok) (s : Shared) (Q : Value → Shared → Prop) (E : Value → Shared → Prop),Q (.bool (g i j)) s → wpAny (model X.prog X.w) X.A (f (.int i t) (.int j u)) Q E s) :
  OpR X f (rI0 fun i j => .bl (g i j)) := by
 intro pins s σ H x y v u Q I rx ry h
 obtain ⟨i,j,rfl,rfl,q⟩ := h
 obtain ⟨t,rfl⟩ := rx
 obtain ⟨t',rfl⟩ := ry
 exact rule i j t t' s _ _ ⟨.bl (g i j),H,I,rfl,q⟩
noncomputable def CPow (i j : Int) : Prop := 0 ≤ j ∧ j ≤ 1000000 ∧ i.natAbs < 2 ^ 64
noncomputable def CMul (i j : Int) : Prop := (-(2 ^ 64) < i ∧ i < 2 ^ 64) ∨ (-(2 ^ 64) < j ∧ j < 2 ^ 64)
theorem CMul.ok {i j : Int} (h : CMul i j) : IntMulOk i j := by
 rcases h with ⟨h1,h2⟩ | ⟨h1,h2⟩
 ·exact .of_left (intBits_le_64 h1 h2)
 ·exact .of_right (intBits_le_64 h1 h2)
theorem op_add : OpR X (binaryOp .Add) (rI0 fun i j => .int (i + j)) := opI0 fun _ _ _ _ _ _ _ q => add_int q
theorem op_sub : OpR X (binaryOp .Sub) (rI0 fun i j => .int (i - j)) := opI0 fun _ _ _ _ _ _ _ q => sub_int q
theorem op_mul : OpR X (binaryOp .Mult) (rI CMul fun i j => .int (i * j)) := opI fun _ _ _ _ _ _ _ hc q => mul_int q hc.ok
theorem op_mod : OpR X (binaryOp .Mod) (rI (fun _ j => 0 < j) fun i j => .int (i % j)) := opI fun i j _ _ _ _ _ hc q => by
 have h1 : (0 : Int) < j := hc
 exact mod_int' (by lia) (by rw [Int.fmod_eq_emod_of_nonneg i (by lia)]; exact q)
theorem op_pow : OpR X (binaryOp .Pow) (rI CPow fun i j => .int (i ^ j.toNat)) := opI fun _ _ _ _ _ _ _ hc q => pow_int_small hc.1 hc.2.1 hc.2.2 q
theorem unI {f : Value → Sem Value} {g : Int → Int}
  (rule : ∀ (i : Int) (t : Tok) (s : Shared) (Q : Value → Shared → Prop) (E : Value → Shared → Prop),Q (.int (g i) s.toks) { s with toks := s.toks + 1 } → wpAny (model X.prog X.w) X.A (f (.int i t)) Q E s) :
  UnR X f (rU fun i => .int (g i)) := by
 intro pins s σ H x v Q I rx h
 obtain ⟨i,rfl,q⟩ := h
 obtain ⟨t,rfl⟩ := rx
 exact rule i t s _ _ ⟨.int (g i),H,I.tok _,⟨_,rfl⟩,q⟩
theorem un_neg : UnR X (unaryOp .USub) (rU fun i => .int (-i)) := unI fun _ _ _ _ _ q => neg_int q
end
noncomputable def scal : V → V → Bool
 | .non,.non => true | .non,.int _ => true | .int _,.non => true | .non,.bl _ => true | .bl _,.non => true | .non,.str _ => true | .str _,.non => true
 | .int _,.int _ => true | .bl _,.bl _ => true | .str _,.str _ => true | .byt _,.byt _ => true
 | .int _,.str _ => true | .str _,.int _ => true | .bl _,.str _ => true | .str _,.bl _ => true
 | _,_ => false
noncomputable def rEq : R2 := fun x y H Q => scal x y = true ∧ Q (.bl (decide (x = y))) H
noncomputable def rNe : R2 := fun x y H Q => scal x y = true ∧ Q (.bl (!decide (x = y))) H
theorem dec_int {i j : Int} : decide (V.int i = V.int j) = (i == j) := by
 rw [Bool.eq_iff_iff]
 simp
theorem dec_bl {i j : Bool} : decide (V.bl i = V.bl j) = (i == j) := by
 rw [Bool.eq_iff_iff]
 simp
theorem dec_str {i j : Str} : decide (V.str i = V.str j) = (i == j) := by
 rw [Bool.eq_iff_iff]
 simp
theorem dec_byt {i j : Array UInt8} : decide (V.byt i = V.byt j) = (i.toList == j.toList) := by
 rw [Bool.eq_iff_iff]
 cases i
 cases j
 simp
section
variable {X : Cx} {a b c : Expr} {ta tb tc : TE} {pos : Pos}
theorem fin_bl {pins : List (Addr × Obj)} {σ : St} {H : Hp} {s : Shared} {Q : VK} {k k' : Bool} (I : Inv X pins σ H s) (q : Q (.bl k) H) (e : k = k') : EP X pins σ Q (.bool k') s := by
 subst e
 exact ⟨.bl k,H,I,rfl,q⟩
theorem op_eq : OpR X (compareOp .Eq) rEq := by
 intro pins s σ H x y v u Q I rx ry h
 obtain ⟨hs,q⟩ := h
 cases x with
 | non =>
  cases rx
  cases y with
  | non => cases ry; exact PySem.EqNone.eq_none_none (fin_bl I q (by simp))
  | bl j => cases ry; exact PySem.EqNone.eq_none_bool (fin_bl I q (by simp))
  | int j => obtain ⟨t',rfl⟩ := ry; exact PySem.EqNone.eq_none_int (fin_bl I q (by simp))
  | str j => obtain ⟨t',rfl⟩ := ry; exact PySem.EqNone.eq_none_str (fin_bl I q (by simp))
  | _ => exact absurd (show false = true from hs) Bool.false_ne_true
 | bl i =>
  cases rx
  cases y with
  | non => cases ry; exact PySem.EqNone.eq_bool_none (fin_bl I q (by simp))
  | bl j => cases ry; exact eq_bool (fin_bl I q dec_bl)
  | str j => obtain ⟨t',rfl⟩ := ry; exact PySem.EqMixed.eq_bool_str (fin_bl I q (by simp))
  | _ => exact absurd (show false = true from hs) Bool.false_ne_true
 | int i =>
  obtain ⟨t,rfl⟩ := rx
  cases y with
  | non => cases ry; exact PySem.EqNone.eq_int_none (fin_bl I q (by simp))
  | int j => obtain ⟨t',rfl⟩ := ry; exact eq_int (fin_bl I q dec_int)
  | str j => obtain ⟨t',rfl⟩ := ry; exact PySem.EqMixed.eq_int_str (fin_bl I q (by simp))
  | _ => exact absurd (show false = true from hs) Bool.false_ne_true
 | str i =>
  obtain ⟨t,rfl⟩ := rx
  cases y with
  | non => cases ry; exact PySem.EqNone.eq_str_none (fin_bl I q (by simp))
  | bl j => cases ry; exact PySem.EqMixed.eq_str_bool (fin_bl I q (by simp))
  | int j => obtain ⟨t',rfl⟩ := ry; exact PySem.EqMixed.eq_str_int (fin_bl I q (by simp))
  | str j => obtain ⟨t',rfl⟩ := ry; exact eq_str (fin_bl I q dec_str)
  | _ => exact absurd (show false = true from hs) Bool.false_ne_true
 | byt i =>
  obtain ⟨t,rfl⟩ := rx
  cases y with
  | byt j => obtain ⟨t',rfl⟩ := ry; exact PySem.W.eq_bytes (fin_bl I q dec_byt)
  | _ => exact absurd (show false = true from hs) Bool.false_ne_true
 | _ => cases y <;> exact absurd (show false = true from hs) Bool.false_ne_true
theorem op_ne : OpR X (compareOp .NotEq) rNe := by
 intro pins s σ H x y v u Q I rx ry h
 obtain ⟨hs,q⟩ := h
 cases x with
 | non =>
  cases rx
  cases y with
  | non => cases ry; exact PySem.EqNone.ne_none_none (fin_bl I q (by simp))
  | bl j => cases ry; exact PySem.EqNone.ne_none_bool (fin_bl I q (by simp))
  | int j => obtain ⟨t',rfl⟩ := ry; exact PySem.EqNone.ne_none_int (fin_bl I q (by simp))
  | str j => obtain ⟨t',rfl⟩ := ry; exact PySem.EqNone.ne_none_str (fin_bl I q (by simp))
  | _ => exact absurd (show false = true from hs) Bool.false_ne_true
 | bl i =>
  cases rx
  cases y with
  | non => cases ry; exact PySem.EqNone.ne_bool_none (fin_bl I q (by simp))
  | bl j => cases ry; exact ne_bool (fin_bl I q (congrArg not dec_bl))
  | str j => obtain ⟨t',rfl⟩ := ry; exact PySem.EqMixed.ne_bool_str (fin_bl I q (by simp))
  | _ => exact absurd (show false = true from hs) Bool.false_ne_true
 | int i =>
  obtain ⟨t,rfl⟩ := rx
  cases y with
  | non => cases ry; exact PySem.EqNone.ne_int_none (fin_bl I q (by simp))
  | int j => obtain ⟨t',rfl⟩ := ry; exact ne_int (fin_bl I q (congrArg not dec_int))
  | str j => obtain ⟨t',rfl⟩ := ry; exact PySem.EqMixed.ne_int_str (fin_bl I q (by simp))
  | _ => exact absurd (show false = true from hs) Bool.false_ne_true
 | str i =>
  obtain ⟨t,rfl⟩ := rx
  cases y with
  | non => cases ry; exact PySem.EqNone.ne_str_none (fin_bl I q (by simp))
  | bl j => cases ry; exact PySem.EqMixed.ne_str_bool (fin_bl I q (by simp))
  | int j => obtain ⟨t',rfl⟩ := ry; exact PySem.EqMixed.ne_str_int (fin_bl I q (by simp))
  | str j => obtain ⟨t',rfl⟩ := ry; exact ne_str (fin_bl I q (congrArg not dec_str))
  | _ => exact absurd (show false = true from hs) Bool.false_ne_true
 | byt i =>
  obtain ⟨t,rfl⟩ := rx
  cases y with
  | byt j => obtain ⟨t',rfl⟩ := ry; exact PySem.W.ne_bytes (fin_bl I q (congrArg not dec_byt))
  | _ => exact absurd (show false = true from hs) Bool.false_ne_true
 | _ => cases y <;> exact absurd (show false = true from hs) Bool.false_ne_true
theorem op_lt : OpR X (compareOp .Lt) (rI0 fun i j => .bl (decide (i < j))) := opB0 fun _ _ _ _ _ _ _ q => lt_int q
theorem op_le : OpR X (compareOp .LtE) (rI0 fun i j => .bl (decide (i ≤ j))) := opB0 fun _ _ _ _ _ _ _ q => le_int q
theorem op_gt : OpR X (compareOp .Gt) (rI0 fun i j => .bl (decide (j < i))) := opB0 fun _ _ _ _ _ _ _ q => gt_int q
theorem op_ge : OpR X (compareOp .GtE) (rI0 fun i j => .bl (decide (j ≤ i))) := opB0 fun _ _ _ _ _ _ _ q => ge_int q
theorem op_lt_str : OpR X (compareOp .Lt) (fun x y H Q => ∃ i j,x = .str i ∧ y = .str j ∧ Q (.bl (decide (i.cps.toList < j.cps.toList))) H) := by
 intro pins s σ H x y v u Q I rx ry h
 obtain ⟨i,j,rfl,rfl,q⟩ := h
 obtain ⟨t,rfl⟩ := rx
 obtain ⟨t',rfl⟩ := ry
 exact lt_str (fin_bl I q rfl)
theorem OpR.or {f : Value → Value → Sem Value} {r r' : R2} (h : OpR X f r) (h' : OpR X f r') : OpR X f (fun x y H Q => r x y H Q ∨ r' x y H Q) := by
 intro pins s σ H x y v u Q I rx ry q
 rcases q with q | q
 ·exact h pins s σ H x y v u Q I rx ry q
 ·exact h' pins s σ H x y v u Q I rx ry q
theorem nomark (b : Expr) {op : CmpOp} (h : op ≠ .In := by decide) (h2 : op ≠ .NotIn := by decide) : behindInMarks op b = false := by
 have e1 : (op == CmpOp.In) = false := by cases op <;> first | rfl | exact absurd rfl h
 have e2 : (op == CmpOp.NotIn) = false := by cases op <;> first | rfl | exact absurd rfl h2
 cases b <;> simp [behindInMarks,e1,e2]
theorem pe_cmpR {op : CmpOp} {r : R2} (ho : OpR X (compareOp op) r) (ha : PE X a ta) (hb : PE X b tb) (hm : behindInMarks op b = false) : PE X (.Compare a [op] [b] pos) (tOp r ta tb) := by
 intro pins s σ H Q I h
 exact wpAny_Compare1 (binT ha hb I h fun v u s2 x y H2 I2 rx ry q => ho pins s2 σ H2 x y v u Q I2 rx ry q) hm
inductive IBl (x : V) (H' : Hp) (Q : Bool → Hp → Prop) : Prop
 | mk (k : Bool) : (x = .bl k) → (Q k H') → IBl x H' Q
noncomputable def tTest (t : TE) : TT := fun σ H Q => t σ H fun x H' => IBl x H' Q
theorem pt_cmpR {op : CmpOp} {r : R2} (ho : OpR X (compareOp op) r) (ha : PE X a ta) (hb : PE X b tb) (hm : behindInMarks op b = false) : PT X (.Compare a [op] [b] pos) (tTest (tOp r ta tb)) := by
 intro pins s σ H Q I h
 refine wpAny_isTrue_Compare1 (thn (ha pins s σ H _ I h) fun v s1 ⟨x,H1,I1,r1,q1⟩ => thn (hb pins s1 σ H1 _ I1 q1) fun u s2 ⟨y,H2,I2,r2,q2⟩ =>
  thn (ho pins s2 σ H2 x y v u _ I2 r1 r2 q2) fun c s3 ⟨z,H3,I3,r3,k,e,q3⟩ => ?_) hm
 subst e
 cases r3
 exact wpAny_truthy_bool ⟨H3,I3,q3⟩
noncomputable def tChain (r r' : R2) (ta tb tc : TE) : TE := fun σ H Q => ta σ H fun x H1 => tb σ H1 fun y H2 => r x y H2 fun z H3 => ∃ k,z = .bl k ∧
 (if k = true then tc σ H3 fun w' H4 => r' y w' H4 Q else Q (.bl false) H3)
theorem pe_chain {op op' : CmpOp} {r r' : R2} (ho : OpR X (compareOp op) r) (ho' : OpR X (compareOp op') r') (ha : PE X a ta) (hb : PE X b tb) (hc : PE X c tc)
  (hm : lastMarks [op,op'] [b,c] = false := by with_unfolding_all rfl) : PE X (.Compare a [op,op'] [b,c] pos) (tChain r r' ta tb tc) := by
 intro pins s σ H Q I h
 refine Compare_chain (thn (ha pins s σ H _ I h) fun v s1 ⟨x,H1,I1,r1,q1⟩ => chain_link (thn (hb pins s1 σ H1 _ I1 q1) fun u s2 ⟨y,H2,I2,r2,q2⟩ =>
  thn (ho pins s2 σ H2 x y v u _ I2 r1 r2 q2) fun d s3 ⟨z,H3,I3,r3,k,e,q3⟩ => ?_)) hm
 subst e
 cases r3
 refine wpAny_truthy_bool ?_
 cases k with
 | false => exact ite_ff ⟨.bl false,H3,I3,rfl,q3⟩
 | true => exact ite_tt (chain_last (thn (hc pins s3 σ H3 _ I3 q3) fun w' s4 ⟨z',H4,I4,r4,q4⟩ => ho' pins s4 σ H4 y z' u w' Q I4 r2 r4 q4))
theorem line63 : (sizeLine : Nat) < 2 ^ 63 := by rw [sizeLine_eq]; decide
theorem op_add_str : OpR X (binaryOp .Add) (fun x y H Q => ∃ i j,x = .str i ∧ y = .str j ∧ i.length + j.length ≤ sizeLine ∧ Q (.str (i ++ j)) H) := by
 intro pins s σ H x y v u Q I rx ry h
 obtain ⟨i,j,rfl,rfl,hz,q⟩ := h
 obtain ⟨t,rfl⟩ := rx
 obtain ⟨t',rfl⟩ := ry
 exact add_str (fun t' tk => ⟨.str (i ++ j),H,I.tok _,⟨_,rfl⟩,q⟩) hz
theorem vals1 {x : V} {us : List Value} (r : Vals [x] us) : ∃ u,us = [u] ∧ RelV x u := by
 cases r with
 | cons r1 r2 => cases r2; exact ⟨_,rfl,r1⟩
theorem vals2 {x y : V} {us : List Value} (r : Vals [x,y] us) : ∃ u w',us = [u,w'] ∧ RelV x u ∧ RelV y w' := by
 cases r with
 | cons r1 r2 =>
  cases r2 with
  | cons r3 r4 => cases r4; exact ⟨_,_,rfl,r1,r3⟩
theorem call_min2 (hc : X.calm = true) : CallR X (.builtin "min") (fun xs H Q => ∃ i j,xs = [.int i,.int j] ∧ Q (.int (if j < i then j else i)) H) := by
 intro pins s σ H xs us Q I r h
 obtain ⟨i,j,rfl,q⟩ := h
 obtain ⟨u,w',rfl,⟨t,rfl⟩,⟨t',rfl⟩⟩ := vals2 r
 refine min_two_ints (I.ok.hd hc) fun h' tk k => ⟨_,H,I.kept k,?_,q⟩
 by_cases hj : j < i
 ·rw [if_pos hj,if_pos hj]; exact ⟨_,rfl⟩
 ·rw [if_neg hj,if_neg hj]; exact ⟨_,rfl⟩
theorem call_int1 : CallR X (.type "int") (fun xs H Q => (∃ i,xs = [.int i] ∧ Q (.int i) H) ∨ ∃ k,xs = [.bl k] ∧ Q (.int (if k then 1 else 0)) H) := by
 intro pins s σ H xs us Q I r h
 rcases h with ⟨i,rfl,q⟩ | ⟨k,rfl,q⟩
 ·obtain ⟨u,rfl,t,rfl⟩ := vals1 r
  exact call_int_int ⟨.int i,H,I,⟨_,rfl⟩,q⟩
 ·obtain ⟨u,rfl,r1⟩ := vals1 r
  cases r1
  exact call_int_bool ⟨.int (if k then 1 else 0),H,I.tok _,⟨_,rfl⟩,q⟩
theorem call_str_int : CallR X (.type "str") (fun xs H Q => ∃ i,xs = [.int i] ∧ i.natAbs.log2 < 1920 ∧ Q (.str (toString i)) H) := by
 intro pins s σ H xs us Q I r h
 obtain ⟨i,rfl,hz,q⟩ := h
 obtain ⟨u,rfl,t,rfl⟩ := vals1 r
 exact PySem.P.str_of_int hz ⟨.str _,H,I.tok _,⟨_,rfl⟩,q⟩
theorem call_ord : CallR X (.builtin "ord") (fun xs H Q => ∃ x,xs = [.str x] ∧ x.length = 1 ∧ Q (.int (x.cps.getD 0 0 : Nat)) H) := by
 intro pins s σ H xs us Q I r h
 obtain ⟨x,rfl,hz,q⟩ := h
 obtain ⟨u,rfl,t,rfl⟩ := vals1 r
 exact ord_of_one hz ⟨.int _,H,I.tok _,⟨_,rfl⟩,q⟩
end
end L2
namespace L2
open PySem PySem.Spec PyProof.Rows
structure ObjM (h : Heap) (x dx C : Addr) (mA : Str → Option Value) : Prop where
 obj : h.get? x = some (PySem.W.instObj C dx)
 ns : h.Ns1 dx mA
 ne : dx ≠ x
section
variable {prog : Program} {w : World} {A : Around} {E : Value → Shared → Prop} {s : Shared} {K : PySem.W.Frag} {x dx C f : Addr} {mA : Str → Option Value} {name : Str} {v : Value}
end
theorem RelO.some_of {v : V} {o : Option Value} (r : RelO (some v) o) : ∃ u,o = some u ∧ RelV v u := by
 cases o with
 | none => exact (show False from r).elim
 | some u => exact ⟨u,rfl,r⟩
section
variable {P : Program} {w : World} {H H' : Hp} {h h' : Heap} {a C dx : Addr} {fs fs' : List (Str × V)}
end
structure Cls (K : PySem.W.Frag) (C : Addr) : Prop where
 pg : PySem.W.plainGet K C Str.empty = true
 hd : PySem.W.hasDictIn K C = true
 po : PySem.W.plainOver K C = true
 sa : PySem.W.findIn K (.ref C) "__setattr__" = some (some (.builtin "object.__setattr__"))
section
variable {X : Cx} {pins : List (Addr × Obj)} {σ : St} {H : Hp} {s : Shared} {a C dx : Addr} {fs : List (Str × V)} {f : Str} {v : V} {A : Around} {E : Value → Shared → Prop}
end
section
variable {X : Cx} {o e value : Expr} {f : Str} {pos pos' tpos : Pos} {ta tv : TE}
end
section
variable {X : Cx} {pins : List (Addr × Obj)} {σ : St} {H : Hp} {s : Shared} {A : Around} {E : Value → Shared → Prop} {Q : Value → Shared → Prop} {c : Value} {b : Bool}
end
end L2
namespace L2
open PySem PySem.Spec PyProof.Rows
structure Room (k : Nat) (A : Around) : Prop where
 hd : A.handled = none
 dp : A.depth + 3 * k + 5 < recursionLimit
 un : A.units + 16 * k + 200 < cLine
theorem Room.mono {j k : Nat} {A : Around} (r : Room k A) (h : j ≤ k) : Room j A := ⟨r.hd,by have := r.dp; lia,by have := r.un; lia⟩
theorem Room.deeper {k : Nat} {A : Around} (r : Room (k + 1) A) (env : Env) : Room k (A.deeper env) :=
 ⟨r.hd,by have := r.dp; show A.depth + 1 + 3 * k + 5 < _; lia,by have := r.un; show A.units + 3 + 16 * k + 200 < _; lia⟩
theorem Room.depth {k : Nat} {A : Around} (r : Room k A) : A.depth < recursionLimit := by have := r.dp; lia
theorem Room.units {k : Nat} {A : Around} (r : Room k A) : A.units + 64 < cLine := by have := r.un; lia
noncomputable def tNil : TA := fun _ H Q => Q [] H
noncomputable def tCons (ta : TE) (tr : TA) : TA := fun σ H Q => ta σ H fun x H1 => tr σ H1 fun xs H2 => Q (x :: xs) H2
section
variable {X : Cx} {e : Expr} {es : List Expr} {te : TE} {t : TA} {pos : Pos}
theorem pa_nil : PA X [] tNil := fun _ _ _ _ H Q I h => Calls.spliced_nil ⟨[],H,I,.nil,h⟩
theorem pa_cons (ha : PE X e te) (hr : PA X es t) (hs : starEach (e :: es) X.env = (false,eval e X.env) :: starEach es X.env := by rfl) : PA X (e :: es) (tCons te t) := by
 intro pos pins s σ H Q I h
 rw [hs]
 show wpAny _ _ (spliced ((false,eval e X.env) :: backTo pos (starEach es X.env))) _ _ s
 refine Calls.spliced_cons (thn (ha pins s σ H _ I h) fun u s1 ⟨x,H1,I1,r1,q1⟩ => ?_)
 exact thn (hr pos pins s1 σ H1 _ I1 q1) fun us s2 ⟨xs,H2,I2,r2,q2⟩ => ⟨x :: xs,H2,I2,.cons r1 r2,q2⟩
noncomputable def tLst (t : TA) : TE := fun σ H Q => t σ H fun xs H1 => xs.length ≤ sizeLine ∧ ∀ p,H1 p = none → Q (.ref p) (upd H1 p (.lst xs))
theorem pe_lst (h : PA X es t) : PE X (.List es pos) (tLst t) := by
 intro pins s σ H Q I hq
 refine wpAny_List_spliced (thn (h pos pins s σ H _ I hq) fun us s1 ⟨xs,H1,I1,r,z,q⟩ => ⟨by rw [← r.length]; exact z,?_⟩)
 have hf : H1 s1.heap.objs.size = none := I1.hok.fresh (Nat.le_refl _)
 refine ⟨.ref s1.heap.objs.size,upd H1 s1.heap.objs.size (.lst xs),I1.laid (t' := s1.toks) (fun b u e => Heap.get?_push_of_some _ e) (Nat.le_refl _) ?_,rfl,q _ hf⟩
 exact ⟨z,us,0,r,Heap.get?_push_size _ rfl⟩
end
noncomputable abbrev Sp := List V → Hp → VK → XK → Prop
noncomputable abbrev CXT := List Env → Hp → Shared → XK → Value → Shared → Prop
structure Env0 (P : Program) (w : World) (K : PySem.W.Frag) (mg : Str → Option Value) (base : Heap) (A : Around) (outer : List Env) (s : Shared) (H : Hp) : Prop where
 frames : A.frames = some outer
 mod : Mod K mg base
 bs : ∀ b o,base.get? b = some o → s.heap.get? b = some o ∧ H b = none
 bsz : base.objs.size ≤ s.heap.objs.size
 funs : s.heap.FunFrames base outer
 frf : ∀ b ∈ frs outer,H b = none
 hok : HOk P w H s.heap
 bare : AllBare s.gens
noncomputable def CE (outer : List Env) (P : Program) (w : World) (H : Hp) (s : Shared) (Q : VK) (u : Value) (s' : Shared) : Prop :=
 ∃ v H',s'.os = s.os ∧ AllBare s'.gens ∧ Un (frs outer) [] H H' s.heap s'.heap ∧ HOk P w H' s'.heap ∧ RelV v u ∧ Q v H'
noncomputable def CR (CX : CXT) (outer : List Env) (P : Program) (w : World) (H : Hp) (s : Shared) (Q : VK) (E : XK) (r : Result) (s' : Shared) : Prop :=
 match r with
 | .ok (.ret u) => CE outer P w H s Q u s'
 | .ok _ => False
 | .error e => CX outer H s E e s'
structure FnOk (P : Program) (w : World) (K : PySem.W.Frag) (mg : Str → Option Value) (base : Heap) (CX : CXT) (k : Nat) (f : Addr) (fd : FuncData) (ps : List Str) (sp : Sp) : Prop where
 len : ∀ vs H Q E,sp vs H Q E → vs.length = ps.length
 run : ∀ (A : Around) (outer : List Env) (s : Shared) (H : Hp) (args : Args) (us : List Value) (vs : List V) (Q : VK) (E : XK),Room k A → Env0 P w K mg base A outer s H → BindsTo s fd args (ps.zip us) → Vals vs us → sp vs H Q E →
  codeAny (model P w) A (.call (.ref f) args) (CR CX outer P w H s Q E) s
theorem FnOk.mono {P : Program} {w : World} {K : PySem.W.Frag} {mg : Str → Option Value} {base : Heap} {CX : CXT} {j k : Nat} {f : Addr} {fd : FuncData} {ps : List Str} {sp : Sp} (F : FnOk P w K mg base CX j f fd ps sp) (h : j ≤ k) :
  FnOk P w K mg base CX k f fd ps sp := ⟨F.len,fun A outer s H args us vs Q E hr => F.run A outer s H args us vs Q E (hr.mono h)⟩
theorem FnOk.imp {P : Program} {w : World} {K : PySem.W.Frag} {mg : Str → Option Value} {base : Heap} {CX : CXT} {k : Nat} {f : Addr} {fd : FuncData} {ps : List Str} {sp sp' : Sp} (F : FnOk P w K mg base CX k f fd ps sp)
  (h : ∀ vs H Q E,sp' vs H Q E → sp vs H Q E) : FnOk P w K mg base CX k f fd ps sp' :=
 ⟨fun vs H Q E q => F.len vs H Q E (h _ _ _ _ q),fun A outer s H args us vs Q E hr he hb hv hs => F.run A outer s H args us vs Q E hr he hb hv (h _ _ _ _ hs)⟩
section
variable {X : Cx} {pins : List (Addr × Obj)} {σ : St} {H : Hp} {s s' : Shared}
theorem Inv.env0 (I : Inv X pins σ H s) : Env0 X.prog X.w X.K X.mg X.base X.A X.stack s H :=
 ⟨I.ok.frames,I.ok.mod,I.bs,Nat.le_trans I.ok.bsz I.sz,I.stack,I.stkFree,I.hok,I.bare⟩
theorem Inv.after {Q : VK} {u : Value} (I : Inv X pins σ H s) (h : CE X.stack X.prog X.w H s Q u s') : EP X pins σ Q u s' := by
 obtain ⟨v,H',os,bare,un,hok,r,q⟩ := h
 obtain ⟨hh,g,d,t,os'⟩ := s'
 obtain rfl : os' = s.os := os
 exact ⟨v,H',I.call (h' := hh) (g' := g) (d' := d) (t' := t) (ch := []) un hok bare (fun b z => absurd z (by simp)),r,q⟩
end
noncomputable def tCall (sp : Sp) (dvs : List V) (E : XK) (t : TA) : TE := fun σ H Q => t σ H fun vs H1 => sp (vs ++ dvs) H1 Q E
noncomputable def Binds (K : PySem.W.Frag) (fd : FuncData) (ps : List Str) (ds : List Value) : Prop :=
 ∀ (s : Shared) (us : List Value),K.In s.heap → (us ++ ds).length = ps.length → BindsTo s fd ⟨us,[]⟩ (ps.zip (us ++ ds))
theorem Binds.all {K : PySem.W.Frag} {fd : FuncData} {ps : List Str} (h : ∀ us : List Value,us.length = ps.length → bindArgs fd ⟨us,[]⟩ = pure (ps.zip us)) : Binds K fd ps [] := fun s us _ hl => by
 rw [List.append_nil] at hl ⊢
 exact .of_eq (h us hl)
noncomputable def Passes (CX : CXT) (X : Cx) (E : XK) : Prop := ∀ (pins : List (Addr × Obj)) (σ : St) (H : Hp) (s : Shared) (e : Value) (s' : Shared),Inv X pins σ H s → CX X.stack H s E e s' → X.xe e s'
section
variable {X : Cx} {CX : CXT} {k : Nat} {f C : Addr} {fd : FuncData} {ps : List Str} {sp : Sp} {dvs : List V} {ds : List Value} {E : XK} {x m : Str} {p pos apos : Pos} {e o : Expr} {es : List Expr} {ta : TE} {t : TA}
theorem run_fn {pins : List (Addr × Obj)} {σ : St} {H : Hp} {s : Shared} {Q : VK} {us : List Value} {vs : List V} (F : FnOk X.prog X.w X.K X.mg X.base CX k f fd ps sp) (hr : Room k X.A) (hb : Binds X.K fd ps ds) (hd : Vals dvs ds) (hx : Passes CX X E)
  (I : Inv X pins σ H s) (r : Vals vs us) (h : sp (vs ++ dvs) H Q E) : wpAny (model X.prog X.w) X.A (call (.ref f) us) (EP X pins σ Q) X.xe s := by
 have r2 : Vals (vs ++ dvs) (us ++ ds) := r.append hd
 have hl : (us ++ ds).length = ps.length := by rw [← r2.length]; exact F.len _ _ _ _ h
 refine wpAny_call (codeAny_mono (F.run X.A X.stack s H ⟨us,[]⟩ (us ++ ds) (vs ++ dvs) Q E hr I.env0 (hb s us I.kIn hl) r2 h) fun r s' hq => ?_)
 cases r with
 | error e => exact hx pins σ H s e s' I hq
 | ok fl =>
  cases fl with
  | ret u => exact I.after hq
  | next => exact False.elim hq
  | brk => exact False.elim hq
  | cont => exact False.elim hq
theorem pe_call (F : FnOk X.prog X.w X.K X.mg X.base CX k f fd ps sp) (hr : Room k X.A) (hg : Gl X x) (hm : X.mg x = some (.ref f)) (hk : PySem.W.keepIn X.K (.ref f) = true) (hb : Binds X.K fd ps ds) (hd : Vals dvs ds) (hx : Passes CX X E)
  (ha : PA X (e :: es) t) (hdb : (x == ("__debug__" : Str)) = false := by decide) (he : starEach (e :: es) X.env = (false,eval e X.env) :: starEach es X.env := by rfl) (hpl : (backTo pos (starEach es X.env)).any (·.1) = false := by rfl) :
  PE X (.Call (.Name x p) (e :: es) [] pos) (tCall sp dvs E t) := by
 intro pins s σ H Q I h
 refine wpAny_Call_Name_kw (ld_glob I hg hm ?_ hdb)
 refine PySem.W.callWith_K (h₀ := X.base) I.ok.mod.kin hk (thn (ha pos pins s σ H _ I h) fun us s1 ⟨vs,H1,I1,r,q⟩ => ⟨I1.kIn,?_⟩) he hpl
 exact run_fn F hr hb hd hx I1 r q
end
section
variable {X : Cx} {CX : CXT} {k : Nat} {f C : Addr} {fd : FuncData} {ps ks : List Str} {sp : Sp} {E : XK} {x m : Str} {p pos apos kpos : Pos} {e o : Expr} {es : List Expr} {kws : List Keyword} {te ta : TE} {t tk : TA} {nm : Option Str}
variable {g : List Value → List Value → List Value} {gV : List V → List V → List V}
end
structure FnScope (N P : List Str) (sc : Scope) : Prop where
 kind : sc.kind = .function
 co : sc.isCoroutine = false
 gen : sc.isGenerator = false
 nd : N.Nodup
 pre : N.take P.length = P
 par : ∀ x ∈ P,sc.names.lookup x = some .local ∨ sc.names.lookup x = some .cell
 nofree : ∀ y ∈ sc.names,y.2 ≠ .free
theorem bindL_out {kindOf : Str → Option NameKind} {x : Str} : ∀ {binds : List (Str × Value)} {m : Str → Option Value},(∀ v,(x,v) ∉ binds) → bindL kindOf binds m x = m x
 | [],_,_ => rfl
 | (n,v) :: r,m,h => by
  unfold bindL
  rw [bindL_out fun w hw => h w (List.mem_cons_of_mem _ hw)]
  split
  ·have : x ≠ n := by rintro rfl; exact h v List.mem_cons_self
   simp [this]
  ·rfl
theorem bindC_out {kindOf : Str → Option NameKind} {x : Str} : ∀ {binds : List (Str × Value)} {m : Str → Option Value},(∀ v,(x,v) ∉ binds) → bindC kindOf binds m x = m x
 | [],_,_ => rfl
 | (n,v) :: r,m,h => by
  unfold bindC
  rw [bindC_out fun w hw => h w (List.mem_cons_of_mem _ hw)]
  split
  ·rfl
  ·have : x ≠ n := by rintro rfl; exact h v List.mem_cons_self
   simp [this]
theorem bindL_get {kindOf : Str → Option NameKind} {x : Str} {v : Value} : ∀ {P : List Str} {vs : List Value} {i : Nat} {m : Str → Option Value},P.Nodup → P[i]? = some x → vs[i]? = some v → kindOf x = some .local →
  bindL kindOf (P.zip vs) m x = some v
 | [],_,_,_,_,h,_,_ => by simp at h
 | _ :: _,[],_,_,_,_,h,_ => by simp at h
 | p :: P,w :: vs,0,m,nd,h1,h2,hk => by
  simp at h1 h2; subst h1; subst h2
  show bindL kindOf ((p,w) :: P.zip vs) m p = _
  unfold bindL
  rw [bindL_out fun v hv => (List.nodup_cons.mp nd).1 (List.of_mem_zip hv).1,if_pos hk]
  simp
 | p :: P,w :: vs,i + 1,m,nd,h1,h2,hk => by
  show bindL kindOf ((p,w) :: P.zip vs) m x = _
  unfold bindL
  exact bindL_get (i := i) (List.nodup_cons.mp nd).2 (by simpa using h1) (by simpa using h2) hk
theorem bindC_get {kindOf : Str → Option NameKind} {x : Str} {v : Value} : ∀ {P : List Str} {vs : List Value} {i : Nat} {m : Str → Option Value},P.Nodup → P[i]? = some x → vs[i]? = some v → kindOf x ≠ some .local →
  bindC kindOf (P.zip vs) m x = some v
 | [],_,_,_,_,h,_,_ => by simp at h
 | _ :: _,[],_,_,_,_,h,_ => by simp at h
 | p :: P,w :: vs,0,m,nd,h1,h2,hk => by
  simp at h1 h2; subst h1; subst h2
  show bindC kindOf ((p,w) :: P.zip vs) m p = _
  unfold bindC
  rw [bindC_out fun v hv => (List.nodup_cons.mp nd).1 (List.of_mem_zip hv).1,if_neg hk]
  simp
 | p :: P,w :: vs,i + 1,m,nd,h1,h2,hk => by
  show bindC kindOf ((p,w) :: P.zip vs) m x = _
  unfold bindC
  exact bindC_get (i := i) (List.nodup_cons.mp nd).2 (by simpa using h1) (by simpa using h2) hk
noncomputable def start (N : List Str) (vs : List V) : St := vs.map some ++ List.replicate (N.length - vs.length) none
noncomputable def cxOf (CX : CXT) (P : Program) (w : World) (K : PySem.W.Frag) (mg : Str → Option Value) (base : Heap) (N : List Str) (qual : Str) (scope : Scope) (f : Addr) (cd : Value) (A : Around) (outer : List Env) (s : Shared) (H : Hp) (E : XK) : Cx where
 prog := P
 w := w
 K := K
 mg := mg
 base := base
 A := A.deeper (envOfC qual scope s.heap.objs.size f cd)
 N := N
 s₀ := s
 H₀ := H
 env := envOfC qual scope s.heap.objs.size f cd
 outer := outer
 stack := envOfC qual scope s.heap.objs.size f cd :: outer
 ex := []
 calm := true
 fn := fun _ => true
 pn := []
 xe := fun e s' => wpAny (model P w) (A.deeper (envOfC qual scope s.heap.objs.size f cd)) (leaving (envOfC qual scope s.heap.objs.size f cd) e) (fun _ s'' => CX outer H s E e s'') (fun e' s'' => CX outer H s E e' s'') s'
theorem cell_has {sc : Scope} {n : Nat} {x : Str} (h : sc.names.lookup x = some .cell) : ∃ c,(cellsFrom n sc.names []).lookup x = some c := by
 have q := PySem.W.cellsFrom_some sc.names n [] (.inl h)
 exact Option.isSome_iff_exists.mp q
theorem inv_start {CX : CXT} {P : Program} {w : World} {K : PySem.W.Frag} {mg : Str → Option Value} {base : Heap} {N ps : List Str} {qual : Str} {scope : Scope} {f : Addr} {cd : Value} {A : Around} {outer : List Env} {s s1 : Shared} {H : Hp} {E : XK} {us : List Value} {vs : List V}
  (S : FnScope N ps scope) (hd : A.handled = none) (e0 : Env0 P w K mg base A outer s H) (hl : vs.length = ps.length) (r : Vals vs us)
  (x : InCallC s s.heap.objs.size (bindL (envOfC qual scope s.heap.objs.size f cd).kindOf (ps.zip us) fun _ => none) (cellsFrom (s.heap.objs.size + 1) scope.names []) (bindC (envOfC qual scope s.heap.objs.size f cd).kindOf (ps.zip us) fun _ => none) s1) :
  Inv (cxOf CX P w K mg base N qual scope f cd A outer s H E) [] (start N vs) H s1 := by
 have hpl : ps.length ≤ N.length := by have := congrArg List.length S.pre; rw [List.length_take] at this; lia
 obtain ⟨h1,tk,rfl,hk⟩ := x.done
 have noA : ∀ b : Addr,b ∉ (cxOf CX P w K mg base N qual scope f cd A outer s H E).ex := fun b z => absurd (show b ∈ ([] : List Addr) from z) (by simp)
 refine ⟨⟨e0.mod,S.kind,rfl,rfl,Nat.le_refl _,fun y z c h1 h2 => ?_,fun y hy => ?_,fun y c _ h => ?_,fun _ => hd,Around.frames_deeper e0.frames,.inr ⟨rfl,rfl⟩,fun b z => absurd z (noA b),e0.bs,e0.bsz,fun b _ _ => noA b,fun b z => absurd z (noA b),e0.funs,e0.frf⟩,
  rfl,e0.bare,Un.kept hk,⟨_,x.toInCall.ns,fun i y v h1 h2 h3 => ?_⟩,fun y c h => ⟨_,x.cell y c h⟩,e0.hok.fresh (Nat.le_refl _),fun y c h => ?_,fun p hp => absurd (show p ∈ ([] : List (Addr × Obj)) from hp) (by simp),e0.hok.kept hk,?_⟩
 ·exact name_of_addr x.apart (PySem.mem_of_lookup h1) (PySem.mem_of_lookup h2)
 ·have hy : scope.names.lookup y = some .cell ∨ scope.names.lookup y = some .free := hy
  rcases hy with hy | hy
  ·exact cell_has hy
  ·exact absurd rfl (S.nofree _ (PySem.mem_of_lookup hy))
 ·exact Nat.le_of_lt (x.above y c (PySem.mem_of_lookup h))
 ·have hi : i < vs.length := by
   unfold start at h2
   by_cases hi : i < vs.length
   ·exact hi
   ·rw [List.getElem?_append_right (by simpa using hi)] at h2
    rw [List.getElem?_replicate] at h2
    split at h2 <;> cases h2
  have ha : vs[i]? = some v := by
   unfold start at h2
   rw [List.getElem?_append_left (by simpa using hi),List.getElem?_map] at h2
   cases e : vs[i]? with
   | none => rw [e] at h2; cases h2
   | some a => rw [e] at h2; cases h2; rfl
  obtain ⟨u,hu,rv⟩ := r.get ha
  have hp : ps[i]? = some y := by
   rw [← S.pre,List.getElem?_take_of_lt (by lia)]; exact h1
  have ndP : ps.Nodup := by rw [← S.pre]; exact S.nd.sublist (List.take_sublist _ _)
  refine ⟨u,rv,?_⟩
  rcases S.par y (List.mem_of_getElem? hp) with k | k
  ·exact .inl ⟨k,bindL_get ndP hp hu k⟩
  ·obtain ⟨c,e⟩ := cell_has (n := s.heap.objs.size + 1) k
   refine .inr ⟨.inl k,c,e,?_⟩
   have q := x.cell y c e
   rw [bindC_get ndP hp hu (by show scope.names.lookup y ≠ _; rw [k]; decide)] at q
   exact q
 ·exact e0.hok.fresh (Nat.le_of_lt (x.above y c (PySem.mem_of_lookup h)))
 ·unfold start
  show _ = N.length
  rw [List.length_append,List.length_map,List.length_replicate]
  lia
theorem fn_of {CX : CXT} {P : Program} {w : World} {K : PySem.W.Frag} {mg : Str → Option Value} {base : Heap} {k : Nat} {f : Addr} {name qual : Str} {params : Arguments} {body : List Stmt} {scope : Scope} {dV kV doc pm cdv ct oc : Value} {an od : Option Addr}
  {osl : Array (Option Value)} {N ps : List Str} {sp : Sp} (lk : K.lookup f = some ⟨oc,od,.func (PySem.W.fnOf name qual params body scope dV kV doc pm an cdv ct),osl⟩) (hcd : PySem.W.codeIn K cdv qual = true) (S : FnScope N ps scope)
  (len : ∀ vs H Q E,sp vs H Q E → vs.length = ps.length)
  (hbody : ∀ (A : Around) (outer : List Env) (s : Shared) (H : Hp) (vs : List V) (Q : VK) (E : XK),Room k (A.deeper (envOfC qual scope s.heap.objs.size f cdv)) → sp vs H Q E →
   ∃ t,PSs (cxOf CX P w K mg base N qual scope f cdv A outer s H E) body t ∧ t { nx := fun _ H' => Q .non H',rt := Q } (start N vs) H) :
  FnOk P w K mg base CX (k + 1) f (PySem.W.fnOf name qual params body scope dV kV doc pm an cdv ct) ps sp := by
 refine ⟨len,fun A outer s H args us vs Q E hr e0 hb r hsp => ?_⟩
 have hl := len _ _ _ _ hsp
 have KX : K.In s.heap := e0.mod.kin.keeps fun b o e => (e0.bs b o e).1
 have lim : s.heap.NoLimit := e0.mod.nolimit.keeps fun b o e => (e0.bs b o e).1
 have hkind : ∀ y ∈ ps.zip us,scope.names.lookup y.1 = some .local ∨ (scope.names.lookup y.1 = some .cell ∧ ((cellsFrom (s.heap.objs.size + 1) scope.names []).lookup y.1).isSome = true) := fun ⟨n,v⟩ hy => by
  rcases S.par n (List.of_mem_zip hy).1 with q | q
  ·exact .inl q
  ·exact .inr ⟨q,PySem.W.cellsFrom_some _ _ _ (.inl q)⟩
 refine codeAny_call_function hr.depth (KX _ _ lk) rfl S.co S.gen rfl (PySem.W.codeRec_of KX hcd) (hb _ _ _ _ ?_)
 refine wpAny_newFunctionEnv_cells S.kind hkind fun env he s1 x => ?_
 subst he
 refine ⟨lim.keeps x.toInCall.keep,codeAny_func ?_⟩
 obtain ⟨t,ht,hq⟩ := hbody A outer s H vs Q E (hr.deeper _) hsp
 have I : Inv (cxOf CX P w K mg base N qual scope f cdv A outer s H E) [] (start N vs) H s1 := inv_start S hr.hd e0 hl r x
 refine wpAny_mono (ht [] s1 (start N vs) H _ I hq) (fun fl s' hs => ?_) fun e s' hs => hs
 have fin : ∀ {σ' : St} {H' : Hp} {v : V} {u : Value},Inv (cxOf CX P w K mg base N qual scope f cdv A outer s H E) [] σ' H' s' → RelV v u → Q v H' → CE outer P w H s Q u s' :=
  fun {σ' H' v u} J rv q => ⟨v,H',J.os,J.bare,J.base,J.hok,rv,q⟩
 cases fl with
 | ret u =>
  obtain ⟨v,σ',H',J,rv,q⟩ := hs
  exact fin J rv q
 | next =>
  obtain ⟨σ',H',J,q⟩ := hs
  exact fin (v := V.non) (u := Value.none) J rfl q
 | brk =>
  obtain ⟨_,_,_,q⟩ := hs
  exact False.elim q
 | cont =>
  obtain ⟨_,_,_,q⟩ := hs
  exact False.elim q
end L2
namespace L2
open PySem PySem.Spec PyProof.Rows
section
variable {X : Cx} {x : Str} {p pos : Pos} {e : Expr} {es : List Expr} {t : TA} {id T : String} {r : List V → Hp → VK → Prop}
noncomputable def tCB (r : List V → Hp → VK → Prop) (t : TA) : TE := fun σ H Q => t σ H fun vs H1 => r vs H1 Q
theorem pe_callB (hc : CallR X (.builtin id) r) (hg : Gl X x) (hm : X.mg x = none) (hv : bootBuiltins x = some (.builtin id)) (ha : PA X (e :: es) t) (hn : x ≠ "__name__" := by decide) (hdb : (x == ("__debug__" : Str)) = false := by decide)
  (he : starEach (e :: es) X.env = (false,eval e X.env) :: starEach es X.env := by rfl) (hpl : (backTo pos (starEach es X.env)).any (·.1) = false := by rfl) : PE X (.Call (.Name x p) (e :: es) [] pos) (tCB r t) := by
 intro pins s σ H Q I h
 refine wpAny_Call_Name_kw (ld_blt I hg hm hv ?_ hn hdb)
 exact PyProof.Rows.callWith_builtin1 (thn (ha pos pins s σ H _ I h) fun us s1 ⟨vs,H1,I1,r1,q1⟩ => hc pins s1 σ H1 vs us Q I1 r1 q1) he hpl
theorem pe_callTy (hc : CallR X (.type T) r) (hg : Gl X x) (hm : X.mg x = none) (hv : bootBuiltins x = some (.type T)) (ha : PA X (e :: es) t) (hn : x ≠ "__name__" := by decide) (hdb : (x == ("__debug__" : Str)) = false := by decide)
  (he : starEach (e :: es) X.env = (false,eval e X.env) :: starEach es X.env := by rfl) (hpl : (backTo pos (starEach es X.env)).any (·.1) = false := by rfl) : PE X (.Call (.Name x p) (e :: es) [] pos) (tCB r t) := by
 intro pins s σ H Q I h
 refine wpAny_Call_Name_kw (ld_blt I hg hm hv ?_ hn hdb)
 exact PyProof.Rows.callWith_type1 (thn (ha pos pins s σ H _ I h) fun us s1 ⟨vs,H1,I1,r1,q1⟩ => hc pins s1 σ H1 vs us Q I1 r1 q1) he hpl
end
end L2
namespace HT
open PySem PyProof.Rows
section
open PySem.SeqAt
open PySem.AutoSeq1 (wpAny_loadPart')
open PySem.MeetsSeq PySem.MeetsSeq2 PySem.MeetsSeq3
end
section
variable {prog : Program} {w : World} {A : Around} {E : Value → Shared → Prop} {s : Shared}
theorem cat_tup {t b : Addr} {vs ws : List Value} {Q : Value → Shared → Prop} (ht : IsTup s.heap t vs.toArray) (hb : IsTup s.heap b ws.toArray) (hv : vs ≠ [])
  (h1 : ws = [] → Q (.ref t) s) (h2 : ws ≠ [] → Q (.ref s.heap.objs.size) { s with heap := s.heap.push { cls := .type "tuple",data := .seq (vs ++ ws).toArray } })
  (hsz : vs.length + ws.length ≤ sizeLine) : wpAny (model prog w) A (binaryOp .Add (.ref t) (.ref b)) Q E s := by
 obtain ⟨⟨cls,dd,data,sl⟩,ho,hc,n,hd⟩ := id ht
 obtain ⟨⟨cls2,dd2,data2,sl2⟩,ho2,hc2,n2,hd2⟩ := id hb
 simp only at hc hd hc2 hd2
 subst hc hd hc2 hd2
 have e : vs.toArray ++ ws.toArray = (vs ++ ws).toArray := by simp
 by_cases hw : ws = []
 ·exact concat_meets ⟨_,ho,rfl⟩ ⟨_,ho2,rfl⟩ noFill_tuple_add seq_tuple_add PySem.F.slot_tuple_add PySem.F.entry_tuple_add (PySem.F.args_tuple_add_2 _ _)
   (tuple_addW1 t b vs.toArray ws.toArray n n2 dd dd2 sl sl2 (by simpa using hv) (by simp [hw])) ⟨ho,ho2,h1 hw⟩
 ·refine concat_meets ⟨_,ho,rfl⟩ ⟨_,ho2,rfl⟩ noFill_tuple_add seq_tuple_add PySem.F.slot_tuple_add PySem.F.entry_tuple_add (PySem.F.args_tuple_add_2 _ _)
   (tuple_addW2 t b vs.toArray ws.toArray n n2 dd dd2 sl sl2 (by simpa using hv) (by simpa using hw) (by rw [List.size_toArray,List.size_toArray]; exact hsz)) ⟨ho,ho2,?_⟩
  rw [e]
  exact h2 hw
noncomputable def sIx (n d : Nat) : Option Int → Nat
 | none => d
 | some v => if v < 0 then (v + (n : Int)).toNat else min v.toNat n
theorem sIx_none (n d : Nat) : sIx n d none = d := rfl
theorem sIx_nat (n d k : Nat) : sIx n d (some (k : Int)) = min k n := by
 show (if (k : Int) < 0 then ((k : Int) + (n : Int)).toNat else min (k : Int).toNat n) = min k n
 rw [if_neg (by lia),Int.toNat_natCast]
theorem sIx_le (n d : Nat) (hd : d ≤ n) (o : Option Int) : sIx n d o ≤ n := by
 cases o with
 | none => exact hd
 | some v =>
  show (if v < 0 then (v + (n : Int)).toNat else min v.toNat n) ≤ n
  by_cases hv : v < 0
  ·rw [if_pos hv]; lia
  ·rw [if_neg hv]; exact Nat.min_le_right _ _
theorem clip_eq (v : Int) (n d : Nat) : (if v < 0 then max (v + (n : Int)) 0 else min v (n : Int)) = ((sIx n d (some v) : Nat) : Int) := by
 show (if v < 0 then max (v + (n : Int)) 0 else min v (n : Int)) = (((if v < 0 then (v + (n : Int)).toNat else min v.toNat n) : Nat) : Int)
 by_cases hv : v < 0
 ·simp only [if_pos hv]; lia
 ·simp only [if_neg hv]; lia
theorem adjust_gen (lo hi : Option Int) (n : Nat) : Builtin.Slice.sliceAdjust lo hi 1 (n : Int) = (((sIx n 0 lo : Nat) : Int),((sIx n n hi : Nat) : Int)) := by
 have h1 : ¬ ((1 : Int) < 0) := by lia
 unfold Builtin.Slice.sliceAdjust
 simp only [h1,if_false]
 refine Prod.ext ?_ ?_
 ·cases lo with
  | none => rfl
  | some v => exact clip_eq v n 0
 ·cases hi with
  | none => rfl
  | some v => exact clip_eq v n n
theorem places_gen (i j : Nat) : Builtin.Slice.slicePlaces (i : Int) (j : Int) 1 = j - i := by
 unfold Builtin.Slice.slicePlaces
 have h1 : (1 : Int) > 0 := by lia
 simp only [h1,if_true,Int.ediv_one]
 split <;> lia
theorem slicePart_ {v : Value} {o : Option Int} {Q : Option Int → Shared → Prop} (p : IsPart v o) (h : Q o s) : wpAny (model prog w) A (Builtin.Slice.slicePartIndex v) Q E s := by
 cases p with
 | none => exact slicePart_none h
 | int i t => exact slicePart_int h
theorem sliceApplied_gen {sl : Addr} {vl vu : Value} {lo hi : Option Int} {n : Nat} {Q : Int × Int × Nat → Shared → Prop} (hs : s.heap.IsSliceOf sl vl vu .none) (pl : IsPart vl lo) (pu : IsPart vu hi)
  (h : Q (((sIx n 0 lo : Nat) : Int),1,sIx n n hi - sIx n 0 lo) s) : wpAny (model prog w) A (Builtin.Slice.sliceApplied (.ref sl) (pure (n : Int))) Q E s := by
 obtain ⟨os,hos,hcs,hds⟩ := id hs
 unfold Builtin.Slice.sliceApplied Builtin.Slice.sliceFields
 refine wpAny_bind (wpAny_bind (wpAny_field hos hds (x := vl) rfl (wpAny_bind (wpAny_field hos hds (x := vu) rfl (wpAny_bind (wpAny_field hos hds (x := .none) rfl (wpAny_pure ?_)))))))
 refine wpAny_bind (slicePart_none ?_)
 show wpAny _ _ (if ((1 : Int) == 0) = true then _ else _) _ _ s
 rw [if_neg (by decide)]
 refine wpAny_bind (slicePart_ pl (wpAny_bind (slicePart_ pu (wpAny_bind (wpAny_pure ?_)))))
 show wpAny _ _ (match Builtin.Slice.sliceAdjust lo hi 1 (n : Int) with | (lo,hi) => pure (lo,(1 : Int),Builtin.Slice.slicePlaces lo hi 1)) _ _ s
 rw [adjust_gen lo hi n]
 show wpAny _ _ (pure (((sIx n 0 lo : Nat) : Int),(1 : Int),Builtin.Slice.slicePlaces ((sIx n 0 lo : Nat) : Int) ((sIx n n hi : Nat) : Int) 1)) _ _ s
 rw [places_gen]
 exact wpAny_pure h
theorem pick_gen (xs : Array Value) (i k : Nat) : ((List.range k).filterMap fun (m : Nat) => xs[((i : Int) + (m : Int) * 1).toNat]?).toArray = ((xs.toList.drop i).take k).toArray := by
 have e : (fun (m : Nat) => xs[((i : Int) + (m : Int) * 1).toNat]?) = fun m => xs[i + m]? := by
  funext m
  have : ((i : Int) + (m : Int) * 1).toNat = i + m := by lia
  rw [this]
 rw [e]
 have := pick_run xs i k
 rw [List.filterMap_map] at this
 have e2 : ((fun x => xs[x]?) ∘ fun x => i + x) = fun m => xs[i + m]? := rfl
 rw [e2] at this
 rw [this]
theorem getItem_tuple_cut {t sl : Addr} {items : Array Value} {vl vu : Value} {lo hi : Option Int} {Q : Value → Shared → Prop} (ht : IsTup s.heap t items) (hs : s.heap.IsSliceOf sl vl vu .none) (pl : IsPart vl lo) (pu : IsPart vu hi)
  (hw : ¬ (sIx items.size 0 lo = 0 ∧ sIx items.size items.size hi = items.size))
  (h : Q (.ref s.heap.objs.size) { s with heap := s.heap.push { cls := .type "tuple",data := .seq ((items.toList.drop (sIx items.size 0 lo)).take (sIx items.size items.size hi - sIx items.size 0 lo)).toArray } })
  (hsz : items.size ≤ sizeLine) : wpAny (model prog w) A (getItem (.ref t) (.ref sl)) Q E s := by
 have htake : sizeOk (.seq ((items.toList.drop (sIx items.size 0 lo)).take (sIx items.size items.size hi - sIx items.size 0 lo)).toArray) := by
  show ((items.toList.drop (sIx items.size 0 lo)).take (sIx items.size items.size hi - sIx items.size 0 lo)).toArray.size ≤ sizeLine
  rw [List.size_toArray,List.length_take,List.length_drop,Array.length_toList]
  lia
 have hj : sIx items.size items.size hi ≤ items.size := sIx_le _ _ (Nat.le_refl _) hi
 obtain ⟨os,hos,hcs,hds⟩ := id hs
 have hTs : s.TypeIs (.ref sl) "slice" := ⟨os,hos,hcs⟩
 unfold getItem
 try with_reducible refine wpAny_holding ?_
 first | refine wpAny_bind (wpAny_pure ?_) | skip
 refine wpAny_bind (wpAny_sequenceKey ht.typeIs (by decide) ?_)
 refine wpAny_bind (wpAny_callSpecial?_slot (name := Str.ofString "__getitem__") ht.typeIs PyProof.Rows.slot_tuple_getitem
  (wpAny_call_entry PyProof.Rows.slot_tuple_getitem ht.typeIs entry_tuple_getitem ?_ (args_tuple_getitem _ _)))
 show wpAny _ _ (Builtin.Tuple.tupleItemsOf (.ref t) >>= _) _ _ s
 refine wpAny_bind (tupleItemsOf_ ht ?_)
 refine wpAny_bind (wpAny_typeOf hTs ?_)
 rw [if_pos (by decide)]
 refine wpAny_bind (sliceApplied_gen hs pl pu ?_)
 have hno : ¬ ((((sIx items.size 0 lo : Nat) : Int) == 0 && (1 : Int) == 1 && (sIx items.size items.size hi - sIx items.size 0 lo) == items.size) = true) := by
  intro q
  rw [Bool.and_eq_true,Bool.and_eq_true] at q
  have q1 : ((sIx items.size 0 lo : Nat) : Int) = 0 := eq_of_beq q.1.1
  have q2 : sIx items.size items.size hi - sIx items.size 0 lo = items.size := eq_of_beq q.2
  exact hw ⟨by lia,by lia⟩
 show wpAny _ _ (if (((sIx items.size 0 lo : Nat) : Int) == 0 && (1 : Int) == 1 && (sIx items.size items.size hi - sIx items.size 0 lo) == items.size) = true then _ else _) _ _ s
 rw [if_neg hno,pick_gen]
 first
  | exact wpAny_bind (m := Builtin.Tuple.tupleExact _) (wpAny_newObj_type (wpAny_pure ⟨_,rfl,wpAny_pure h⟩) htake)
  | exact wpAny_bind (m := Builtin.Tuple.tupleExact _) (wpAny_newObj_type (wpAny_bind (wpAny_pure (wpAny_pure ⟨_,rfl,wpAny_pure h⟩))) htake)
  | exact wpAny_bind (wpAny_bind (m := Builtin.Tuple.tupleExact _) (wpAny_newObj_type (wpAny_pure (wpAny_pure ⟨_,rfl,wpAny_pure h⟩)) htake))
  | exact wpAny_bind (wpAny_bind (m := Builtin.Tuple.tupleExact _) (wpAny_newObj_type (wpAny_pure ⟨_,rfl,wpAny_pure h⟩) htake))
end
end HT
namespace L2
open PySem PySem.Spec PyProof.Rows
noncomputable abbrev TO := St → Hp → (Option Int → Hp → Prop) → Prop
noncomputable def PO (X : Cx) (e : Option Expr) (t : TO) : Prop :=
 ∀ (pins : List (Addr × Obj)) (s : Shared) (σ : St) (H : Hp) (Q : Option Int → Hp → Prop),Inv X pins σ H s → t σ H Q →
  wpAny (model X.prog X.w) X.A (evalPart e X.env) (fun u s' => ∃ o H',Inv X pins σ H' s' ∧ IsPart u o ∧ Q o H') X.xe s
noncomputable def tNoPart : TO := fun _ H Q => Q none H
inductive IPrt (x : V) (H1 : Hp) (Q : Option Int → Hp → Prop) : Prop
 | mk (i : Int) : (x = .int i) → (Q (some i) H1) → IPrt x H1 Q
noncomputable def tPart (t : TE) : TO := fun σ H Q => t σ H fun x H1 => IPrt x H1 Q
section
variable {X : Cx} {e : Expr} {te : TE} {lo hi : Option Expr} {tl th : TO} {pos p2 : Pos}
theorem po_none : PO X none tNoPart := by
 intro pins s σ H Q I h
 rw [evalPart_none]
 exact wpAny_pure ⟨none,H,I,.none,h⟩
theorem po_some (h : PE X e te) : PO X (some e) (tPart te) := by
 intro pins s σ H Q I hw
 rw [evalPart_some]
 refine thn (h pins s σ H _ I hw) fun u s1 ⟨x,H1,I1,r1,q1⟩ => ?_
 obtain ⟨i,rfl,q⟩ := q1
 obtain ⟨t,rfl⟩ := r1
 exact ⟨some i,H1,I1,.int i t,q⟩
noncomputable def SlR (X : Cx) (r : V → Option Int → Option Int → Hp → VK → Prop) : Prop :=
 ∀ (pins : List (Addr × Obj)) (s : Shared) (σ : St) (H : Hp) (x : V) (v vl vu : Value) (lo hi : Option Int) (sl : Addr) (Q : VK),Inv X pins σ H s → RelV x v → s.heap.IsSliceOf sl vl vu .none → IsPart vl lo → IsPart vu hi → r x lo hi H Q →
  ∃ T id,typeLookup (.type T) "__getitem__" = pure (some (.builtin id)) ∧ s.TypeIs v T ∧ wpAny (model X.prog X.w) X.A (getItem v (.ref sl)) (EP X pins σ Q) X.xe s
noncomputable def tSl (r : V → Option Int → Option Int → Hp → VK → Prop) (te : TE) (tl th : TO) : TE := fun σ H Q => te σ H fun x H1 => tl σ H1 fun l H2 => th σ H2 fun u H3 => r x l u H3 Q
theorem pe_slice {r : V → Option Int → Option Int → Hp → VK → Prop} (hr : SlR X r) (he : PE X e te) (hl : PO X lo tl) (hu : PO X hi th) : PE X (.Subscript e (.Slice lo hi none p2) pos) (tSl r te tl th) := by
 intro pins s σ H Q I h
 refine Subscript_ (thn (he pins s σ H _ I h) fun v s1 ⟨x,H1,I1,r1,q1⟩ => ?_)
 refine wpAny_Slice (thn (hl pins s1 σ H1 _ I1 q1) fun vl s2 ⟨l,H2,I2,pl,q2⟩ => thn (hu pins s2 σ H2 _ I2 q2) fun vu s3 ⟨u,H3,I3,pu,q3⟩ => ?_)
 rw [evalPart_none]
 refine wpAny_pure ?_
 have I4 : Inv X pins σ H3 { s3 with heap := s3.heap.push { cls := .type "slice",data := .fields #[vl,vu,.none] } } := I3.kept (t' := s3.toks) fun b ob q => Heap.get?_push_of_some _ q
 obtain ⟨T,id,hT,ht,hg⟩ := hr pins { s3 with heap := s3.heap.push { cls := .type "slice",data := .fields #[vl,vu,.none] } } σ H3 x v vl vu l u s3.heap.objs.size Q I4 r1 (Heap.IsSliceOf.new ..) pl pu q3
 show wpAny (model X.prog X.w) X.A (subscriptTail e (.Slice lo hi none p2) v (.ref s3.heap.objs.size)) (EP X pins σ Q) X.xe { s3 with heap := s3.heap.push { cls := .type "slice",data := .fields #[vl,vu,.none] } }
 exact tail_any (ops := [.ref s3.heap.objs.size,v]) ht hT hg (by with_unfolding_all rfl)
noncomputable def cutV (xs : List V) (lo hi : Option Int) : List V := (xs.drop (HT.sIx xs.length 0 lo)).take (HT.sIx xs.length xs.length hi - HT.sIx xs.length 0 lo)
theorem cutV_length (xs : List V) (lo hi : Option Int) : (cutV xs lo hi).length ≤ xs.length := by
 unfold cutV
 rw [List.length_take,List.length_drop]
 lia
theorem Vals.nil_iff {xs : List V} {us : List Value} (r : Vals xs us) : us = [] ↔ xs = [] := by
 cases r with
 | nil => simp
 | cons _ _ => simp
end
end L2
namespace L2
open PySem PySem.Spec PyProof.Rows
noncomputable def ixN (n : Nat) (i : Int) : Option Nat := if 0 ≤ i then (if i < n then some i.toNat else none) else if -(n : Int) ≤ i then some (i + n).toNat else none
noncomputable def atI {α : Type} (xs : List α) (i : Int) : Option α := (ixN xs.length i).bind fun j => xs[j]?
theorem ixN_seq {n : Nat} {i : Int} {j : Nat} (h : ixN n i = some j) : seqIndex? i n = some j ∧ j < n ∧ -(n : Int) ≤ i ∧ i < n := by
 unfold ixN at h
 by_cases h0 : 0 ≤ i
 ·rw [if_pos h0] at h
  by_cases h1 : i < n
  ·rw [if_pos h1] at h
   have e : i.toNat = j := Option.some.inj h
   exact ⟨by rw [seqIndex_of h0 h1,e],by lia,by lia,h1⟩
  ·rw [if_neg h1] at h; cases h
 ·rw [if_neg h0] at h
  by_cases h1 : -(n : Int) ≤ i
  ·rw [if_pos h1] at h
   have e : (i + n).toNat = j := Option.some.inj h
   exact ⟨by rw [seqIndex_neg (by lia) h1,e],by lia,h1,by lia⟩
  ·rw [if_neg h1] at h; cases h
theorem atI_get {α : Type} {xs : List α} {i : Int} {v : α} (h : atI xs i = some v) : ∃ j,seqIndex? i xs.length = some j ∧ xs[j]? = some v ∧ j < xs.length ∧ -(xs.length : Int) ≤ i ∧ i < xs.length := by
 unfold atI at h
 cases e : ixN xs.length i with
 | none => rw [e] at h; cases h
 | some j =>
  rw [e] at h
  obtain ⟨h1,h2,h3,h4⟩ := ixN_seq e
  exact ⟨j,h1,h,h2,h3,h4⟩
theorem atI_nat {α : Type} {xs : List α} {j : Nat} {v : α} (h : xs[j]? = some v) : atI xs (j : Int) = some v := by
 have hj : j < xs.length := (List.getElem?_eq_some_iff.mp h).1
 have e : ixN xs.length (j : Int) = some j := by
  unfold ixN
  rw [if_pos (by lia),if_pos (by lia)]; simp
 unfold atI; rw [e]; exact h
noncomputable def PlainIx (b : Expr) : Prop := ∀ o i,subscripted b false o i = operate [o,i] (getItem o i)
noncomputable def IxR (X : Cx) (r : R2) : Prop :=
 ∀ (value slice : Expr) (pins : List (Addr × Obj)) (s : Shared) (σ : St) (H : Hp) (x y : V) (v u : Value) (Q : VK),Inv X pins σ H s → RelV x v → RelV y u → r x y H Q →
  subscripted slice false v u = operate [v,u] (getItem v u) → wpAny (model X.prog X.w) X.A (subscriptTail value slice v u) (EP X pins σ Q) X.xe s
noncomputable def MtR (X : Cx) (id : String) (r : V → List V → Hp → VK → Prop) : Prop :=
 ∀ (pins : List (Addr × Obj)) (s : Shared) (σ : St) (H : Hp) (x : V) (xs : List V) (v : Value) (us : List Value) (Q : VK),Inv X pins σ H s → RelV x v → Vals xs us → r x xs H Q →
  wpAny (model X.prog X.w) X.A (call (.builtin id) (v :: us)) (EP X pins σ Q) X.xe s
section
variable {X : Cx} {a b : Expr} {ta tb : TE} {pos : Pos}
theorem pe_ix {r : R2} (hr : IxR X r) (ha : PE X a ta) (hb : PE X b tb) (hs : PlainIx b) : PE X (.Subscript a b pos) (tOp r ta tb) := by
 intro pins s σ H Q I h
 exact Subscript_ (binT ha hb I h fun v u s2 x y H2 I2 rx ry q => hr a b pins s2 σ H2 x y v u Q I2 rx ry q (hs _ _))
inductive IIxL (K : PySem.W.Frag) (x y : V) (H : Hp) (Q : VK) : Prop
 | mk (p : Addr) (xs : List V) (i : Int) (v : V) : (x = .ref p) → (y = .int i) → (SqL K H p xs) → (atI xs i = some v) → (Q v H) → IIxL K x y H Q
noncomputable def rIxL (K : PySem.W.Frag) : R2 := fun x y H Q => IIxL K x y H Q
noncomputable def rIxT (K : PySem.W.Frag) : R2 := fun x y H Q => ∃ p xs i v,x = .ref p ∧ y = .int i ∧ SqT K H p xs ∧ atI xs i = some v ∧ Q v H
noncomputable def rIxS : R2 := fun x y H Q => ∃ z i c,x = .str z ∧ y = .int i ∧ z.length ≤ sizeLine ∧ atI z.cps.toList i = some c ∧ Q (.str ⟨#[c]⟩) H
theorem ix_list : IxR X (rIxL X.K) := by
 intro value slice pins s σ H x y v u Q I rx ry h hs
 obtain ⟨p,xs,i,z,rfl,rfl,hq,he,q⟩ := h
 cases rx
 obtain ⟨t,rfl⟩ := ry
 obtain ⟨its,r,pl,hz⟩ := I.list hq
 obtain ⟨j,h1,h2,h3,h4,h5⟩ := atI_get he
 obtain ⟨w,ew,rw'⟩ := r.get h2
 have hl := r.length
 have hn := line63
 have fin : EP X pins σ Q w s := ⟨z,H,I,rw',q⟩
 by_cases h0 : 0 ≤ i
 ·have hj : i.toNat = j := by
   rw [seqIndex_of h0 h5] at h1
   exact Option.some.inj h1
  exact item_listR pl.isList h0 (by lia) (by rw [hj]; simpa using ew) fin hs
 ·have hj : (i + (its.toArray.size : Int)).toNat = j := by
   rw [seqIndex_neg (by lia) h4] at h1
   rw [List.size_toArray,← hl]
   exact Option.some.inj h1
  exact subscriptTail_builtinR (x := w) pl.isList.typeIs slot_list_getitem.lookup
   (wpAny_getItem_list_neg (Q := fun r s' => r = w ∧ EP X pins σ Q r s') pl.isList (by lia) (by rw [List.size_toArray] <;> lia) (by lia) (by rw [hj]; simpa using ew) ⟨rfl,fin⟩) hs
theorem ix_tup : IxR X (rIxT X.K) := by
 intro value slice pins s σ H x y v u Q I rx ry h hs
 obtain ⟨p,xs,i,z,rfl,rfl,hq,he,q⟩ := h
 cases rx
 obtain ⟨t,rfl⟩ := ry
 obtain ⟨its,r,pl,hz⟩ := I.tuple hq
 obtain ⟨j,h1,h2,h3,h4,h5⟩ := atI_get he
 obtain ⟨w,ew,rw'⟩ := r.get h2
 have hl := r.length
 have hn := line63
 have fin : EP X pins σ Q w s := ⟨z,H,I,rw',q⟩
 exact subscriptTail_builtinR (x := w) pl.typeIs slot_tuple_getitem.lookup
  (getItem_tuple (j := j) (Q := fun r s' => r = w ∧ EP X pins σ Q r s') pl (by lia) (by lia) (by rw [List.size_toArray,← hl]; exact h1) (by simpa using ew) ⟨rfl,fin⟩) hs
theorem ix_str : IxR X rIxS := by
 intro value slice pins s σ H x y v u Q I rx ry h hs
 obtain ⟨z,i,c,rfl,rfl,hz,he,q⟩ := h
 obtain ⟨t,rfl⟩ := rx
 obtain ⟨t',rfl⟩ := ry
 obtain ⟨j,h1,h2,h3,h4,h5⟩ := atI_get he
 have hl : z.cps.toList.length = z.length := by simp [Str.length]
 rw [hl] at h1 h4 h5
 have hn := line63
 exact tail_any (typeIs_str s z t) slot_str_getitem.lookup (getItem_str (c := c) (by
  have e1 : decide (i < -(2 ^ 63 : Int)) = false := decide_eq_false (by lia)
  have e2 : decide (i ≥ 2 ^ 63) = false := decide_eq_false (by lia)
  rw [e1,e2,Bool.or_false]) (by rw [h1]; simpa using h2) ⟨.str ⟨#[c]⟩,H,I.tok _,⟨_,rfl⟩,q⟩) hs
theorem mapSeq_set (its : List Value) (n j : Nat) (u : Value) : Obj.mapSeq (·.setIfInBounds j u) { cls := .type "list",data := .seq its.toArray n } = { cls := .type "list",data := .seq (its.set j u).toArray n } := by
 simp [Obj.mapSeq]
theorem Inv.lst {pins : List (Addr × Obj)} {σ : St} {H : Hp} {s : Shared} {p : Addr} {xs : List V} (I : Inv X pins σ H s) (h : H p = some (.lst xs)) :
  ∃ (its : List Value) (n : Nat),Vals xs its ∧ s.heap.get? p = some { cls := .type "list",data := .seq its.toArray n } ∧ xs.length ≤ sizeLine := by
 obtain ⟨z,its,n,r,e⟩ := I.hok p _ h
 exact ⟨its,n,r,e,z⟩
theorem Inv.lstUpd {pins : List (Addr × Obj)} {σ : St} {H : Hp} {s : Shared} {p : Addr} {xs ys : List V} {its its' : List Value} {n n' : Nat} {f : Obj → Obj} (I : Inv X pins σ H s) (h : H p = some (.lst xs))
  (ho : s.heap.get? p = some { cls := .type "list",data := .seq its.toArray n }) (hf : f { cls := .type "list",data := .seq its.toArray n } = { cls := .type "list",data := .seq its'.toArray n' }) (r : Vals ys its') (hz : ys.length ≤ sizeLine) (t : Nat) :
  Inv X pins σ (upd H p (.lst ys)) { s with heap := s.heap.update p f,toks := t } := by
 have e : (s.heap.update p f).get? p = some { cls := .type "list",data := .seq its'.toArray n' } := by
  rw [Heap.get?_update_self f ho (by rw [hf] <;> rfl),hf]
 refine I.write (x := p) (e := p) (by rw [h]; trivial) (.inl rfl) (fun b u hb q => (Heap.get?_update_other _ _ (Ne.symm hb)).trans q) ⟨_,e⟩ ?_
 exact ⟨hz,its',n',r,e⟩
inductive ISetL (o i v : V) (H : Hp) (Q : Hp → Prop) : Prop
 | mk (p : Addr) (xs : List V) (k : Int) (j : Nat) : (o = .ref p) → (i = .int k) → (H p = some (.lst xs)) → (ixN xs.length k = some j) → (Q (upd H p (.lst (xs.set j v)))) → ISetL o i v H Q
noncomputable def rSetL : V → V → V → Hp → (Hp → Prop) → Prop := fun o i v H Q => ISetL o i v H Q
theorem set_list : PSet X rSetL := by
 intro pins s σ H o i v ov iv u Q I ro ri rv h
 obtain ⟨p,xs,k,j,rfl,rfl,hp,hj,q⟩ := h
 cases ro
 obtain ⟨t,rfl⟩ := ri
 obtain ⟨its,n,r,ho,hz⟩ := I.lst hp
 obtain ⟨h1,h2,h3,h4⟩ := ixN_seq hj
 have hl := r.length
 have hn := line63
 have I' : Inv X pins σ (upd H p (.lst (xs.set j v))) { s with heap := s.heap.update p (Obj.mapSeq (·.setIfInBounds j u)) } :=
  I.lstUpd hp ho (mapSeq_set its n j u) (r.set rv j) (by rw [List.length_set]; exact hz) s.toks
 by_cases h0 : 0 ≤ k
 ·have hk : k.toNat = j := by
   rw [seqIndex_of h0 h4] at h1
   exact Option.some.inj h1
  exact PySem.W.ki_setAt ho h0 (by lia) (by rw [List.size_toArray,← hl]; exact h4) (by rw [hk]; exact ⟨_,I',q⟩)
 ·have hk : (k + (its.toArray.size : Int)).toNat = j := by
   rw [seqIndex_neg (by lia) h3] at h1
   rw [List.size_toArray,← hl]
   exact Option.some.inj h1
  exact PySem.W.ki_setBack ho (by lia) (by rw [List.size_toArray,← hl]; exact h3) (by lia) (by rw [hk]; exact ⟨_,I',q⟩)
theorem slice_bounds (lo hi : Option Int) (n : Nat) : (sliceBounds lo hi none n).1 = ((HT.sIx n 0 lo : Nat) : Int) ∧ (sliceBounds lo hi none n).2.1 = ((HT.sIx n n hi : Nat) : Int) ∧ (sliceBounds lo hi none n).2.2 = 1 := by
 refine ⟨?_,?_,rfl⟩
 ·cases lo with
  | none => simp [sliceBounds,HT.sIx]
  | some i =>
   simp only [sliceBounds,HT.sIx,Option.getD_none,show (1 : Int) > 0 by decide,if_true]
   by_cases h : i < 0
   ·simp only [h,if_true] <;> lia
   ·simp only [h,if_false] <;> lia
 ·cases hi with
  | none => simp [sliceBounds,HT.sIx]
  | some i =>
   simp only [sliceBounds,HT.sIx,Option.getD_none,show (1 : Int) > 0 by decide,if_true]
   by_cases h : i < 0
   ·simp only [h,if_true] <;> lia
   ·simp only [h,if_false] <;> lia
theorem slicePick_cut (its : List Value) (lo hi : Option Int) : slicePick its.toArray lo hi none = ((its.drop (HT.sIx its.length 0 lo)).take (HT.sIx its.length its.length hi - HT.sIx its.length 0 lo)).toArray := by
 obtain ⟨h1,h2,h3⟩ := slice_bounds lo hi its.toArray.size
 unfold slicePick
 rw [h1,h2,h3]
 simp only [sliceRange_one,pick_run,List.size_toArray] <;> rfl
noncomputable def rSlL (K : PySem.W.Frag) : V → Option Int → Option Int → Hp → VK → Prop := fun x lo hi H Q => ∃ a xs,x = .ref a ∧ SqL K H a xs ∧ ∀ p,H p = none → Q (.ref p) (upd H p (.lst (cutV xs lo hi)))
theorem sl_list : SlR X (rSlL X.K) := by
 intro pins s σ H x v vl vu lo hi sl Q I rx hs pl pu h
 obtain ⟨a,xs,rfl,hx,q⟩ := h
 cases rx
 obtain ⟨its,r,ht,hz⟩ := I.list hx
 have hlen := r.length
 refine ⟨"list",_,slot_list_getitem.lookup,ht.isList.typeIs,?_⟩
 refine wpAny_getItem_list_slice ht.isList hs pl pu .none (by simp) ?_ (by rw [List.size_toArray] <;> lia)
 rw [slicePick_cut,← hlen]
 refine ⟨.ref s.heap.objs.size,_,I.laid (t' := s.toks) (o := .lst (cutV xs lo hi)) (fun b ob q => Heap.get?_push_of_some _ q) (Nat.le_refl _) ?_,rfl,q _ (I.hok.fresh (Nat.le_refl _))⟩
 exact ⟨Nat.le_trans (cutV_length xs lo hi) hz,_,0,(r.drop (HT.sIx xs.length 0 lo)).take (HT.sIx xs.length xs.length hi - HT.sIx xs.length 0 lo),Heap.get?_push_size _ rfl⟩
noncomputable def flatV : V → Bool
 | .non => true
 | .bl _ => true
 | .int _ => true
 | .str _ => true
 | _ => false
noncomputable def eqV : V → V → Bool
 | .non,.non => true
 | .bl a,.bl b => a == b
 | .bl a,.int b => (if a then 1 else 0) == b
 | .int a,.bl b => a == (if b then 1 else 0)
 | .int a,.int b => a == b
 | .str a,.str b => a == b
 | _,_ => false
theorem eqAt_V {A : Around} {s : Shared} {y x : V} {u v : Value} (ry : RelV y u) (rx : RelV x v) (fy : flatV y = true) (fx : flatV x = true) : SeqAt.EqAt A s u v (eqV y x) := by
 cases y with
 | non =>
  cases ry
  cases x with
  | non => cases rx; exact SeqAt.EqAt.same _
  | bl b => cases rx; exact SeqAt.EqAt.none_bool b
  | int b => obtain ⟨t,rfl⟩ := rx; exact SeqAt.EqAt.none_int b t
  | str b => obtain ⟨t,rfl⟩ := rx; exact SeqAt.EqAt.none_str b t
  | _ => exact absurd (show false = true from fx) Bool.false_ne_true
 | bl a =>
  cases ry
  cases x with
  | non => cases rx; exact SeqAt.EqAt.bool_none a
  | bl b => cases rx; exact SeqAt.EqAt.bool_bool a b
  | int b => obtain ⟨t,rfl⟩ := rx; exact SeqAt.EqAt.bool_int a b t
  | str b => obtain ⟨t,rfl⟩ := rx; exact SeqAt.EqAt.bool_str a b t
  | _ => exact absurd (show false = true from fx) Bool.false_ne_true
 | int a =>
  obtain ⟨t',rfl⟩ := ry
  cases x with
  | non => cases rx; exact SeqAt.EqAt.int_none a t'
  | bl b => cases rx; exact SeqAt.EqAt.int_bool a t' b
  | int b => obtain ⟨t,rfl⟩ := rx; exact SeqAt.EqAt.int_int a t' b t
  | str b => obtain ⟨t,rfl⟩ := rx; exact SeqAt.EqAt.int_str a t' b t
  | _ => exact absurd (show false = true from fx) Bool.false_ne_true
 | str a =>
  obtain ⟨t',rfl⟩ := ry
  cases x with
  | non => cases rx; exact SeqAt.EqAt.str_none a t'
  | bl b => cases rx; exact SeqAt.EqAt.str_bool a t' b
  | int b => obtain ⟨t,rfl⟩ := rx; exact SeqAt.EqAt.str_int a t' b t
  | str b => obtain ⟨t,rfl⟩ := rx; exact SeqAt.EqAt.str_str a t' b t
  | _ => exact absurd (show false = true from fx) Bool.false_ne_true
 | _ => exact absurd (show false = true from fy) Bool.false_ne_true
noncomputable def eqU (x : V) (u : Value) : Bool := match u with
 | .none => eqV .non x
 | .bool b => eqV (.bl b) x
 | .int i _ => eqV (.int i) x
 | .str z _ => eqV (.str z) x
 | _ => false
theorem eqU_of {x y : V} {u : Value} (r : RelV y u) (f : flatV y = true) : eqU x u = eqV y x := by
 cases y with
 | non => cases r; rfl
 | bl b => cases r; rfl
 | int i => obtain ⟨t,rfl⟩ := r; rfl
 | str z => obtain ⟨t,rfl⟩ := r; rfl
 | _ => exact absurd (show false = true from f) Bool.false_ne_true
theorem any_eqU {x : V} : ∀ {xs : List V} {us : List Value},Vals xs us → xs.all flatV = true → us.any (eqU x) = xs.any fun y => eqV y x
 | _,_,.nil,_ => rfl
 | y :: xs,u :: us,.cons r t,f => by
  rw [List.all_cons,Bool.and_eq_true] at f
  rw [List.any_cons,List.any_cons,eqU_of r f.1,any_eqU t f.2]
theorem mem_eqAt {A : Around} {s : Shared} {x : V} {v : Value} (rx : RelV x v) (fx : flatV x = true) : ∀ {xs : List V} {us : List Value},Vals xs us → xs.all flatV = true → ∀ u ∈ us,SeqAt.EqAt A s u v (eqU x u)
 | _,_,.nil,_ => fun u hu => by cases hu
 | y :: xs,u :: us,.cons r t,f => fun u' hu => by
  rw [List.all_cons,Bool.and_eq_true] at f
  rcases List.mem_cons.mp hu with rfl | hu
  ·rw [eqU_of r f.1]; exact eqAt_V r rx f.1 fx
  ·exact mem_eqAt rx fx t f.2 u' hu
noncomputable def inV (x : V) (xs : List V) : Bool := xs.any fun y => eqV y x
noncomputable def rIn (K : PySem.W.Frag) (neg : Bool) : R2 := fun x y H Q => ∃ p xs,y = .ref p ∧ (SqL K H p xs ∨ SqT K H p xs) ∧ flatV x = true ∧ xs.all flatV = true ∧ Q (.bl (if neg then !inV x xs else inV x xs)) H
theorem op_in_seq : OpR X (compareOp .In) (rIn X.K false) := by
 intro pins s σ H x y v u Q I rx ry h
 obtain ⟨p,xs,rfl,hq,fx,fs,q⟩ := h
 cases ry
 rcases hq with hq | hq
 ·obtain ⟨its,r,pl,hz⟩ := I.list hq
  refine SeqAt.in_listAt (eqU x) pl.isList (fun w hw => mem_eqAt rx fx r fs w (by simpa using hw)) ⟨.bl _,H,I,rfl,?_⟩
  rw [show its.toArray.any (eqU x) = its.any (eqU x) by simp,any_eqU r fs]
  exact q
 ·obtain ⟨its,r,pl,hz⟩ := I.tuple hq
  refine SeqAt.in_tupleAt (eqU x) pl (fun w hw => mem_eqAt rx fx r fs w (by simpa using hw)) ⟨.bl _,H,I,rfl,?_⟩
  rw [show its.toArray.any (eqU x) = its.any (eqU x) by simp,any_eqU r fs]
  exact q
theorem call_len_seq : CallR X (.builtin "len") (fun xs H Q => ∃ p ys,xs = [.ref p] ∧ (SqL X.K H p ys ∨ SqT X.K H p ys) ∧ Q (.int ys.length) H) := by
 intro pins s σ H xs us Q I r h
 obtain ⟨p,ys,rfl,hq,q⟩ := h
 obtain ⟨u,rfl,rx⟩ := vals1 r
 cases rx
 have hn := line63
 rcases hq with hq | hq
 ·obtain ⟨its,r',pl,hz⟩ := I.list hq
  have hlen := r'.length
  exact Calls.call_len_list pl.isList (by simp only [List.size_toArray] <;> lia) ⟨.int ys.length,H,I.tok _,⟨s.toks + 1,by rw [List.size_toArray,hlen]⟩,q⟩
 ·obtain ⟨its,r',pl,hz⟩ := I.tuple hq
  have hlen := r'.length
  exact len_tuple pl (by simp only [List.size_toArray] <;> lia) ⟨.int ys.length,H,I.tok _,⟨s.toks + 1,by rw [List.size_toArray,hlen]⟩,q⟩
theorem call_len_str : CallR X (.builtin "len") (fun xs H Q => ∃ z,xs = [.str z] ∧ z.length ≤ sizeLine ∧ Q (.int z.length) H) := by
 intro pins s σ H xs us Q I r h
 obtain ⟨z,rfl,hz,q⟩ := h
 obtain ⟨u,rfl,t,rfl⟩ := vals1 r
 have hn := line63
 exact len_str (by lia) ⟨.int z.length,H,I.tok _,⟨_,rfl⟩,q⟩
theorem call_list_of : CallR X (.type "list") (fun xs H Q => ∃ p ys,xs = [.ref p] ∧ (SqL X.K H p ys ∨ SqT X.K H p ys) ∧ ∀ l,H l = none → Q (.ref l) (upd H l (.lst ys))) := by
 intro pins s σ H xs us Q I r h
 obtain ⟨p,ys,rfl,hq,q⟩ := h
 obtain ⟨u,rfl,rx⟩ := vals1 r
 cases rx
 have fin : ∀ (its : List Value),Vals ys its → ys.length ≤ sizeLine → ∀ (h' : Heap) (c' : Nat),(∀ b o',s.heap.get? b = some o' → h'.get? b = some o') →
   h'.get? s.heap.objs.size = some { cls := .type "list",dict := none,data := .seq its.toArray c',slots := #[] } → EP X pins σ Q (.ref s.heap.objs.size) { s with heap := h' } := fun its r' hz h' c' kp e =>
  ⟨.ref s.heap.objs.size,_,I.laid (t' := s.toks) kp (Nat.le_refl _) (show ObjOk X.prog X.w _ h' _ (.lst ys) from ⟨hz,its,c',r',e⟩),rfl,q _ (I.hok.fresh (Nat.le_refl _))⟩
 rcases hq with hq | hq
 ·obtain ⟨its,r',pl,hz⟩ := I.list hq
  have hlen := r'.length
  obtain ⟨o,ho,hc,n,hd⟩ := pl.isList
  exact call_list_seq p (.inl rfl) ho hc hd (fun h' c' kp e => fin its r' hz h' c' kp e) (by simp only [List.size_toArray] <;> lia)
 ·obtain ⟨its,r',pl,hz⟩ := I.tuple hq
  have hlen := r'.length
  obtain ⟨o,ho,hc,n,hd⟩ := pl
  exact call_list_seq p (.inr rfl) ho hc hd (fun h' c' kp e => fin its r' hz h' c' kp e) (by simp only [List.size_toArray] <;> lia)
noncomputable def tyV (K : PySem.W.Frag) (T : String) (x : V) (H : Hp) : Prop := match x with
 | .str _ => T = "str"
 | .int _ => T = "int"
 | .ref p => (T = "list" ∧ ∃ xs,SqL K H p xs) ∨ (T = "tuple" ∧ ∃ o,K.lookup p = some o ∧ o.cls = .type "tuple" ∧ o.dict = none) ∨
   (T = "dict" ∧ ((∃ kvs,H p = some (.dK kvs)) ∨ ∃ kvs,H p = some (.dT kvs))) ∨ (T = "set" ∧ ∃ S n,H p = some (.set S n))
 | _ => False
theorem tyV_is {pins : List (Addr × Obj)} {σ : St} {H : Hp} {s : Shared} {T : String} {x : V} {v : Value} (I : Inv X pins σ H s) (r : RelV x v) (ty : tyV X.K T x H) :
  s.TypeIs v T ∧ ∀ a,v = .ref a → ∃ ob,s.heap.get? a = some ob ∧ ob.dict = none := by
 cases x with
 | str z =>
  obtain ⟨t,rfl⟩ := r
  cases (show T = "str" from ty)
  exact ⟨typeIs_str s z t,fun _ e => nomatch e⟩
 | int i =>
  obtain ⟨t,rfl⟩ := r
  cases (show T = "int" from ty)
  exact ⟨typeIs_int s i t,fun _ e => nomatch e⟩
 | ref p =>
  cases r
  rcases ty with ⟨rfl,xs,hq⟩ | ⟨rfl,o,hk,hc,hd⟩ | ⟨rfl,hk⟩ | ⟨rfl,S,n,hk⟩
  ·obtain ⟨its,_,pl,_⟩ := I.list hq
   refine ⟨pl.isList.typeIs,fun a e => ?_⟩
   cases e
   obtain ⟨o,n,e,c,hd,_⟩ := pl
   exact ⟨o,e,hd⟩
  ·refine ⟨⟨o,I.kIn p o hk,hc⟩,fun a e => ?_⟩
   cases e
   exact ⟨o,I.kIn _ o hk,hd⟩
  ·have z : ∃ o,s.heap.get? p = some o ∧ o.ExactDict := by
    rcases hk with ⟨kvs,hk⟩ | ⟨kvs,hk⟩
    ·obtain ⟨_,_,_,_,o,_,_,e,ex,_⟩ := I.hok p _ hk
     exact ⟨o,e,ex⟩
    ·obtain ⟨_,_,_,_,o,_,_,e,ex,_⟩ := I.hok p _ hk
     exact ⟨o,e,ex⟩
   obtain ⟨o,e,ex⟩ := z
   refine ⟨⟨o,e,ex.1⟩,fun a e2 => ?_⟩
   cases e2
   exact ⟨o,e,ex.2.1⟩
  ·obtain ⟨o,_,_,_,e,ex,_⟩ := I.hok p _ hk
   refine ⟨⟨o,e,ex.1⟩,fun a e2 => ?_⟩
   cases e2
   exact ⟨o,e,ex.2.1⟩
 | _ => exact False.elim ty
noncomputable def tBM0 (K : PySem.W.Frag) (T : String) (r : V → List V → Hp → VK → Prop) (to : TE) : TE := fun σ H Q => to σ H fun x H1 => tyV K T x H1 ∧ r x [] H1 Q
noncomputable def tBM (K : PySem.W.Frag) (T : String) (r : V → List V → Hp → VK → Prop) (to : TE) (t : TA) : TE := fun σ H Q => to σ H fun x H1 => tyV K T x H1 ∧ t σ H1 fun xs H2 => r x xs H2 Q
variable {o e : Expr} {es : List Expr} {to : TE} {t : TA} {name : Str} {apos cpos : Pos} {T id : String} {r : V → List V → Hp → VK → Prop}
theorem pe_bm0 (pa : PlainAttrs T) (slot : Slot T name id) (hty : typeOf (.builtin id) = pure (.type "method_descriptor")) (hm : MtR X id r) (ho : PE X o to)
  (hbase : attributeBase o name X.env (eval o X.env) = eval o X.env := by rfl) (hline : (apos.endLine == cpos.line) = true := by rfl) : PE X (.Call (.Attribute o name apos) [] [] cpos) (tBM0 X.K T r to) := by
 intro pins s σ H Q I h
 refine wpAny_Call_method0_late hbase hline (thn (ho pins s σ H _ I h) fun v s1 ⟨x,H1,I1,r1,ty,q1⟩ => ?_)
 obtain ⟨h1,h2⟩ := tyV_is I1 r1 ty
 exact ⟨T,id,pa,slot,hty,h1,h2,Calls.callWith_builtin rfl (PySem.evalArgs_none (hm pins s1 σ H1 x [] v [] Q I1 r1 .nil q1))⟩
theorem pe_bm (pa : PlainAttrs T) (slot : Slot T name id) (hty : typeOf (.builtin id) = pure (.type "method_descriptor")) (hm : MtR X id r) (ho : PE X o to) (ha : PA X (e :: es) t)
  (hbase : attributeBase o name X.env (eval o X.env) = eval o X.env := by rfl)
  (hfew : ((backTo cpos (starEach (e :: es) X.env)).all (fun x => !x.1) && (backToKw cpos (keywordEach [] X.env)).all (fun x => x.1.isSome)
   && decide ((e :: es).length + ([] : List Keyword).length + (if ([] : List Keyword).isEmpty then 0 else 1) < 30)) = true := by rfl)
  (hline : (apos.endLine == cpos.line) = true := by rfl) (hs : starEach (e :: es) X.env = (false,eval e X.env) :: starEach es X.env := by rfl) (hplain : (backTo cpos (starEach es X.env)).any (·.1) = false := by rfl) :
  PE X (.Call (.Attribute o name apos) (e :: es) [] cpos) (tBM X.K T r to t) := by
 intro pins s σ H Q I h
 refine wpAny_Call_method_late hbase hfew hline rfl (thn (ho pins s σ H _ I h) fun v s1 ⟨x,H1,I1,r1,ty,q1⟩ => ?_)
 obtain ⟨h1,h2⟩ := tyV_is I1 r1 ty
 refine ⟨T,id,pa,slot,hty,h1,h2,?_⟩
 have hA := ha cpos pins s1 σ H1 _ I1 q1
 rw [hs] at hA ⊢
 refine Calls.callWith_builtin (by show (false || (backTo cpos (starEach es X.env)).any (·.1)) = false; rw [hplain] <;> rfl) (Calls.evalArgs_plain ?_)
 exact thn hA fun us s2 ⟨vs,H2,I2,r2,q2⟩ => hm pins s2 σ H2 x vs v us Q I2 r1 r2 q2
end
end L2
namespace L2
open PySem PySem.Spec PyProof.Rows
noncomputable def MtM (X : Cx) (id : String) (r : V → List V → Hp → VK → Prop) : Prop :=
 ∀ (pins : List (Addr × Obj)) (s : Shared) (σ : St) (H : Hp) (x : V) (xs : List V) (v : Value) (us : List Value) (Q : VK),Inv X pins σ H s → RelV x v → Vals xs us → r x xs H Q →
  wpAny (model X.prog X.w) X.A (call (.builtin id) (v :: us)) (EP X pins σ Q) X.xe s
theorem Vals.one : ∀ {x : V} {us : List Value},Vals [x] us → ∃ u,us = [u] ∧ RelV x u := by
 intro x us h
 cases h with
 | cons r t =>
  cases t
  exact ⟨_,rfl,r⟩
theorem Vals.two : ∀ {x y : V} {us : List Value},Vals [x,y] us → ∃ u v,us = [u,v] ∧ RelV x u ∧ RelV y v := by
 intro x y us h
 cases h with
 | cons r t =>
  cases t with
  | cons q t =>
   cases t
   exact ⟨_,_,rfl,r,q⟩
theorem Vals.zero : ∀ {us : List Value},Vals [] us → us = []
 | _,.nil => rfl
theorem Vals.reverse {xs : List V} {us : List Value} (h : Vals xs us) : Vals xs.reverse us.reverse := by
 induction h with
 | nil => exact .nil
 | cons r t ih => rw [List.reverse_cons,List.reverse_cons]; exact Vals.append ih (.cons r .nil)
section
variable {X : Cx} {pins : List (Addr × Obj)} {σ : St} {H : Hp} {s : Shared} {l b : Addr} {xs ys zs : List V}
theorem Inv.lset {its its' : List Value} {n : Nat} {f : Array Value → Array Value} {t' : Nat} (I : Inv X pins σ H s) (hH : H l = some (.lst xs))
  (e : s.heap.get? l = some { cls := .type "list",data := .seq its.toArray n }) (hf : f its.toArray = its'.toArray) (hv : Vals ys its') (hz : ys.length ≤ sizeLine) :
  Inv X pins σ (upd H l (.lst ys)) { s with heap := s.heap.update l (Obj.mapSeq f),toks := t' } := by
 have q := PySem.IsL.update e f
 rw [hf] at q
 refine I.write (x := l) (e := l) (by rw [hH]; exact trivial) (.inl rfl) (fun b' u hb hu => (Heap.get?_update_other s.heap (Obj.mapSeq f) (Ne.symm hb)).trans hu) ⟨_,q⟩ ?_
 exact ⟨hz,its',_,hv,q⟩
theorem Inv.lnew {its : List Value} {t' : Nat} (I : Inv X pins σ H s) (hv : Vals ys its) (hz : ys.length ≤ sizeLine) :
  Inv X pins σ (upd H s.heap.objs.size (.lst ys)) { s with heap := s.heap.push { cls := .type "list",data := .seq its.toArray },toks := t' } :=
 I.laid (fun _ _ q => Heap.get?_push_of_some _ q) (Nat.le_refl _) ⟨hz,its,0,hv,Heap.get?_push_size _ rfl⟩
theorem Inv.fresh (I : Inv X pins σ H s) : H s.heap.objs.size = none := I.hok.fresh (Nat.le_refl _)
theorem Inv.lstM (I : Inv X pins σ H s) (hH : H l = some (.lst xs)) : xs.length ≤ sizeLine ∧ ∃ (its : List Value) (n : Nat),Vals xs its ∧ xs.length = its.length ∧ s.heap.get? l = some { cls := .type "list",data := .seq its.toArray n } := by
 obtain ⟨z,its,n,r,e⟩ := I.hok l _ hH
 exact ⟨z,its,n,r,r.length,e⟩
end
section
variable {X : Cx}
inductive IApp (x : V) (vs : List V) (H : Hp) (Q : VK) : Prop
 | mk (l : Addr) (xs : List V) (y : V) : (x = .ref l) → (vs = [y]) → (H l = some (.lst xs)) → (xs.length < sizeLine) → (Q .non (upd H l (.lst (xs ++ [y])))) → IApp x vs H Q
noncomputable def rAppend : V → List V → Hp → VK → Prop := fun x vs H Q => IApp x vs H Q
theorem mt_append : MtM X "list.append" rAppend := by
 intro pins s σ H x vs v us Q I rx rv h
 obtain ⟨l,xs,y,rfl,rfl,hH,hz,q⟩ := h
 cases rx
 obtain ⟨u,rfl,ru⟩ := rv.one
 obtain ⟨z,its,n,r,hl,e⟩ := I.lstM hH
 refine call_meets F.slot_list_append ⟨_,e,rfl⟩ F.entry_list_append (F.args_list_append_2 _ _) (PySem.list_append l its.toArray n u (by rw [List.size_toArray]; lia)) ⟨e,?_⟩
 refine ⟨.non,_,I.lset (its' := its ++ [u]) hH e (by simp) (r.append (.cons ru .nil)) ?_,rfl,q⟩
 rw [List.length_append,List.length_singleton]
 lia
noncomputable def rReverse : V → List V → Hp → VK → Prop := fun x vs H Q => ∃ l xs,x = .ref l ∧ vs = [] ∧ H l = some (.lst xs) ∧ Q .non (upd H l (.lst xs.reverse))
theorem mt_reverse : MtM X "list.reverse" rReverse := by
 intro pins s σ H x vs v us Q I rx rv h
 obtain ⟨l,xs,rfl,rfl,hH,q⟩ := h
 cases rx
 have hus := rv.zero
 subst hus
 obtain ⟨z,its,n,r,hl,e⟩ := I.lstM hH
 refine call_meets F.slot_list_reverse ⟨_,e,rfl⟩ F.entry_list_reverse (F.args_list_reverse_1 _) (AutoSeq1.list_reverse_list_0 l its.toArray n (by rw [List.size_toArray]; lia)) ⟨e,?_⟩
 refine ⟨.non,_,I.lset (its' := its.reverse) hH e (by simp) r.reverse ?_,rfl,q⟩
 rw [List.length_reverse]
 lia
end
section
variable {prog : Program} {w : World} {A : Around} {E : Value → Shared → Prop} {s : Shared}
end
section
variable {X : Cx}
end
end L2
namespace Att
open PySem PySem.W PySem.Calls PyProof.Rows
theorem ints_of_wellAll {P : Params} {h : Heap} : ∀ (ns : List Int) (vs : List Value),WellAll P h vs (ns.map WData.int) → IntsAre vs ns := by
 intro ns
 induction ns with
 | nil =>
  intro vs w
  rw [List.map_nil] at w
  cases w
  exact .nil
 | cons n ns ih =>
  intro vs w
  rw [List.map_cons] at w
  cases w with
  | cons a b =>
   cases a
   exact .cons _ _ (ih _ b)
theorem script_of {l : OpenLaw} {n : Nat} (hn : l.most = some n) {P : Params} {h : Heap} {args : List WData} {vals : List Value}
  (hpre : l.row.toRowW.claim.pre args = true) (hwl : WellAll P h vals args) :
  ∃ a vs ns,vals = [Value.ref a] ∧ args = [WData.list (ns.map WData.int)] ∧ h.get? a = some { cls := .type "list",data := .seq vs.toArray } ∧ IntsAre vs ns ∧ ns.length ≤ n := by
 have hsh : WShape.hasAll [] args [.list .int] = true := (pre_splitW hpre).1
 have hc : l.pre.holds [] { args := args } = true := (pre_splitW hpre).2
 obtain ⟨d,r,rfl,h1,h2⟩ := hasAllW_cons hsh
 obtain rfl := hasAllW_nil h2
 obtain ⟨xs,rfl,h3⟩ := hasW_list h1
 obtain ⟨ns,rfl⟩ := items_int h3
 have hlen : ns.length ≤ n := by
  unfold OpenLaw.pre at hc
  have h4 : (WTm.not (.lt (.lit (.int (n : Int))) (.len (.arg 0)))).holds [] { args := [.list (ns.map .int)] } = true := by
   have h4 := (holds_andW hc).1
   rw [hn] at h4
   exact h4
  have h5 := condW_of h4 (w_not (w_lt w_lit (w_len_list (w_arg rfl))))
  rw [List.length_map] at h5
  refine Nat.le_of_not_lt fun q => ?_
  have q' : (n : Int) < ((ns.length : Nat) : Int) := by lia
  first
   | (rw [decide_eq_true q'] at h5; exact absurd h5 (by decide))
   | (simp at h5; lia)
 cases hwl with
 | cons w1 w2 =>
  cases w2
  cases w1 with
  | list ho hall => exact ⟨_,_,ns,rfl,rfl,ho,ints_of_wellAll ns _ hall,hlen⟩
theorem post_true (l : OpenLaw) (args : List WData) : l.row.toRowW.claim.post args (.bool true) args = true :=
 postW_of (r := l.row.toRowW) (X := (true == true))
  (show WShape.has [] (.bool true) .bool = true by first | rfl | decide | simp [WShape.has,WShape.arms,WShape.armsAll])
  (show (WTm.eq .res (.lit (.bool true))).value [] { args := args,res := some (.bool true),after := args } = some (.bool (true == true)) from w_eq_bool (w_res rfl) w_lit) rfl
theorem attach_call {l : OpenLaw} {n : Nat} {q : Program} {loose : List Str} {XP : (Str → Option Value) → Heap → Prop} {YP : World → Heap → Prop} {d : DefRec}
  (hn : l.most = some n) (hdf : d.params.defaults = [])
  (call : ∀ (w : World) (s₀ s₁ : Shared) (mg mb : Str → Option Value) (fa : Addr) (o : Obj) (pm cd doc : Value) (a : Addr) (vs : List Value) (ns : List Int),
   Ground q loose [] XP w s₀ mg mb s₁.heap → YP w s₁.heap →
   s₁.heap.get? fa = some o → o.data = .func (docDef d.name d.params d.body d.scope pm cd doc) → s₁.heap.CodeRec cd d.name → mg d.name = some (.ref fa) →
   s₁.heap.get? a = some { cls := .type "list",data := .seq vs.toArray } → IntsAre vs ns → ns.length ≤ n → s₁.gens = #[] →
   codeAny (model l.prog w) callerA (.call (.ref fa) ⟨[.ref a],[]⟩) (fun r s' => r = .ok (.ret (.bool true)) ∧ OldK s₁.heap s'.heap ∧ s'.os = s₁.os ∧ AllBare s'.gens) s₁) :
  WalkO q loose XP YP l.row.toRowW d [] (fun f vs => PySem.call f vs) := by
 intro w s₀ s₁ mg mb G Y fa o pm cd doc dV kV ho hd hcd hD hmg hg args vals as hpre hlay hrd hwl hlo
 obtain rfl : dV = .none := Dflts.none hD hdf
 obtain rfl : kV = .none := Dflts.noKw hD
 obtain ⟨a,vs,ns,rfl,rfl,hobj,hints,hlen⟩ := script_of hn hpre hwl
 refine enter_call (codeAny_mono (call w s₀ s₁ mg mb fa o pm cd doc a vs ns G Y ho (fd_plain hd) hcd hmg hobj hints hlen hg) fun r s' hq => ?_)
 obtain ⟨rfl,h2,h3,h4⟩ := hq
 exact ⟨.inl ⟨.bool true,.bool true,[],rfl,fun _ => rfl,.bool true,post_true l _,fun _ => ⟨List.Pairwise.nil,fun _ hm => (nomatch hm)⟩⟩,h2,h3,h4⟩
section
variable {prog : Program} {w : World} {A : Around} {E : Value → Shared → Prop} {s : Shared} {K : Frag}
end
end Att
namespace L2
open PySem PySem.Spec PyProof.Rows
theorem vals_ints : ∀ {vs : List Value} {ns : List Int},IntsAre vs ns → Vals (ns.map V.int) vs
 | _,_,.nil => .nil
 | _,_,.cons n t h => .cons ⟨t,rfl⟩ (vals_ints h)
noncomputable def Only (H : Hp) : Prop := ∀ b,H b = none ∨ ∃ o xs,H b = some (.frz o (.lst xs))
theorem law_call {P : Program} {w : World} {K : PySem.W.Frag} {mg mb : Str → Option Value} {CX : CXT} {k : Nat} {fa a : Addr} {fd : FuncData} {x : Str} {sp : Sp} {s₁ : Shared} {vs : List Value} {ns : List Int}
  (KX : K.In s₁.heap) (hns : s₁.heap.Ns mainGlobals mg) (hb : s₁.heap.Ns builtinsNs mb) (hbb : ∀ x : Str,x ≠ "__name__" → mb x = bootBuiltins x) (hlim : s₁.heap.NoLimit) (hg : s₁.gens = #[])
  (ha : s₁.heap.get? a = some { cls := .type "list",data := .seq vs.toArray }) (hi : IntsAre vs ns) (hl : ns.length ≤ sizeLine) (hr : Room k callerA)
  (F : ∀ base : Heap,K.In base → base.Ns mainGlobals mg → FnOk P w K mg base CX k fa fd [x] sp) (hbind : ∀ (s : Shared) (u : Value),BindsTo s fd ⟨[u],[]⟩ [(x,u)])
  (hsp : ∀ H : Hp,Only H → SqL K H a (ns.map V.int) → sp [.ref a] H (fun v _ => v = .bl true) fun _ _ _ => False)
  (hCX : ∀ H e s',CX [] H s₁ (fun _ _ _ => False) e s' → False) :
  codeAny (model P w) callerA (.call (.ref fa) ⟨[.ref a],[]⟩) (fun r s' => r = .ok (.ret (.bool true)) ∧ OldK s₁.heap s'.heap ∧ s'.os = s₁.os ∧ AllBare s'.gens) s₁ := by
 have rv := vals_ints hi
 have lenV := hi.length
 have core : ∀ H : Hp,Only H → SqL K H a (ns.map V.int) → HOk P w H s₁.heap → (∀ b,H b ≠ none → b = a) → (H a ≠ none → K.lookup a = none) →
   codeAny (model P w) callerA (.call (.ref fa) ⟨[.ref a],[]⟩) (fun r s' => r = .ok (.ret (.bool true)) ∧ OldK s₁.heap s'.heap ∧ s'.os = s₁.os ∧ AllBare s'.gens) s₁ := by
  intro H hO hS hok hA hK
  have base_of : ∀ {b : Addr} {o : Obj},s₁.heap.get? b = some o → H b = none → (hidT s₁.heap H).get? b = some o := fun e n => hidT_get e n
  have noA : ∀ {b : Addr} {o : Obj} {es : Array DictEntry} {ep : Nat},s₁.heap.get? b = some o → o.data = .dict es ep → H b = none := fun {b o es ep} e d => by
   cases q : H b with
   | none => rfl
   | some u =>
    have e' : b = a := hA b (by rw [q]; simp)
    subst e'
    rw [ha] at e; cases e
    have d' : Data.seq vs.toArray _ = Data.dict es ep := d
    cases d'
  have nsK : ∀ {b : Addr} {m : Str → Option Value},s₁.heap.Ns b m → (hidT s₁.heap H).Ns b m := fun {b m} ⟨o,es,ep,e,d,r⟩ => ⟨o,es,ep,base_of e (noA e d),d,r⟩
  have hKb : K.In (hidT s₁.heap H) := fun b o e => base_of (KX b o e) (by
   cases q : H b with
   | none => rfl
   | some u =>
    have e' : b = a := hA b (by rw [q]; simp)
    subst e'
    rw [hK (by rw [q]; simp)] at e; cases e)
  have hM : Mod K mg (hidT s₁.heap H) := ⟨hKb,nsK hns,⟨mb,nsK hb,hbb⟩,let ⟨mc,h1,h2⟩ := hlim; ⟨mc,nsK h1,h2⟩⟩
  have e0 : Env0 P w K mg (hidT s₁.heap H) callerA [] s₁ H := ⟨rfl,hM,fun b o e => of_hidT e,Nat.le_of_eq (hidT_size _ _),trivial,fun b hb => absurd (show b ∈ ([] : List Addr) from hb) (by simp),hok,.of_eq hg⟩
  refine codeAny_mono ((F _ hKb (nsK hns)).run callerA [] s₁ H ⟨[.ref a],[]⟩ [.ref a] [.ref a] _ _ hr e0 (hbind s₁ (.ref a)) (.cons rfl .nil) (hsp H hO hS)) fun r s' h => ?_
  cases r with
  | error e => exact (hCX H e s' h).elim
  | ok fl =>
   cases fl with
   | next => exact False.elim h
   | brk => exact False.elim h
   | cont => exact False.elim h
   | ret u =>
    obtain ⟨v,H',os,bare,un,hok',r',q⟩ := h
    have q' : v = .bl true := q
    subst q'
    obtain rfl : u = Value.bool true := r'
    refine ⟨rfl,OldK.of_keep fun b o e => ?_,os,bare⟩
    cases q : H b with
    | none => exact un.keep b o e q (by intro z; exact absurd (show b ∈ ([] : List Addr) from z) (by simp)) (by simp)
    | some u =>
     rcases hO b with z | ⟨ob,xs,z⟩
     ·rw [q] at z; cases z
     ·have z2 := un.frzs b ob _ z
      obtain ⟨e1,_⟩ := hok b _ z
      obtain ⟨e2,_⟩ := hok' b _ z2
      rw [e] at e1; cases e1
      exact e2
 cases hk : K.lookup a with
 | some o =>
  have e := KX a o hk
  rw [ha] at e
  cases e
  refine core (fun _ => none) (fun _ => .inl rfl) (.inr ⟨_,vs.toArray,_,hk,rfl,rfl,rfl,by rw [List.size_toArray,lenV]; exact hl,by simpa using rv⟩) (fun b u z => by have z' : (none : Option HO) = some u := z; cases z') (fun b z => absurd rfl z) fun z => absurd rfl z
 | none =>
  refine core (fun b => if b = a then some (.frz { cls := .type "list",data := .seq vs.toArray } (.lst (ns.map V.int))) else none) (fun b => ?_) (.inl (.inr ⟨{ cls := .type "list",data := .seq vs.toArray },if_pos rfl⟩)) (fun b u z => ?_) (fun b z => ?_) fun _ => hk
  ·by_cases hb : b = a
   ·exact .inr ⟨_,_,if_pos hb⟩
   ·exact .inl (if_neg hb)
  ·by_cases hb : b = a
   ·have z' := (if_pos hb).symm.trans z
    cases z'
    subst hb
    exact ⟨ha,by rw [List.length_map]; exact hl,vs,_,rv,ha⟩
   ·have z' := (if_neg hb).symm.trans z
    cases z'
  ·by_cases hb : b = a
   ·exact hb
   ·exact absurd (if_neg hb) z
end L2
namespace L2
open PySem PySem.Spec PyProof.Rows
noncomputable abbrev KOf {K : PySem.W.Frag} {h : Heap} (_ : K.In h) : PySem.W.Frag := K
theorem walk_of {l : PySem.W.OpenLaw} {n k : Nat} {q : Program} {loose : List Str} {XP : (Str → Option Value) → Heap → Prop} {YP : World → Heap → Prop} {d : DefRec} {K : Params → PySem.W.Frag} {CX : World → CXT} {sp : World → Sp} {x : Str}
  (hn : l.most = some n) (hn2 : n ≤ sizeLine) (hdf : d.params.defaults = []) (hr : Room k callerA)
  (hY : ∀ (w : World) (h : Heap),YP w h → (K w.params).In h)
  (F : ∀ (w : World) (mg : Str → Option Value) (fa : Addr) (h : Heap),(K w.params).In h → h.Ns mainGlobals mg → mg d.name = some (.ref fa) →
   ∃ fd : FuncData,(∀ (s : Shared) (u : Value),BindsTo s fd ⟨[u],[]⟩ [(x,u)]) ∧
    ∀ base : Heap,(K w.params).In base → base.Ns mainGlobals mg → FnOk l.prog w (K w.params) mg base (CX w) k fa fd [x] (sp w))
  (hsp : ∀ (w : World) (H : Hp) (a : Addr) (ns : List Int),ns.length ≤ n → Only H → SqL (K w.params) H a (ns.map V.int) → sp w [.ref a] H (fun v _ => v = .bl true) fun _ _ _ => False)
  (hCX : ∀ (w : World) (H : Hp) (s : Shared) (e : Value) (s' : Shared),CX w [] H s (fun _ _ _ => False) e s' → False) :
  PySem.W.WalkO q loose XP YP l.row.toRowW d [] (fun f vs => PySem.call f vs) := by
 refine Att.attach_call hn hdf fun w s₀ s₁ mg mb fa o pm cd doc a vs ns G Y ho hd hcd hmg hobj hints hlen hg => ?_
 have KX := hY w _ Y
 obtain ⟨fd,hb,hF⟩ := F w mg fa _ KX G.T.g hmg
 exact law_call KX G.T.g G.T.b G.T.builtins G.T.nolimit hg hobj hints (Nat.le_trans hlen hn2) hr hF hb (fun H hO hS => hsp w H a ns hlen hO hS) fun H e s' => hCX w H s₁ e s'
theorem walk_ofK {l : PySem.W.OpenLaw} {n k : Nat} {q : Program} {loose : List Str} {XP : (Str → Option Value) → Heap → Prop} {YP : World → Heap → Prop} {d : DefRec} {K : Params → PySem.W.Frag} {CX : CXT} {sp : PySem.W.Frag → Sp} {x : Str}
  (hn : l.most = some n) (hn2 : n ≤ sizeLine) (hdf : d.params.defaults = []) (hr : Room k callerA)
  (hY : ∀ (w : World) (h : Heap),YP w h → (K w.params).In h)
  (F : ∀ (w : World) (mg : Str → Option Value) (fa : Addr) (h : Heap),(K w.params).In h → h.Ns mainGlobals mg → mg d.name = some (.ref fa) →
   ∃ fd : FuncData,(∀ (s : Shared) (u : Value),BindsTo s fd ⟨[u],[]⟩ [(x,u)]) ∧
    ∀ base : Heap,(K w.params).In base → base.Ns mainGlobals mg → FnOk l.prog w (K w.params) mg base CX k fa fd [x] (sp (K w.params)))
  (hsp : ∀ (K : PySem.W.Frag) (H : Hp) (a : Addr) (ns : List Int),ns.length ≤ n → Only H → SqL K H a (ns.map V.int) → sp K [.ref a] H (fun v _ => v = .bl true) fun _ _ _ => False)
  (hCX : ∀ (H : Hp) (s : Shared) (e : Value) (s' : Shared),CX [] H s (fun _ _ _ => False) e s' → False) :
  PySem.W.WalkO q loose XP YP l.row.toRowW d [] (fun f vs => PySem.call f vs) :=
 walk_of (K := K) (CX := fun _ => CX) (sp := fun w => sp (K w.params)) hn hn2 hdf hr hY F (fun w H a ns h1 h2 h3 => hsp (K w.params) H a ns h1 h2 h3) fun _ H s e s' => hCX H s e s'
end L2
namespace L2
open PySem PySem.Spec PyProof.Rows
noncomputable def defArgs (s : Stmt) : Arguments := match s with
 | .FunctionDef _ a _ _ _ _ _ _ _ _ => a
 | _ => { posonlyargs := [],args := [],vararg := none,kwonlyargs := [],kw_defaults := [],kwarg := none,defaults := [] }
noncomputable def defBody (s : Stmt) : List Stmt := match s with
 | .FunctionDef _ _ b _ _ _ _ _ _ _ => b
 | _ => []
noncomputable def defScope (s : Stmt) : Scope := match s with
 | .FunctionDef _ _ _ _ _ _ sc _ _ _ => sc
 | _ => { kind := .function,names := [],isGenerator := false,isCoroutine := false }
noncomputable abbrev CX0 : CXT := fun _ _ _ _ _ _ => False
noncomputable abbrev E0 : XK := fun _ _ _ => False
theorem pass0 {X : Cx} : Passes CX0 X E0 := fun _ _ _ _ _ _ _ h => h.elim
structure Fun (K : PySem.W.Frag) (x qual : Str) (st : Stmt) (f : Addr) (fd : FuncData) : Prop where
 ex : ∃ (oc : Value) (od : Option Addr) (kV doc pm : Value) (an : Option Addr) (cdv ct : Value) (osl : Array (Option Value)),
  fd = PySem.W.fnOf x qual (defArgs st) (defBody st) (defScope st) .none kV doc pm an cdv ct ∧ K.lookup f = some ⟨oc,od,.func fd,osl⟩ ∧ PySem.W.codeIn K cdv qual = true
 kp : PySem.W.keepIn K (.ref f) = true
section
variable {P : Program} {w : World} {K : PySem.W.Frag} {mg : Str → Option Value} {base : Heap}
theorem Fun.ok {x qual : Str} {st : Stmt} {f : Addr} {fd : FuncData} {N ps : List Str} {k : Nat} {sp : Sp} (F : Fun K x qual st f fd) (S : FnScope N ps (defScope st)) (len : ∀ vs H Q E,sp vs H Q E → vs.length = ps.length)
  (hbody : ∀ (cdv : Value) (A : Around) (outer : List Env) (s : Shared) (H : Hp) (vs : List V) (Q : VK) (E : XK),Room k (A.deeper (envOfC qual (defScope st) s.heap.objs.size f cdv)) → sp vs H Q E →
   ∃ t,PSs (cxOf CX0 P w K mg base N qual (defScope st) f cdv A outer s H E).nox (defBody st) t ∧ t { nx := fun _ H' => Q .non H',rt := Q } (start N vs) H) : FnOk P w K mg base CX0 (k + 1) f fd ps sp := by
 obtain ⟨oc,od,kV,doc,pm,an,cdv,ct,osl,rfl,lk,hcd⟩ := F.ex
 refine fn_of lk hcd S len fun A outer s H vs Q E hr hsp => ?_
 obtain ⟨t,h,q⟩ := hbody cdv A outer s H vs Q E hr hsp
 exact ⟨t,h.nox,q⟩
theorem Fun.binds {x qual : Str} {st : Stmt} {f : Addr} {fd : FuncData} {ps : List Str} (F : Fun K x qual st f fd)
  (h : ∀ (kV doc pm : Value) (an : Option Addr) (cdv ct : Value) (us : List Value),us.length = ps.length → bindArgs (PySem.W.fnOf x qual (defArgs st) (defBody st) (defScope st) .none kV doc pm an cdv ct) ⟨us,[]⟩ = pure (ps.zip us)) : Binds K fd ps [] := by
 obtain ⟨oc,od,kV,doc,pm,an,cdv,ct,osl,rfl,lk,hcd⟩ := F.ex
 exact .all (h kV doc pm an cdv ct)
theorem fun_mk {x qual : Str} {st : Stmt} {f : Addr} {oc : Value} {od an : Option Addr} {osl : Array (Option Value)} {kV doc pm cdv ct : Value} (l : K.lookup f = some ⟨oc,od,.func (PySem.W.fnOf x qual (defArgs st) (defBody st) (defScope st) .none kV doc pm an cdv ct),osl⟩)
  (c : PySem.W.codeIn K cdv qual = true) (k : PySem.W.keepIn K (.ref f) = true) : Fun K x qual st f (PySem.W.fnOf x qual (defArgs st) (defBody st) (defScope st) .none kV doc pm an cdv ct) := ⟨⟨oc,od,kV,doc,pm,an,cdv,ct,osl,rfl,l,c⟩,k⟩
end
theorem small1000 {n : Nat} (h : n ≤ 1000) : n < sizeLine := Nat.lt_of_le_of_lt h (by decide)
section
variable {X : Cx}
theorem pv (i : Nat) {x : Str} {pos : Pos} (hN : X.N[i]? = some x := by rfl) (hv : Vis X.env.scope x := by first | exact Or.inl rfl | exact Or.inr (Or.inl rfl) | exact Or.inr (Or.inr rfl)) (hd : (x == ("__debug__" : Str)) = false := by decide)
  (hcd : (x == ("__classdict__" : Str)) = false := by decide) : PE X (.Name x pos) (tVar i) := pe_var hN hv hd hcd
end
theorem iteF {A B : Prop} (h : B) : if false = true then A else B := by
 rw [if_neg Bool.false_ne_true]
 exact h
theorem iteT {A B : Prop} (h : A) : if true = true then A else B := by
 rw [if_pos rfl]
 exact h
theorem ite2 {c A B : Prop} [Decidable c] (h1 : c → A) (h2 : ¬ c → B) : if c then A else B := by
 by_cases h : c
 ·rw [if_pos h]
  exact h1 h
 ·rw [if_neg h]
  exact h2 h
noncomputable def Same (H H' : Hp) : Prop := ∀ b o,H b = some o → H' b = some o
theorem Same.refl (H : Hp) : Same H H := fun _ _ h => h
theorem Same.trans {H H1 H2 : Hp} (a : Same H H1) (b : Same H1 H2) : Same H H2 := fun c o h => b c o (a c o h)
theorem Same.free {H H' : Hp} (e : Same H H') {l : Addr} (h : H' l = Option.none) : H l = Option.none := by
 cases q : H l with
 | none => rfl
 | some o =>
  rw [e l o q] at h
  cases h
theorem Same.seq {K : PySem.W.Frag} {H H' : Hp} {a : Addr} {xs : List V} (e : Same H H') (h : SqL K H a xs) : SqL K H' a xs := by
 rcases h with (h | ⟨o,h⟩) | h
 ·exact .inl (.inl (e _ _ h))
 ·exact .inl (.inr ⟨o,e _ _ h⟩)
 ·exact .inr h
end L2
set_option Elab.async false
set_option linter.all false
set_option maxRecDepth 100000
set_option maxHeartbeats 4000000
namespace L2
open PySem PySem.Spec PyProof.Rows
noncomputable def cloOf (env : Env) : List (Str × NameKind) → List (Str × Addr) → List (Str × Addr)
 | [],cs => cs
 | (n,k) :: r,cs => cloOf env r (if k == .free then (n,(env.cells.lookup n).getD 0) :: cs else cs)
theorem closure_is {env : Env} {scope : Scope} (h : ∀ x ∈ scope.names,x.2 = .free → ∃ c,env.cells.lookup x.1 = some c) : closureFor scope env = pure (cloOf env scope.names []) := by
 simp only [closureFor]
 have go : ∀ (l : List (Str × NameKind)) (cs : List (Str × Addr)),(∀ x ∈ l,x.2 = .free → ∃ c,env.cells.lookup x.1 = some c) →
   (forIn l cs fun (x : Str × NameKind) (r : List (Str × Addr)) => (do
    let (name,kind) := x
    if kind == .free then
     let a ← cellOf env name
     pure (ForInStep.yield ((name,a) :: r))
    else pure (ForInStep.yield r) : Sem (ForInStep (List (Str × Addr))))) = pure (cloOf env l cs) := by
  intro l
  induction l with
  | nil => intro cs _; rfl
  | cons x r ih =>
   intro cs hx
   obtain ⟨n,k⟩ := x
   rw [List.forIn_cons]
   by_cases hk : k = .free
   ·obtain ⟨c,hc⟩ := hx (n,k) List.mem_cons_self hk
    subst hk
    have e : cellOf env n = pure c := by unfold cellOf; rw [hc]
    simp only [beq_self_eq_true,if_true,e,pure_bind]
    rw [ih _ fun y hy => hx y (List.mem_cons_of_mem _ hy)]
    simp only [cloOf,beq_self_eq_true,if_true,hc,Option.getD_some]
   ·have hb : (k == NameKind.free) = false := by simpa using hk
    simp only [hb,Bool.false_eq_true,if_false,pure_bind]
    rw [ih _ fun y hy => hx y (List.mem_cons_of_mem _ hy)]
    simp only [cloOf,hb,Bool.false_eq_true,if_false]
 have g := go scope.names [] h
 first
  | exact (by rw [g] : _ = _)
  | (rw [← bind_pure (pure (cloOf env scope.names []))]; rw [← g]; rfl)
  | (simp only [g,pure_bind])
theorem cloOf_sub {env : Env} : ∀ (l : List (Str × NameKind)) (cs : List (Str × Addr)),(∀ x ∈ l,x.2 = .free → ∃ c,env.cells.lookup x.1 = some c) → (∀ x c,cs.lookup x = some c → env.cells.lookup x = some c) →
  ∀ x c,(cloOf env l cs).lookup x = some c → env.cells.lookup x = some c
 | [],_,_,h => h
 | (n,k) :: r,cs,hx,h => by
  refine cloOf_sub r _ (fun y hy => hx y (List.mem_cons_of_mem _ hy)) ?_
  intro x c e
  by_cases hk : k = .free
  ·obtain ⟨c',hc⟩ := hx (n,k) List.mem_cons_self hk
   subst hk
   simp only [beq_self_eq_true,if_true,hc,Option.getD_some] at e
   rw [List.lookup_cons] at e
   cases q : x == n with
   | true =>
    rw [q] at e
    have q' : x = n := by simpa using q
    cases e
    rw [q']; exact hc
   | false => rw [q] at e; exact h x c e
  ·have hb : (k == NameKind.free) = false := by simpa using hk
   simp only [hb,Bool.false_eq_true,if_false] at e
   exact h x c e
theorem cloOf_keeps {env : Env} : ∀ (l : List (Str × NameKind)) (cs : List (Str × Addr)) (x : Str),(∃ c,cs.lookup x = some c) → ∃ c,(cloOf env l cs).lookup x = some c
 | [],_,_,h => h
 | (n,k) :: r,cs,x,h => by
  refine cloOf_keeps r _ x ?_
  split
  ·rw [List.lookup_cons]
   cases q : x == n with
   | true => exact ⟨_,rfl⟩
   | false => exact h
  ·exact h
theorem cloOf_has {env : Env} : ∀ (l : List (Str × NameKind)) (cs : List (Str × Addr)) (x : Str),l.lookup x = some .free → ∃ c,(cloOf env l cs).lookup x = some c
 | [],_,_,h => by simp at h
 | (n,k) :: r,cs,x,h => by
  rw [List.lookup_cons] at h
  cases q : x == n with
  | true =>
   rw [q] at h
   cases h
   refine cloOf_keeps r _ x ?_
   simp only [beq_self_eq_true,if_true]
   rw [List.lookup_cons,q]
   exact ⟨_,rfl⟩
  | false => rw [q] at h; exact cloOf_has r _ x h
theorem relabel_look {env : Env} : ∀ {names : List (Str × NameKind)} {x : Str} {k' : NameKind},
  (names.map fun (n,k) => if (k == NameKind.free && env.scope.kind == .function && env.kindOf n == some .cell) then (n,NameKind.cell) else (n,k)).lookup x = some k' →
  ∃ k,names.lookup x = some k ∧ (k' = k ∨ (k = .free ∧ k' = .cell))
 | [],_,_,h => by simp at h
 | (n,k) :: r,x,k',h => by
  have ih := @relabel_look env r x k'
  rw [List.map_cons] at h
  by_cases hc : (k == NameKind.free && env.scope.kind == .function && env.kindOf n == some .cell) = true
  ·have h2 : List.lookup x ((n,NameKind.cell) :: r.map fun (n,k) => if (k == NameKind.free && env.scope.kind == .function && env.kindOf n == some .cell) then (n,NameKind.cell) else (n,k)) = some k' := by
    simpa [hc] using h
   rw [List.lookup_cons] at h2
   rw [List.lookup_cons]
   cases q : x == n with
   | true =>
    rw [q] at h2
    cases h2
    have hk : k = .free := by
     simp only [Bool.and_eq_true] at hc
     simpa using hc.1.1
    exact ⟨k,rfl,.inr ⟨hk,rfl⟩⟩
   | false => rw [q] at h2; exact ih h2
  ·have h2 : List.lookup x ((n,k) :: r.map fun (n,k) => if (k == NameKind.free && env.scope.kind == .function && env.kindOf n == some .cell) then (n,NameKind.cell) else (n,k)) = some k' := by
    simpa [hc] using h
   rw [List.lookup_cons] at h2
   rw [List.lookup_cons]
   cases q : x == n with
   | true => rw [q] at h2; cases h2; exact ⟨_,rfl,.inl rfl⟩
   | false => rw [q] at h2; exact ih h2
noncomputable def ccx (X : Cx) (scope : Scope) (C : Addr) (N' : List Str) (s₀ : Shared) (H₀ : Hp) (fp : List Addr) : Cx :=
 { X with N := N',s₀ := s₀,H₀ := H₀,env := compEnvC scope (cloOf X.env scope.names []) C X.env,outer := X.stack,stack := X.stack,ex := fp,fn := fun _ => false,pn := [],xe := fun _ _ => False }
noncomputable def cst (k : Nat) (ρ : List Nat) (σ : St) : St := List.replicate k none ++ ρ.map fun j => (σ[j]?).join
structure CScope (X : Cx) (scope : Scope) (NL : List Str) (ρ : List Nat) (N' : List Str) : Prop where
 kind : scope.kind = .function
 nocell : ∀ x ∈ scope.names,x.2 ≠ .cell
 locs : ∀ x ∈ scope.names,x.2 = .local → scope.names.lookup x.1 = some .local
 frees : ∀ x ∈ scope.names,x.2 = .free → X.env.kindOf x.1 = some .cell ∨ X.env.kindOf x.1 = some .free
 names : N' = NL ++ ρ.map fun j => X.N.getD j ""
 outs : ∀ j ∈ ρ,∃ x,X.N[j]? = some x ∧ scope.names.lookup x = some .free ∧ (X.env.scope.names.lookup x = some .cell ∨ X.env.scope.names.lookup x = some .free)
section
variable {X : Cx}
theorem cx_comp {scope : Scope} {NL N' : List Str} {ρ : List Nat} (S : CScope X scope NL ρ N') {pins : List (Addr × Obj)} {σ : St} {H : Hp} {s : Shared} {fp : List Addr} {C : Addr} (I : Inv X pins σ H s) (hf : ∀ b ∈ fp,FpOk X pins H b)
  (hfo : ∀ b ∈ fp,∃ o,s.heap.get? b = some o) (hC : s.heap.objs.size ≤ C) : (ccx X scope C N' s H fp).Ok := by
 have free_in : ∀ x ∈ scope.names,x.2 = .free → ∃ c,X.env.cells.lookup x.1 = some c := fun x hx hk => I.ok.has x.1 (S.frees x hx hk)
 have sub := cloOf_sub (env := X.env) scope.names [] free_in (fun x c e => by simp at e)
 refine ⟨I.ok.mod,S.kind,I.ok.glob,I.ok.blt,hC,?_,?_,?_,I.ok.hd,I.ok.frames,.inl rfl,?_,I.bs,?_,?_,?_,I.stack,I.stkFree⟩
 ·exact fun x y c e1 e2 => I.ok.inj x y c (sub x c e1) (sub y c e2)
 ·intro x hx
  have hx' : (relabel scope X.env).names.lookup x = some .cell ∨ (relabel scope X.env).names.lookup x = some .free := hx
  have look : ∀ k',(relabel scope X.env).names.lookup x = some k' → (k' = .cell ∨ k' = .free) → scope.names.lookup x = some .free := fun k' e hk => by
   obtain ⟨k,e1,z⟩ := relabel_look e
   rcases z with z | ⟨z,_⟩
   ·subst z
    rcases hk with z | z
    ·subst z
     have hm : (x,NameKind.cell) ∈ scope.names := mem_of_lookup e1
     exact absurd rfl (S.nocell _ hm)
    ·subst z; exact e1
   ·subst z; exact e1
  rcases hx' with e | e
  ·exact cloOf_has scope.names [] x (look _ e (.inl rfl))
  ·exact cloOf_has scope.names [] x (look _ e (.inr rfl))
 ·intro x c e; exact absurd e (by show ¬ (false = true); decide)
 ·intro b hb
  obtain ⟨f0,f1,f2,f3,f4,f5⟩ := hf b hb
  refine ⟨?_,fun x c e => f4 x c (sub x c e)⟩
  obtain ⟨o,ho⟩ := hfo b hb
  exact Nat.ne_of_lt (Nat.lt_of_lt_of_le (Heap.lt_size ho) hC)
 ·exact Nat.le_trans I.ok.bsz I.sz
 ·intro b o e hb
  obtain ⟨f0,f1,f2,f3,f4,f5⟩ := hf b hb
  rcases f3 with z | z
  ·exact I.ok.noex b o e z
  ·exact absurd (Nat.lt_of_lt_of_le (Heap.lt_size e) (Nat.le_trans I.ok.bsz z)) (Nat.lt_irrefl _)
 ·intro b hb z
  obtain ⟨f0,f1,f2,f3,f4,f5⟩ := hf b hb
  rcases List.mem_cons.mp (I.stkSub b z) with e | e
  ·exact f1 e
  ·exact f2 e
end
end L2
set_option Elab.async false
set_option linter.all false
set_option maxRecDepth 100000
set_option maxHeartbeats 4000000
namespace L2
open PySem PySem.Spec PyProof.Rows
section
variable {X : Cx}
theorem Inv.comp {scope : Scope} {NL N' : List Str} {ρ : List Nat} (S : CScope X scope NL ρ N') {pins : List (Addr × Obj)} {σ : St} {H : Hp} {s : Shared} {fp : List Addr} {C D : Addr} {h' : Heap} {t' : Nat} (I : Inv X pins σ H s) (hf : ∀ b ∈ fp,FpOk X pins H b)
  (hfo : ∀ b ∈ fp,∃ o,s.heap.get? b = some o) (hC : s.heap.objs.size ≤ C) (hD : s.heap.objs.size ≤ D) (hDC : D ≠ C) (k : ∀ b u,s.heap.get? b = some u → h'.get? b = some u)
  (hd : h'.get? D = some { cls := .type "list",data := .seq #[] 0 }) (hn : h'.Ns C fun _ => none) :
  Inv (ccx X scope C N' s H fp) (X.pn ++ pins) (cst NL.length ρ σ) (upd H D (.lst [])) { s with heap := h',toks := t' } := by
 have ok := cx_comp S I hf hfo hC
 have free_in : ∀ x ∈ scope.names,x.2 = .free → ∃ c,X.env.cells.lookup x.1 = some c := fun x hx hk => I.ok.has x.1 (S.frees x hx hk)
 have sub := cloOf_sub (env := X.env) scope.names [] free_in (fun x c e => by simp at e)
 have fresh : ∀ b,s.heap.objs.size ≤ b → H b = none := fun b hb => I.hok.fresh hb
 have neD : ∀ b o,s.heap.get? b = some o → b ≠ D := fun b o e => Nat.ne_of_lt (Nat.lt_of_lt_of_le (Heap.lt_size e) hD)
 have neH : ∀ b u,H b = some u → b ≠ D := fun b u e => ne_of_none e (fresh D hD)
 refine ⟨ok,rfl,I.bare,⟨fun b o e _ _ _ => k b o e,fun b o e _ _ _ => ⟨o.slots,k b o e⟩,fun b o e n _ => ?_,fun b o e _ => ⟨o,k b o e⟩,fun b xs e => ?_,fun b o u e => ?_,fun b ps e => ⟨#[],?_⟩⟩,⟨_,hn,?_⟩,?_,?_,?_,?_,?_,?_⟩
 ·show upd H D _ b = none
  rw [upd_ne (neD b o e)]; exact n
 ·show upd H D _ b = _
  rw [upd_ne (neH b _ e)]; exact e
 ·show upd H D _ b = _
  rw [upd_ne (neH b _ e)]; exact e
 ·show upd H D _ b = _
  rw [upd_ne (neH b _ e)]
  have e' : H b = some (.tbl ps) := e
  rw [e']; simp
 ·-- the names around
  intro i x v e1 e2 hv
  obtain ⟨m,hm,hl⟩ := I.loc
  have eN : (NL ++ ρ.map fun j => X.N.getD j "")[i]? = some x := by
   have e1' : N'[i]? = some x := e1
   rw [S.names] at e1'; exact e1'
  have eσ : (List.replicate NL.length (none : Option V) ++ ρ.map fun j => (σ[j]?).join)[i]? = some (some v) := e2
  by_cases hi : i < NL.length
  ·rw [List.getElem?_append_left (by simpa using hi)] at eσ
   rw [List.getElem?_replicate] at eσ
   split at eσ <;> cases eσ
  ·have hi' : NL.length ≤ i := Nat.le_of_not_lt hi
   rw [List.getElem?_append_right (by simpa using hi'),List.length_replicate,List.getElem?_map] at eσ
   rw [List.getElem?_append_right hi',List.getElem?_map] at eN
   cases q : ρ[i - NL.length]? with
   | none => rw [q] at eN; cases eN
   | some j =>
    rw [q] at eN eσ
    obtain ⟨y,ey,f1,f2⟩ := S.outs j (List.mem_of_getElem? q)
    have exy : X.N.getD j "" = y := by rw [List.getD_eq_getElem?_getD,ey]; rfl
    have exx : X.N.getD j "" = x := Option.some.inj eN
    have xy : x = y := exx.symm.trans exy
    subst xy
    have eσ' : (σ[j]?).join = some v := Option.some.inj eσ
    have eσ2 : σ[j]? = some (some v) := by
     cases z : σ[j]? with
     | none => rw [z] at eσ'; cases eσ'
     | some w => rw [z] at eσ'; exact congrArg some eσ'
    have vis : Vis X.env.scope x := by
     rcases f2 with z | z
     ·exact .inr (.inl z)
     ·exact .inr (.inr z)
    obtain ⟨u,r,l⟩ := hl j x v ey eσ2 vis
    refine ⟨u,r,?_⟩
    obtain ⟨c,hc⟩ := cloOf_has (env := X.env) scope.names [] x f1
    rcases l with ⟨kl,_⟩ | ⟨_,c',hc',z⟩
    ·have kl' : X.env.scope.names.lookup x = some .local := kl
     rcases f2 with z | z
     ·rw [z] at kl'; cases kl'
     ·rw [z] at kl'; cases kl'
    ·have e3 := sub x c hc
     rw [hc'] at e3
     obtain rfl := Option.some.inj e3
     obtain ⟨oc,hoc,hcd⟩ := z
     have hv' : (relabel scope X.env).names.lookup x = some .local ∨ (relabel scope X.env).names.lookup x = some .cell ∨ (relabel scope X.env).names.lookup x = some .free := hv
     refine .inr ⟨?_,c',hc,oc,k _ _ hoc,hcd⟩
     rcases hv' with z | z | z
     ·obtain ⟨k0,e4,z2⟩ := relabel_look z
      rw [f1] at e4
      cases e4
      rcases z2 with z2 | ⟨_,z2⟩ <;> cases z2
     ·exact .inl z
     ·exact .inr z
 ·intro x c e
  obtain ⟨v,oc,hoc,hcd⟩ := I.cell x c (sub x c e)
  exact ⟨v,oc,k _ _ hoc,hcd⟩
 ·show upd H D _ C = none
  rw [upd_ne (Ne.symm hDC)]; exact fresh C hC
 ·intro x c e
  obtain ⟨v,oc,hoc,hcd⟩ := I.cell x c (sub x c e)
  rw [upd_ne (neD c oc hoc)]
  exact I.freeC x c (sub x c e)
 ·intro p hp
  have hp' : p ∈ X.pn ++ pins := hp
  obtain ⟨e,n,ne,nf,d⟩ := I.pin p hp'
  refine ⟨k _ _ e,?_,?_,?_,d⟩
  ·rw [upd_ne (neD p.1 p.2 e)]; exact n
  ·exact Nat.ne_of_lt (Nat.lt_of_lt_of_le (Heap.lt_size e) hC)
  ·intro z
   rcases List.mem_cons.mp (I.stkSub p.1 z) with q | q
   ·exact ne q
   ·exact nf q
 ·exact I.hok.laid k hD ⟨Nat.zero_le _,[],0,.nil,hd⟩
 ·show (List.replicate NL.length (none : Option V) ++ ρ.map fun j => (σ[j]?).join).length = N'.length
  rw [S.names]; simp
theorem Inv.compEnd {scope : Scope} {N' : List Str} {pins : List (Addr × Obj)} {σ σ' : St} {H H' : Hp} {s s' : Shared} {fp : List Addr} {C : Addr} {h' : Heap} {pins' : List (Addr × Obj)} (I : Inv X pins σ H s) (hf : ∀ b ∈ fp,FpOk X pins H b) (hC : s.heap.objs.size ≤ C)
  (J : Inv (ccx X scope C N' s H fp) pins' σ' H' s') (hs : Heap.SameBut C s'.heap h') : Inv X pins σ H' { s' with heap := h' } := by
 have hn : H' C = none := J.free
 have nC : ∀ b o,s.heap.get? b = some o → b ≠ C := fun b o e => Nat.ne_of_lt (Nat.lt_of_lt_of_le (Heap.lt_size e) hC)
 have B : Un (frs X.stack) fp H H' s.heap s'.heap := J.base
 have U : Un (frs X.stack) fp H H' s.heap h' := ⟨fun b o e n hb hx => (hs.2 b (nC b o e)).trans (B.keep b o e n hb hx),fun b o e n hb hx => by
   obtain ⟨sl,q⟩ := B.slot b o e n hb hx
   exact ⟨sl,(hs.2 b (nC b o e)).trans q⟩,B.free,fun b o e hx => by
   obtain ⟨o',q⟩ := B.there b o e hx
   exact ⟨o',(hs.2 b (nC b o e)).trans q⟩,B.tups,B.frzs,B.tbls⟩
 have hok : HOk X.prog X.w H' h' := fun b u e => by
  refine (J.hok b u e).stay (fun c v hc q => (hs.2 c ?_).trans q) (fun _ q => q) fun _ _ q => q
  rintro rfl
  rcases hc with rfl | hc
  ·rw [hn] at e; cases e
  ·rw [hn] at hc; cases hc
 refine Inv.call' (s' := { s' with heap := h' }) I J.os U hok J.bare fun b hb => ?_
 obtain ⟨f0,f1,f2,f3,f4,f5⟩ := hf b hb
 exact ⟨f3,f1,f4,f5⟩
noncomputable def tComp (k : Nat) (ρ : List Nat) (wi : TI) (g : TG) (tb : List V → Addr → St → Hp → (List V → St → Hp → Prop) → Prop) : TE := fun σ H Q =>
 wi σ H fun J H1 => ∀ l,H1 l = none → ∃ W : Nat → Nat → List V → St → Hp → Prop,(∃ m,W 0 m [] (cst k ρ σ) (upd H1 l (.lst []))) ∧
  ∀ i m ys σ' H',W i m ys σ' H' → (J.stop i H' ∧ Q (.ref l) H') ∨ (J.go i H' ∧ ∀ x H'',J.yld i H' x H'' → g x σ' H'' fun σ2 H2 => tb ys l σ2 H2 fun ys' σ3 H3 => ∃ m',m' < m ∧ W (i + 1) m' ys' σ3 H3)
noncomputable def cEl (te : TE) : List V → Addr → St → Hp → (List V → St → Hp → Prop) → Prop := fun ys l σ H N => te σ H fun y H1 => H1 l = some (.lst ys) ∧ ys.length < sizeLine ∧ N (ys ++ [y]) σ (upd H1 l (.lst (ys ++ [y])))
noncomputable def cIf (tc : TT) (te : TE) : List V → Addr → St → Hp → (List V → St → Hp → Prop) → Prop := fun ys l σ H N => tc σ H fun b H1 => if b = true then cEl te ys l σ H1 N else N ys σ H1
noncomputable def PB (X : Cx) (body : Value → Sem Unit) (tb : List V → Addr → St → Hp → (List V → St → Hp → Prop) → Prop) : Prop :=
 ∀ (pins : List (Addr × Obj)) (s : Shared) (σ : St) (H : Hp) (l : Addr) (ys : List V) (N : List V → St → Hp → Prop),Inv X pins σ H s → tb ys l σ H N →
  wpAny (model X.prog X.w) X.A (body (.ref l)) (fun _ s' => ∃ ys' σ' H',Inv X pins σ' H' s' ∧ N ys' σ' H') X.xe s
theorem pb_el {elt : Expr} {te : TE} (he : PE X elt te) : PB X (fun acc => do let x ← eval elt X.env; let _ ← call (.builtin "list.append") [acc,x]; pure ()) (cEl te) := by
 intro pins s σ H l ys N I h
 refine wpAny_bind (thn (he pins s σ H _ I h) fun u s1 ⟨y,H1,I1,r1,q0,q1,q2⟩ => wpAny_bind ?_)
 refine thn (mt_append pins s1 σ H1 (.ref l) [y] (.ref l) [u] (fun v H' => v = .non ∧ N (ys ++ [y]) σ H') I1 rfl (.cons r1 .nil) ⟨l,ys,y,rfl,rfl,q0,q1,rfl,q2⟩) fun _ s2 ⟨v,H2,I2,_,_,n2⟩ => wpAny_pure ⟨_,σ,H2,I2,n2⟩
theorem pb_if {c elt : Expr} {tc : TT} {te : TE} (hc : PT X c tc) (he : PE X elt te) : PB X (fun acc => do
  let b ← isTrue c X.env (eval c X.env)
  if b then (do let x ← eval elt X.env; let _ ← call (.builtin "list.append") [acc,x]; pure ()) else pure ()) (cIf tc te) := by
 intro pins s σ H l ys N I h
 refine wpAny_bind (thn (hc pins s σ H _ I h) fun b s1 ⟨H1,I1,q1⟩ => ?_)
 cases b with
 | true => exact pb_el he pins s1 σ H1 l ys N I1 q1
 | false => exact wpAny_pure ⟨ys,σ,H1,I1,q1⟩
theorem turn_eq0 (elt target iter : Expr) (scope : Scope) (pos : Pos) (it acc : Value) (env : Env) :
  compTurn (.ListComp elt [⟨target,iter,[],0⟩] scope pos) 0 it acc env = (standAt iter.pos >>= fun _ => pyNext it >>= fun r => match r with
   | none => pure (.done .next)
   | some v => letOwnedTupleGo target it v >>= fun _ => assign target env v >>= fun _ =>
    (do let x ← eval elt env; let _ ← call (.builtin "list.append") [acc,x]; pure () : Sem Unit) >>= fun _ => again (.compLoop (.ListComp elt [⟨target,iter,[],0⟩] scope pos) 0 it acc env)) := by rfl
theorem turn_eq1 (elt target iter c : Expr) (scope : Scope) (pos : Pos) (it acc : Value) (env : Env) :
  compTurn (.ListComp elt [⟨target,iter,[c],0⟩] scope pos) 0 it acc env = (standAt iter.pos >>= fun _ => pyNext it >>= fun r => match r with
   | none => pure (.done .next)
   | some v => letOwnedTupleGo target it v >>= fun _ => assign target env v >>= fun _ =>
    (do
     let b ← isTrue c env (eval c env)
     if b then (do let x ← eval elt env; let _ ← call (.builtin "list.append") [acc,x]; pure ()) else pure () : Sem Unit) >>= fun _ => again (.compLoop (.ListComp elt [⟨target,iter,[c],0⟩] scope pos) 0 it acc env)) := by
 rw [compTurn_list]
 congr 1
 funext _
 congr 1
 funext r
 cases r with
 | none => rfl
 | some v =>
  refine congrArg (letOwnedTupleGo target it v >>= ·) (funext fun _ => ?_)
  refine congrArg (assign target env v >>= ·) (funext fun _ => ?_)
  dsimp only
  rw [List.forIn_cons]
  simp only [if_true,bind_assoc,pure_bind,List.forIn_nil]
  refine congrArg (PySem.isTrue c env (eval c env) >>= ·) (funext fun b => ?_)
  cases b
  ·simp
  ·simp
end
end L2
set_option Elab.async false
set_option linter.all false
set_option maxRecDepth 100000
set_option maxHeartbeats 4000000
namespace L2
open PySem PySem.Spec PyProof.Rows
section
variable {X : Cx}
theorem pe_compG {elt tgt iter : Expr} {ifs : List Expr} {scope : Scope} {pos : Pos} {NL N' : List Str} {ρ : List Nat} {wi : TI} {g : TG} {tb : List V → Addr → St → Hp → (List V → St → Hp → Prop) → Prop} {body : Value → Env → Sem Unit}
  (hc : X.calm = true) (S : CScope X scope NL ρ N') (hi : PI X tgt iter wi)
  (hg : ∀ C s₀ H₀ fp,PG (ccx X scope C N' s₀ H₀ fp) tgt g) (hb : ∀ C s₀ H₀ fp,PB (ccx X scope C N' s₀ H₀ fp) (fun acc => body acc (ccx X scope C N' s₀ H₀ fp).env) tb)
  (he : ∀ (it acc : Value) (env : Env),compTurn (.ListComp elt [⟨tgt,iter,ifs,0⟩] scope pos) 0 it acc env = (standAt iter.pos >>= fun _ => pyNext it >>= fun r => match r with
   | none => pure (.done .next)
   | some v => letOwnedTupleGo tgt it v >>= fun _ => assign tgt env v >>= fun _ => body acc env >>= fun _ => again (.compLoop (.ListComp elt [⟨tgt,iter,ifs,0⟩] scope pos) 0 it acc env)))
  (hs : ∀ x,foldedSetIterable iter X.env x = pure x := by intro _; rfl) : PE X (.ListComp elt [⟨tgt,iter,ifs,0⟩] scope pos) (tComp NL.length ρ wi g tb) := by
 intro pins s σ H Q I h
 have free_in : ∀ x ∈ scope.names,x.2 = .free → ∃ c,X.env.cells.lookup x.1 = some c := fun x hx hk => I.ok.has x.1 (S.frees x hx hk)
 rw [eval_ListComp]
 refine wpAny_comprehension_free (use := none) rfl hs (closure_is free_in) S.kind S.locs ?_
 refine thn (hi pins s σ H _ I h) fun v s1 h1 => thn h1 fun itv s2 h2 => ?_
 obtain ⟨it,fp,tn,J,H2,e,I2,T,st2,f2,w⟩ := h2
 subst e
 refine wpAny_newObj_type (wpAny_newFunctionEnv S.nocell (by intro y hy; simp at hy) (fun h₁ hns₁ hsb₁ => ?_) S.kind)
 dsimp only at hns₁ hsb₁ ⊢
 generalize hH2 : s2.heap.push { cls := .type "list",dict := none,data := .seq ([] : List Value).toArray } = h2' at hns₁ hsb₁ ⊢
 have hCs : h2'.objs.size = s2.heap.objs.size + 1 := by rw [← hH2,Heap.size_push]
 have hDC : s2.heap.objs.size ≠ h2'.objs.size := by rw [hCs]; exact Nat.ne_of_lt (Nat.lt_succ_self _)
 have hC : s2.heap.objs.size ≤ h2'.objs.size := by rw [hCs]; exact Nat.le_succ _
 have old : ∀ b o,s2.heap.get? b = some o → h₁.get? b = some o := fun b o e => hsb₁.extBut b o (Nat.ne_of_lt (Nat.lt_of_lt_of_le (Heap.lt_size e) hC)) (Heap.get?_push_of_some _ (hH2 ▸ Heap.get?_push_of_some _ e))
 have hd : h₁.get? s2.heap.objs.size = some { cls := .type "list",data := .seq #[] 0 } := hsb₁.extBut _ _ hDC (Heap.get?_push_of_some _ (hH2 ▸ Heap.get?_push_size _ rfl))
 have hfo : ∀ b ∈ fp,∃ o,s2.heap.get? b = some o := fun b hb => let ⟨o,e,_⟩ := T.obj _ _ st2 b hb; ⟨o,e⟩
 have I4 : Inv (ccx X scope h2'.objs.size N' s2 H2 fp) (X.pn ++ pins) (cst NL.length ρ σ) (upd H2 s2.heap.objs.size (.lst [])) { s2 with heap := h₁,toks := s2.toks + ([] : List (Str × Value)).length } :=
  Inv.comp S I2 f2 hfo hC (Nat.le_refl _) hDC old hd (by simpa using hns₁)
 have hD0 : H2 s2.heap.objs.size = none := I2.hok.fresh (Nat.le_refl _)
 have nfp : s2.heap.objs.size ∉ fp := fun z => by
  obtain ⟨o,e⟩ := hfo _ z
  exact absurd (Heap.lt_size e) (Nat.lt_irrefl _)
 obtain ⟨W,⟨m0,w0⟩,turn⟩ := w s2.heap.objs.size hD0
 have stat : ∀ {H' : Hp},(∀ b ∈ fp,H' b = none) → ∀ b ∈ fp,FpOk (ccx X scope h2'.objs.size N' s2 H2 fp) (X.pn ++ pins) H' b := fun {H'} hn b hb => by
  obtain ⟨f0,f1,f2',f3,f4,f5⟩ := f2 b hb
  have ok := I4.ok
  refine ⟨hn b hb,(ok.exf b hb).1,ok.exfs b hb,.inl hb,(ok.exf b hb).2,fun p hp => f5 p hp⟩
 have loop : ∀ s₃ : Shared,s₃ = { s2 with heap := h₁,toks := s2.toks + ([] : List (Str × Value)).length } →
   codeAny (model X.prog X.w) X.A (.compLoop (.ListComp elt [⟨tgt,iter,ifs,0⟩] scope pos) 0 (.ref it) (.ref s2.heap.objs.size) (compEnvC scope (cloOf X.env scope.names []) h2'.objs.size X.env))
    (compPost (model X.prog X.w) X.A X.xe none (EP X pins σ Q) (.ref s2.heap.objs.size) h2'.objs.size) s₃ := by
  rintro s₃ rfl
  refine codeAny_loop rfl (fun n s' => ∃ i ys σ' H',Inv (ccx X scope h2'.objs.size N' s2 H2 fp) (X.pn ++ pins) σ' H' s' ∧ tn i s'.heap ∧ (∀ b ∈ fp,H' b = none) ∧ W i n ys σ' H') (fun n s3 hI => ?_) m0
   ⟨0,[],_,_,I4,T.keep _ _ _ st2 (fun b _ o e => old b o e),fun b hb => ?_,w0⟩
  ·obtain ⟨i,ys,σ3,H3,I3,st3,fr3,w3⟩ := hI
   show wpAny _ _ ((compTurn (.ListComp elt [⟨tgt,iter,ifs,0⟩] scope pos) 0 (.ref it) (.ref s2.heap.objs.size) (compEnvC scope (cloOf X.env scope.names []) h2'.objs.size X.env)).onRaise (fun x => do noteFrame x _; theTreesLotGoes x)) _ _ s3
   refine wpAny_noted ?_
   rw [he]
   refine wpAny_bind (wpAny_standAt (wpAny_bind ?_))
   rcases turn i n ys σ3 H3 w3 with ⟨stop,qn⟩ | ⟨go,step⟩
   ·refine thn (T.done (ccx X scope h2'.objs.size N' s2 H2 fp) rfl rfl rfl hc i _ s3 σ3 H3 _ I3 (stat fr3) st3 stop) fun r s4 ⟨hr,I5⟩ => ?_
    subst hr
    refine wpAny_pure ?_
    obtain ⟨m,hm,_⟩ := id I5.loc
    exact ⟨m,hm,fun h' hs' => ⟨.ref s2.heap.objs.size,H3,Inv.compEnd I2 f2 hC I5 hs',rfl,qn⟩⟩
   ·refine thn (T.item (ccx X scope h2'.objs.size N' s2 H2 fp) rfl rfl rfl hc i _ s3 σ3 H3 _ I3 (stat fr3) st3 go) fun r s4 ⟨u,hr,h4⟩ => ?_
    subst hr
    refine wpAny_bind (thn h4 fun _ s5 ⟨x,H5,I5,r5,y5,st5,fr5⟩ => ?_)
    have I5' := I5.pinned (stat fr5) (T.obj _ _ st5)
    refine wpAny_bind (wpAny_mono (hg h2'.objs.size s2 H2 fp _ s5 σ3 H5 x u _ I5' r5 (step x H5 y5)) (fun _ s6 ⟨σ6,H6,I6,q6⟩ => ?_) fun _ _ z => z.elim)
    refine wpAny_bind (wpAny_mono (hb h2'.objs.size s2 H2 fp _ s6 σ6 H6 s2.heap.objs.size ys _ I6 q6) (fun _ s7 ⟨ys7,σ7,H7,I7,m',hm,w7⟩ => ?_) fun _ _ z => z.elim)
    refine wpAny_pure ⟨rfl,m',hm,i + 1,ys7,σ7,H7,I7.unpinned,T.keep _ _ _ st5 fun b hb o e => (I7.pin (b,o) (List.mem_append_right _ (List.mem_append_right _ (mem_pinsAt hb e)))).1,fun b hb => ?_,w7⟩
    obtain ⟨o,e,d⟩ := T.obj _ _ st5 b hb
    exact (I7.pin (b,o) (List.mem_append_right _ (List.mem_append_right _ (mem_pinsAt hb e)))).2.1
  ·rw [upd_ne (show b ≠ s2.heap.objs.size from fun z => nfp (by rw [← z]; exact hb))]
   exact (f2 b hb).1
 refine codeAny_compStart_list (loop _ rfl) (T.self _ 0 _ _ _ ?_ (loop _ rfl))
 exact T.keep _ _ _ st2 fun b _ o e => old b o e
theorem pe_comp {elt tgt iter : Expr} {scope : Scope} {pos : Pos} {NL N' : List Str} {ρ : List Nat} {wi : TI} {g : TG} {te : TE} (hc : X.calm = true) (S : CScope X scope NL ρ N') (hi : PI X tgt iter wi)
  (hg : ∀ C s₀ H₀ fp,PG (ccx X scope C N' s₀ H₀ fp) tgt g) (he : ∀ C s₀ H₀ fp,PE (ccx X scope C N' s₀ H₀ fp) elt te)
  (hs : ∀ x,foldedSetIterable iter X.env x = pure x := by intro _; rfl) : PE X (.ListComp elt [⟨tgt,iter,[],0⟩] scope pos) (tComp NL.length ρ wi g (cEl te)) :=
 pe_compG (body := fun acc env => do let x ← eval elt env; let _ ← call (.builtin "list.append") [acc,x]; pure ()) hc S hi hg (fun C s₀ H₀ fp => pb_el (he C s₀ H₀ fp)) (fun it acc env => turn_eq0 elt tgt iter scope pos it acc env) hs
theorem pe_compIf {elt tgt iter c : Expr} {scope : Scope} {pos : Pos} {NL N' : List Str} {ρ : List Nat} {wi : TI} {g : TG} {tc : TT} {te : TE} (hc : X.calm = true) (S : CScope X scope NL ρ N') (hi : PI X tgt iter wi)
  (hg : ∀ C s₀ H₀ fp,PG (ccx X scope C N' s₀ H₀ fp) tgt g) (ht : ∀ C s₀ H₀ fp,PT (ccx X scope C N' s₀ H₀ fp) c tc) (he : ∀ C s₀ H₀ fp,PE (ccx X scope C N' s₀ H₀ fp) elt te)
  (hs : ∀ x,foldedSetIterable iter X.env x = pure x := by intro _; rfl) : PE X (.ListComp elt [⟨tgt,iter,[c],0⟩] scope pos) (tComp NL.length ρ wi g (cIf tc te)) :=
 pe_compG (body := fun acc env => do
  let b ← PySem.isTrue c env (eval c env)
  if b then (do let x ← eval elt env; let _ ← call (.builtin "list.append") [acc,x]; pure ()) else pure ()) hc S hi hg (fun C s₀ H₀ fp => pb_if (ht C s₀ H₀ fp) (he C s₀ H₀ fp)) (fun it acc env => turn_eq1 elt tgt iter c scope pos it acc env) hs
end
end L2
set_option Elab.async false
set_option linter.all false
set_option maxRecDepth 100000
set_option maxHeartbeats 4000000
namespace L2
open PySem PySem.Spec PyProof.Rows
section
variable {X : Cx}
inductive IsiB (K : PySem.W.Frag) (H : Hp) : V → String → Bool → Prop
 | int_int {i} : IsiB K H (.int i) "int" true
 | int_str {i} : IsiB K H (.int i) "str" false
 | int_bool {i} : IsiB K H (.int i) "bool" false
 | int_tuple {i} : IsiB K H (.int i) "tuple" false
 | int_list {i} : IsiB K H (.int i) "list" false
 | str_int {x} : IsiB K H (.str x) "int" false
 | str_str {x} : IsiB K H (.str x) "str" true
 | str_bool {x} : IsiB K H (.str x) "bool" false
 | str_tuple {x} : IsiB K H (.str x) "tuple" false
 | str_list {x} : IsiB K H (.str x) "list" false
 | bl_int {b} : IsiB K H (.bl b) "int" true
 | bl_bool {b} : IsiB K H (.bl b) "bool" true
 | bl_str {b} : IsiB K H (.bl b) "str" false
 | bl_tuple {b} : IsiB K H (.bl b) "tuple" false
 | tup_int {a xs} : SqT K H a xs → IsiB K H (.ref a) "int" false
 | tup_str {a xs} : SqT K H a xs → IsiB K H (.ref a) "str" false
 | tup_bool {a xs} : SqT K H a xs → IsiB K H (.ref a) "bool" false
 | tup_tuple {a xs} : SqT K H a xs → IsiB K H (.ref a) "tuple" true
 | tup_list {a xs} : SqT K H a xs → IsiB K H (.ref a) "list" false
 | lst_int {a xs} : SqL K H a xs → IsiB K H (.ref a) "int" false
 | lst_str {a xs} : SqL K H a xs → IsiB K H (.ref a) "str" false
 | lst_tuple {a xs} : SqL K H a xs → IsiB K H (.ref a) "tuple" false
 | lst_list {a xs} : SqL K H a xs → IsiB K H (.ref a) "list" true
theorem nsub (a b : String) (h : isSubtype (.type a) (.type b) = pure false := by rw [isSubtype_type]; kernel_rfl) : isSubtype (.type a) (.type b) = pure false := h
theorem ysub (a b : String) (h : isSubtype (.type a) (.type b) = pure true := by rw [isSubtype_type]; kernel_rfl) : isSubtype (.type a) (.type b) = pure true := h
theorem n_int_str : isSubtype (.type "int") (.type "str") = pure false := nsub _ _
theorem n_int_bool : isSubtype (.type "int") (.type "bool") = pure false := nsub _ _
theorem n_int_tuple : isSubtype (.type "int") (.type "tuple") = pure false := nsub _ _
theorem n_int_list : isSubtype (.type "int") (.type "list") = pure false := nsub _ _
theorem n_str_int : isSubtype (.type "str") (.type "int") = pure false := nsub _ _
theorem n_str_bool : isSubtype (.type "str") (.type "bool") = pure false := nsub _ _
theorem n_str_tuple : isSubtype (.type "str") (.type "tuple") = pure false := nsub _ _
theorem n_str_list : isSubtype (.type "str") (.type "list") = pure false := nsub _ _
theorem n_bool_str : isSubtype (.type "bool") (.type "str") = pure false := nsub _ _
theorem n_bool_tuple : isSubtype (.type "bool") (.type "tuple") = pure false := nsub _ _
theorem n_tuple_int : isSubtype (.type "tuple") (.type "int") = pure false := nsub _ _
theorem n_tuple_str : isSubtype (.type "tuple") (.type "str") = pure false := nsub _ _
theorem n_tuple_bool : isSubtype (.type "tuple") (.type "bool") = pure false := nsub _ _
theorem n_tuple_list : isSubtype (.type "tuple") (.type "list") = pure false := nsub _ _
theorem n_list_int : isSubtype (.type "list") (.type "int") = pure false := nsub _ _
theorem n_list_str : isSubtype (.type "list") (.type "str") = pure false := nsub _ _
theorem n_list_tuple : isSubtype (.type "list") (.type "tuple") = pure false := nsub _ _
theorem y_int : isSubtype (.type "int") (.type "int") = pure true := ysub _ _
theorem y_str : isSubtype (.type "str") (.type "str") = pure true := ysub _ _
theorem y_bool : isSubtype (.type "bool") (.type "bool") = pure true := ysub _ _
theorem y_bool_int : isSubtype (.type "bool") (.type "int") = pure true := ysub _ _
theorem y_tuple : isSubtype (.type "tuple") (.type "tuple") = pure true := ysub _ _
theorem y_list : isSubtype (.type "list") (.type "list") = pure true := ysub _ _
theorem m_int : typeOf (.type "int") = pure (.type "type") := by kernel_rfl
theorem m_str : typeOf (.type "str") = pure (.type "type") := by kernel_rfl
theorem m_bool : typeOf (.type "bool") = pure (.type "type") := by kernel_rfl
theorem m_tuple : typeOf (.type "tuple") = pure (.type "type") := by kernel_rfl
theorem m_list : typeOf (.type "list") = pure (.type "type") := by kernel_rfl
theorem call_isi : CallR X (.builtin "isinstance") (fun xs H Q => ∃ x T b,xs = [x,.ty T] ∧ IsiB X.K H x T b ∧ Q (.bl b) H) := by
 intro pins s σ H xs us Q I r h
 obtain ⟨x,T,b,rfl,hb,q⟩ := h
 obtain ⟨u,w',rfl,rx,rT⟩ := vals2 r
 cases rT
 have fin : ∀ t,EP X pins σ Q (.bool b) { s with toks := t } := fun t => ⟨.bl b,H,I.tok t,rfl,q⟩
 have fin0 : EP X pins σ Q (.bool b) s := ⟨.bl b,H,I,rfl,q⟩
 have tup : ∀ {a xs},SqT X.K H a xs → ∃ o,s.heap.get? a = some o ∧ o.cls = .type "tuple" := fun hq => by
  obtain ⟨its,_,p,_⟩ := I.tuple hq
  obtain ⟨o,e,c,_⟩ := p
  exact ⟨o,e,c⟩
 have lst : ∀ {a xs},SqL X.K H a xs → ∃ o,s.heap.get? a = some o ∧ o.cls = .type "list" := fun hq => by
  obtain ⟨its,_,p,_⟩ := I.list hq
  obtain ⟨o,e,c,_⟩ := p.isList
  exact ⟨o,e,c⟩
 cases hb with
 | int_int => obtain ⟨t,rfl⟩ := rx; exact call_isinstance (isinstance_true (Tx := "int") m_int y_int) ⟨rfl,fin0⟩
 | int_str => obtain ⟨t,rfl⟩ := rx; exact call_isinstance (isinstance_false_int (by decide) m_str n_int_str) (fin _)
 | int_bool => obtain ⟨t,rfl⟩ := rx; exact call_isinstance (isinstance_false_int (by decide) m_bool n_int_bool) (fin _)
 | int_tuple => obtain ⟨t,rfl⟩ := rx; exact call_isinstance (isinstance_false_int (by decide) m_tuple n_int_tuple) (fin _)
 | int_list => obtain ⟨t,rfl⟩ := rx; exact call_isinstance (isinstance_false_int (by decide) m_list n_int_list) (fin _)
 | str_int => obtain ⟨t,rfl⟩ := rx; exact call_isinstance (isinstance_false_str (by decide) m_int n_str_int) (fin _)
 | str_str => obtain ⟨t,rfl⟩ := rx; exact call_isinstance (isinstance_true (Tx := "str") m_str y_str) ⟨rfl,fin0⟩
 | str_bool => obtain ⟨t,rfl⟩ := rx; exact call_isinstance (isinstance_false_str (by decide) m_bool n_str_bool) (fin _)
 | str_tuple => obtain ⟨t,rfl⟩ := rx; exact call_isinstance (isinstance_false_str (by decide) m_tuple n_str_tuple) (fin _)
 | str_list => obtain ⟨t,rfl⟩ := rx; exact call_isinstance (isinstance_false_str (by decide) m_list n_str_list) (fin _)
 | bl_int => cases rx; exact call_isinstance (isinstance_true (Tx := "bool") m_int y_bool_int) ⟨rfl,fin0⟩
 | bl_bool => cases rx; exact call_isinstance (isinstance_true (Tx := "bool") m_bool y_bool) ⟨rfl,fin0⟩
 | bl_str => cases rx; exact call_isinstance (isinstance_false_bool (by decide) m_str n_bool_str) (fin _)
 | bl_tuple => cases rx; exact call_isinstance (isinstance_false_bool (by decide) m_tuple n_bool_tuple) (fin _)
 | tup_int hq => cases rx; exact call_isinstance (isinstance_false_tuple (by decide) m_int n_tuple_int) ⟨tup hq,fin _⟩
 | tup_str hq => cases rx; exact call_isinstance (isinstance_false_tuple (by decide) m_str n_tuple_str) ⟨tup hq,fin _⟩
 | tup_bool hq => cases rx; exact call_isinstance (isinstance_false_tuple (by decide) m_bool n_tuple_bool) ⟨tup hq,fin _⟩
 | tup_tuple hq => cases rx; exact call_isinstance (isinstance_true (Tx := "tuple") m_tuple y_tuple) ⟨tup hq,fin0⟩
 | tup_list hq => cases rx; exact call_isinstance (isinstance_false_tuple (by decide) m_list n_tuple_list) ⟨tup hq,fin _⟩
 | lst_int hq => cases rx; exact call_isinstance (isinstance_false_list (by decide) m_int n_list_int) ⟨lst hq,fin _⟩
 | lst_str hq => cases rx; exact call_isinstance (isinstance_false_list (by decide) m_str n_list_str) ⟨lst hq,fin _⟩
 | lst_tuple hq => cases rx; exact call_isinstance (isinstance_false_list (by decide) m_tuple n_list_tuple) ⟨lst hq,fin _⟩
 | lst_list hq => cases rx; exact call_isinstance (isinstance_true (Tx := "list") m_list y_list) ⟨lst hq,fin0⟩
noncomputable def Its (z : Str) : It := ⟨fun i _ => i < z.cps.size,fun i H x H' => H' = H ∧ ∃ c,z.cps[i]? = some c ∧ x = .str ⟨#[c]⟩,fun i _ => i = z.cps.size⟩
noncomputable def iStr (te : TE) : TI := fun σ H R => te σ H fun x H1 => ∃ z,x = .str z ∧ R (Its z) H1
theorem turn_str {P : Program} {w : World} {K : PySem.W.Frag} {tg : Expr} (T : String) (it : Addr) (z : Str) (t : Tok)
  (W : ∀ A : Around,A.handled = none → Walks P w A it [it] [it] z.cps.size (SignAt z) (fun i h => h.IsStrIter it T z t i))
  (hT : ["enumerate","zip","dict_itemiterator","dict_reverseitemiterator","odict_iterator","itertools.zip_longest","itertools.pairwise"].contains T = false)
  (hs : ∀ (A : Around) (i : Nat) (s : Shared) (Q : Value → Shared → Prop) (E : Value → Shared → Prop),s.heap.IsStrIter it T z t i → Q (.ref it) s → wpAny (model P w) A (pyIter (.ref it)) Q E s) :
  Turn P w K tg (Its z) [it] it (fun i h => h.IsStrIter it T z t i) where
 mem := by simp
 obj := fun i h st b hb => by
  have e : b = it := by simpa using hb
  subst e
  obtain ⟨o,e,c,d⟩ := st
  exact ⟨o,e,fun v z => by rw [d] at z; cases z⟩
 keep := fun i h h' st k => by
  obtain ⟨o,e,c,d⟩ := st
  exact ⟨o,k it (by simp) o e,c,d⟩
 item := by
  intro X hP hw hK hc i pins s σ H E I hf st hg
  subst hP hw hK
  obtain ⟨f0,f1,f2,f3,f4,f5⟩ := hf it (by simp)
  refine (W X.A (I.ok.hd hc)).item i s _ _ hg st fun v h' tk hv st' kk => ?_
  obtain ⟨c,u,hcz,rfl⟩ := hv
  have I1 : Inv X pins σ H { s with heap := h',toks := tk } := I.turned (fun b o hb e => kk b o (by simpa using hb) e) f0 f1 f3 f4 f5
  obtain ⟨o,e,cl,d⟩ := id st'
  exact ⟨_,rfl,go_of (s := { s with heap := h',toks := tk }) e cl d hT ⟨.str ⟨#[c]⟩,H,I1,⟨u,rfl⟩,⟨rfl,c,hcz,rfl⟩,st',fun b hb => (hf b hb).1⟩⟩
 done := by
  intro X hP hw hK hc i pins s σ H E I hf st hg
  subst hP hw hK
  obtain ⟨f0,f1,f2,f3,f4,f5⟩ := hf it (by simp)
  have hi : i = z.cps.size := hg
  subst hi
  exact (W X.A (I.ok.hd hc)).done s _ _ st fun h' tk kk => ⟨rfl,I.turned (fun b o hb e => kk b o (by simpa using hb) e) f0 f1 f3 f4 f5⟩
 self := hs
theorem pi_str {tg l : Expr} {tl : TE} (hl : PE X l tl) : PI X tg l (iStr tl) := by
 intro pins s σ H R I h
 refine thn (hl pins s σ H _ I h) fun v s1 ⟨x,H1,I1,r1,q1⟩ => ?_
 obtain ⟨z,rfl,q⟩ := q1
 obtain ⟨t,rfl⟩ := r1
 have fp : ∀ (o : Obj),∀ b ∈ [s1.heap.objs.size],FpOk X pins H1 b := fun o b hb => by
  have e : b = s1.heap.objs.size := by simpa using hb
  subst e
  exact I1.fpOk (Nat.le_refl _) (I1.hok.fresh (Nat.le_refl _))
 cases ha : z.cps.all (· < 128)
 ·refine wpAny_pyIter_wide ha ?_
  exact ⟨s1.heap.objs.size,[s1.heap.objs.size],_,_,H1,rfl,I1.kept (t' := s1.toks) fun b o e => Heap.get?_push_of_some _ e,
   turn_str "str_iterator" _ z t (fun A hA => Walks.strWide hA _ z t) (by decide) (fun _ _ _ _ _ st h => wpAny_pyIter_striter_wide st h),⟨_,Heap.get?_push_size _ rfl,rfl,rfl⟩,fp default,q⟩
 ·refine wpAny_pyIter_ascii ha ?_
  exact ⟨s1.heap.objs.size,[s1.heap.objs.size],_,_,H1,rfl,I1.kept (t' := s1.toks) fun b o e => Heap.get?_push_of_some _ e,
   turn_str "str_ascii_iterator" _ z t (fun A hA => Walks.strAscii hA _ z t) (by decide) (fun _ _ _ _ _ st h => wpAny_pyIter_striter_ascii st h),⟨_,Heap.get?_push_size _ rfl,rfl,rfl⟩,fp default,q⟩
noncomputable def bls : List Bool → List V := List.map V.bl
theorem call_all : CallR X (.builtin "all") (fun xs H Q => ∃ p ys,xs = [.ref p] ∧ X.calm = true ∧ SqL X.K H p (bls ys) ∧ Q (.bl (ys.all id)) H) := by
 intro pins s σ H xs us Q I r h
 obtain ⟨p,ys,rfl,hcm,hq,q⟩ := h
 obtain ⟨u,rfl,rx⟩ := vals1 r
 cases rx
 obtain ⟨its,r',pl,hz⟩ := I.list hq
 have hh : X.A.in1.handled = none := I.ok.hd hcm
 have hne : p ≠ s.heap.objs.size := by
  obtain ⟨o,e,_⟩ := pl.isList
  exact Nat.ne_of_lt (Heap.lt_size e)
 have hlen : its.length = ys.length := by rw [← r'.length]; simp [bls]
 refine call_all_walk (wpAny_pyIter_list pl.isList ⟨s.heap.objs.size,_,_,_,_,_,fun i => ys.getD i true,rfl,Walks.list hh _ p hne its.toArray,⟨⟨_,Heap.get?_push_size _ rfl,rfl,rfl⟩,pl.isList.at fun o e => Heap.get?_push_of_some _ e⟩,?_,?_⟩)
 ·intro i v s' Q' E' hv hQ
  have hv' : its[i]? = some v := by simpa using hv
  have hi : i < ys.length := by
   rw [← hlen]
   exact (List.getElem?_eq_some_iff.mp hv').1
  have e1 : (bls ys)[i]? = some (V.bl ys[i]) := by simp [bls,hi]
  obtain ⟨u,hu,ru⟩ := r'.get e1
  rw [hv'] at hu
  obtain rfl := Option.some.inj hu
  cases ru
  refine wpAny_truthy_bool ?_
  have e2 : ys.getD i true = ys[i] := by simp [List.getD_eq_getElem?_getD,hi]
  have hQ' : Q' (ys.getD i true) s' := hQ
  rw [e2] at hQ'
  exact hQ'
 ·intro h' tk kk
  have e3 : (List.range its.toArray.size).all (fun i => ys.getD i true) = ys.all id := by
   rw [List.size_toArray,hlen]
   rw [Bool.eq_iff_iff,List.all_eq_true,List.all_eq_true]
   constructor
   ·intro g x hx
    obtain ⟨i,hi,rfl⟩ := List.mem_iff_getElem.mp hx
    have := g i (List.mem_range.mpr hi)
    simpa [List.getD_eq_getElem?_getD,hi] using this
   ·intro g i hi
    have hi' := List.mem_range.mp hi
    have := g ys[i] (List.getElem_mem hi')
    simpa [List.getD_eq_getElem?_getD,hi'] using this
  rw [e3]
  refine ⟨.bl _,H,?_,rfl,q⟩
  have I1 : Inv X pins σ H { s with heap := s.heap.push { cls := .type "list_iterator",data := .fields #[.ref p,.int 0 0] } } := I.kept (t' := s.toks) fun b o e => Heap.get?_push_of_some _ e
  exact I.kept (t' := tk) fun b o e => kk b o (by
   intro z
   have z' : b = s.heap.objs.size := by simpa using z
   exact absurd (Heap.lt_size e) (by rw [z']; exact Nat.lt_irrefl _)) (Heap.get?_push_of_some _ e)
end
end L2
set_option Elab.async false
set_option linter.all false
set_option maxRecDepth 100000
set_option maxHeartbeats 4000000
namespace L2
open PySem PySem.Spec PyProof.Rows
section
variable {X : Cx}
theorem call_any : CallR X (.builtin "any") (fun xs H Q => ∃ p ys,xs = [.ref p] ∧ X.calm = true ∧ SqL X.K H p (bls ys) ∧ Q (.bl (ys.any id)) H) := by
 intro pins s σ H xs us Q I r h
 obtain ⟨p,ys,rfl,hcm,hq,q⟩ := h
 obtain ⟨u,rfl,rx⟩ := vals1 r
 cases rx
 obtain ⟨its,r',pl,hz⟩ := I.list hq
 have hh : X.A.in1.handled = none := I.ok.hd hcm
 have hne : p ≠ s.heap.objs.size := by
  obtain ⟨o,e,_⟩ := pl.isList
  exact Nat.ne_of_lt (Heap.lt_size e)
 have hlen : its.length = ys.length := by rw [← r'.length]; simp [bls]
 refine call_any_walk (wpAny_pyIter_list pl.isList ⟨s.heap.objs.size,_,_,_,_,_,fun i => ys.getD i false,rfl,Walks.list hh _ p hne its.toArray,⟨⟨_,Heap.get?_push_size _ rfl,rfl,rfl⟩,pl.isList.at fun o e => Heap.get?_push_of_some _ e⟩,?_,?_⟩)
 ·intro i v s' Q' E' hv hQ
  have hv' : its[i]? = some v := by simpa using hv
  have hi : i < ys.length := by
   rw [← hlen]
   exact (List.getElem?_eq_some_iff.mp hv').1
  have e1 : (bls ys)[i]? = some (V.bl ys[i]) := by simp [bls,hi]
  obtain ⟨u,hu,ru⟩ := r'.get e1
  rw [hv'] at hu
  obtain rfl := Option.some.inj hu
  cases ru
  refine wpAny_truthy_bool ?_
  have e2 : ys.getD i false = ys[i] := by simp [List.getD_eq_getElem?_getD,hi]
  have hQ' : Q' (ys.getD i false) s' := hQ
  rw [e2] at hQ'
  exact hQ'
 ·intro h' tk kk
  have e3 : (List.range its.toArray.size).any (fun i => ys.getD i false) = ys.any id := by
   rw [List.size_toArray,hlen]
   rw [Bool.eq_iff_iff,List.any_eq_true,List.any_eq_true]
   constructor
   ·rintro ⟨i,hi,g⟩
    have hi' := List.mem_range.mp hi
    exact ⟨ys[i],List.getElem_mem hi',by simpa [List.getD_eq_getElem?_getD,hi'] using g⟩
   ·rintro ⟨x,hx,g⟩
    obtain ⟨i,hi,rfl⟩ := List.mem_iff_getElem.mp hx
    exact ⟨i,List.mem_range.mpr hi,by simpa [List.getD_eq_getElem?_getD,hi] using g⟩
  rw [e3]
  refine ⟨.bl _,H,?_,rfl,q⟩
  have I1 : Inv X pins σ H { s with heap := s.heap.push { cls := .type "list_iterator",data := .fields #[.ref p,.int 0 0] } } := I.kept (t' := s.toks) fun b o e => Heap.get?_push_of_some _ e
  exact I.kept (t' := tk) fun b o e => kk b o (by
   intro z
   have z' : b = s.heap.objs.size := by simpa using z
   exact absurd (Heap.lt_size e) (by rw [z']; exact Nat.lt_irrefl _)) (Heap.get?_push_of_some _ e)
theorem preSum_take (ns : List Int) : ∀ n,n ≤ ns.length → preSum (fun i => ns.getD i 0) n = (ns.take n).sum
 | 0,_ => by simp [preSum]
 | n + 1,h => by
  have hn : n < ns.length := h
  rw [preSum,preSum_take ns n (Nat.le_of_lt hn),List.take_add_one,List.sum_append]
  simp [List.getD_eq_getElem?_getD,hn]
theorem call_sum : CallR X (.builtin "sum") (fun xs H Q => ∃ (p : Addr) (ns : List Int),xs = [.ref p] ∧ X.calm = true ∧ SqL X.K H p (ns.map V.int) ∧ Q (.int ns.sum) H) := by
 intro pins s σ H xs us Q I r h
 obtain ⟨p,ns,rfl,hcm,hq,q⟩ := h
 obtain ⟨u,rfl,rx⟩ := vals1 r
 cases rx
 obtain ⟨its,r',pl,hz⟩ := I.list hq
 have hh : X.A.in1.handled = none := I.ok.hd hcm
 have hlt : p < s.heap.objs.size := by
  obtain ⟨o,e,_⟩ := pl.isList
  exact Heap.lt_size e
 have hne : p ≠ s.heap.objs.size := Nat.ne_of_lt hlt
 have hlen : its.length = ns.length := by rw [← r'.length]; simp
 refine call_sum_walkG (wpAny_pyIter_list pl.isList ⟨s.heap.objs.size,_,_,_,_,_,fun i => ns.getD i 0,rfl,Walks.list hh _ p hne its.toArray,⟨⟨_,Heap.get?_push_size _ rfl,rfl,rfl⟩,pl.isList.at fun o e => Heap.get?_push_of_some _ e⟩,?_,?_,?_⟩)
 ·intro b hb
  have hb' : b = s.heap.objs.size ∨ b = p := by simpa using hb
  show b < (s.heap.push _).objs.size
  rw [Heap.size_push]
  rcases hb' with e | e
  ·exact e ▸ Nat.lt_succ_self _
  ·exact Nat.lt_succ_of_lt (e ▸ hlt)
 ·intro i v hv
  have hv' : its[i]? = some v := by simpa using hv
  have hi : i < ns.length := by
   rw [← hlen]
   exact (List.getElem?_eq_some_iff.mp hv').1
  have e1 : (ns.map V.int)[i]? = some (V.int ns[i]) := by simp [hi]
  obtain ⟨u,hu,ru⟩ := r'.get e1
  rw [hv'] at hu
  obtain rfl := Option.some.inj hu
  obtain ⟨t,rfl⟩ := ru
  exact ⟨t,by simp [List.getD_eq_getElem?_getD,hi]⟩
 ·intro h' tk t' kk
  have e3 : preSum (fun i => ns.getD i 0) its.toArray.size = ns.sum := by
   rw [List.size_toArray,hlen,preSum_take ns _ (Nat.le_refl _),List.take_length]
  rw [e3]
  refine ⟨.int _,H,?_,⟨_,rfl⟩,q⟩
  exact I.kept (t' := tk) fun b o e => kk b o (by
   intro z
   have z' : b = s.heap.objs.size := by simpa using z
   exact absurd (Heap.lt_size e) (by rw [z']; exact Nat.lt_irrefl _)) (Heap.get?_push_of_some _ e)
noncomputable def rSlS : V → Option Int → Option Int → Hp → VK → Prop := fun x lo hi H Q => ∃ z,x = .str z ∧ z.length ≤ sizeLine ∧ Q (.str (Txt.slice z lo hi)) H
theorem sl_str : SlR X rSlS := by
 intro pins s σ H x v vl vu lo hi sl Q I rx hs pl pu h
 obtain ⟨z,rfl,hz,q⟩ := h
 obtain ⟨t,rfl⟩ := rx
 refine ⟨"str",_,F.slot_str_getitem.lookup,typeIs_str _ _ _,?_⟩
 have fin : ∀ t' k,EP X pins σ Q (.str (Txt.slice z lo hi) t') { s with toks := k } := fun t' k => ⟨.str _,H,I.tok k,⟨t',rfl⟩,q⟩
 cases pl with
 | none =>
  cases pu with
  | none => exact wpAny_getItem_str_slice (l := none) (u := none) (st := none) hs rfl (post_val_or_str ⟨Nat.le_trans (Txt.slice_le z _ _) hz,fun t' k => fin t' k⟩)
  | int j uj => exact wpAny_getItem_str_slice (l := none) (u := some (j,uj)) (st := none) hs rfl (post_val_or_str ⟨Nat.le_trans (Txt.slice_le z _ _) hz,fun t' k => fin t' k⟩)
 | int i ui =>
  cases pu with
  | none => exact wpAny_getItem_str_slice (l := some (i,ui)) (u := none) (st := none) hs rfl (post_val_or_str ⟨Nat.le_trans (Txt.slice_le z _ _) hz,fun t' k => fin t' k⟩)
  | int j uj => exact wpAny_getItem_str_slice (l := some (i,ui)) (u := some (j,uj)) (st := none) hs rfl (post_val_or_str ⟨Nat.le_trans (Txt.slice_le z _ _) hz,fun t' k => fin t' k⟩)
theorem op_isnot_bl : OpR X (compareOp .IsNot) (fun x y H Q => ∃ b c,x = .bl b ∧ y = .bl c ∧ Q (.bl (b != c)) H) := by
 intro pins s σ H x y v u Q I rx ry h
 obtain ⟨b,c,rfl,rfl,q⟩ := h
 cases rx
 cases ry
 exact isnot_bool ⟨.bl _,H,I,rfl,q⟩
end
end L2
set_option Elab.async false
set_option linter.all false
set_option maxRecDepth 100000
set_option maxHeartbeats 4000000
namespace L2
open PySem PySem.Spec PyProof.Rows
theorem same_new {H : Hp} {p : Addr} (h : H p = none) (o : HO) : Same H (upd H p o) := fun b u q => by rw [upd_ne (ne_of_none q h)]; exact q
noncomputable def But (r : Addr) (H H' : Hp) : Prop := ∀ b o,b ≠ r → H b = some o → H' b = some o
theorem But.refl (r : Addr) (H : Hp) : But r H H := fun _ _ _ h => h
theorem But.trans {r : Addr} {H H1 H2 : Hp} (a : But r H H1) (b : But r H1 H2) : But r H H2 := fun c o n h => b c o n (a c o n h)
theorem But.same {r : Addr} {H H1 : Hp} (a : Same H H1) : But r H H1 := fun c o _ h => a c o h
theorem But.put {r : Addr} {H : Hp} {o : HO} : But r H (upd H r o) := fun c u n h => by rw [upd_ne n]; exact h
theorem But.tup {K : PySem.W.Frag} {r : Addr} {H H' : Hp} {a : Addr} {xs : List V} (e : But r H H') (n : a ≠ r) (h : SqT K H a xs) : SqT K H' a xs := by
 rcases h with (h | ⟨o,h⟩) | h
 ·exact .inl (.inl (e _ _ n h))
 ·exact .inl (.inr ⟨o,e _ _ n h⟩)
 ·exact .inr h
theorem Same.tup {K : PySem.W.Frag} {H H' : Hp} {a : Addr} {xs : List V} (e : Same H H') (h : SqT K H a xs) : SqT K H' a xs := by
 rcases h with (h | ⟨o,h⟩) | h
 ·exact .inl (.inl (e _ _ h))
 ·exact .inl (.inr ⟨o,e _ _ h⟩)
 ·exact .inr h
theorem cs0 {X : Cx} {scope : Scope} {NL : List Str} (h1 : scope.kind = .function) (h2 : (scope.names.all fun x => x.2 != .cell && x.2 != .free) = true)
  (h3 : ∀ x ∈ scope.names,x.2 = .local → scope.names.lookup x.1 = some .local) : CScope X scope NL [] NL := by
 rw [List.all_eq_true] at h2
 refine ⟨h1,fun x hx e => ?_,h3,fun x hx e => ?_,by simp,fun j hj => by simp at hj⟩
 ·have := h2 x hx
  rw [e] at this
  exact absurd this (by decide)
 ·have := h2 x hx
  rw [e] at this
  exact absurd this (by decide)
theorem comp_str {z : Str} {l : Addr} {g : TG} {tb : List V → Addr → St → Hp → (List V → St → Hp → Prop) → Prop} {Q : VK} {σ0 : St} {H0 : Hp} (Pv : Nat → List V → St → Hp → Prop) (h0 : Pv 0 [] σ0 H0)
  (hs : ∀ i c ys σ H (N : List V → St → Hp → Prop),z.cps[i]? = some c → Pv i ys σ H → (∀ ys' σ' H',Pv (i + 1) ys' σ' H' → N ys' σ' H') → g (.str ⟨#[c]⟩) σ H fun σ2 H2 => tb ys l σ2 H2 N)
  (hd : ∀ ys σ H,Pv z.cps.size ys σ H → Q (.ref l) H) :
  ∃ W : Nat → Nat → List V → St → Hp → Prop,(∃ m,W 0 m [] σ0 H0) ∧ ∀ i m ys σ' H',W i m ys σ' H' → ((Its z).stop i H' ∧ Q (.ref l) H') ∨
   ((Its z).go i H' ∧ ∀ x H'',(Its z).yld i H' x H'' → g x σ' H'' fun σ2 H2 => tb ys l σ2 H2 fun ys' σ3 H3 => ∃ m',m' < m ∧ W (i + 1) m' ys' σ3 H3) := by
 refine ⟨fun i m ys σ H => m = z.cps.size - i ∧ i ≤ z.cps.size ∧ Pv i ys σ H,⟨z.cps.size,by simp,Nat.zero_le _,h0⟩,?_⟩
 rintro i m ys σ H ⟨rfl,hi,p⟩
 by_cases hlt : i < z.cps.size
 ·refine .inr ⟨hlt,fun x H' y => ?_⟩
  obtain ⟨e,c,hc,rfl⟩ := y
  subst e
  exact hs i c ys σ _ _ hc p fun ys' σ' H' q => ⟨_,by lia,rfl,hlt,q⟩
 ·have e : i = z.cps.size := by lia
  subst e
  exact .inl ⟨rfl,hd ys σ H p⟩
theorem comp_range {lo : Int} {n : Nat} {l : Addr} {g : TG} {tb : List V → Addr → St → Hp → (List V → St → Hp → Prop) → Prop} {Q : VK} {σ0 : St} {H0 : Hp} (Pv : Nat → List V → St → Hp → Prop) (h0 : Pv 0 [] σ0 H0)
  (hs : ∀ i ys σ H (N : List V → St → Hp → Prop),i < n → Pv i ys σ H → (∀ ys' σ' H',Pv (i + 1) ys' σ' H' → N ys' σ' H') → g (.int (lo + i)) σ H fun σ2 H2 => tb ys l σ2 H2 N)
  (hd : ∀ ys σ H,Pv n ys σ H → Q (.ref l) H) :
  ∃ W : Nat → Nat → List V → St → Hp → Prop,(∃ m,W 0 m [] σ0 H0) ∧ ∀ i m ys σ' H',W i m ys σ' H' → ((Itr lo n).stop i H' ∧ Q (.ref l) H') ∨
   ((Itr lo n).go i H' ∧ ∀ x H'',(Itr lo n).yld i H' x H'' → g x σ' H'' fun σ2 H2 => tb ys l σ2 H2 fun ys' σ3 H3 => ∃ m',m' < m ∧ W (i + 1) m' ys' σ3 H3) := by
 refine ⟨fun i m ys σ H => m = n - i ∧ i ≤ n ∧ Pv i ys σ H,⟨n,by simp,Nat.zero_le _,h0⟩,?_⟩
 rintro i m ys σ H ⟨rfl,hi,p⟩
 by_cases hlt : i < n
 ·refine .inr ⟨hlt,fun x H' y => ?_⟩
  obtain ⟨e,rfl⟩ := y
  subst e
  exact hs i ys σ _ _ hlt p fun ys' σ' H' q => ⟨_,by lia,rfl,hlt,q⟩
 ·have e : i = n := by lia
  subst e
  exact .inl ⟨Nat.le_refl _,hd ys σ H p⟩
theorem comp_tup {K : PySem.W.Frag} {a : Addr} {xs : List V} {l : Addr} {g : TG} {tb : List V → Addr → St → Hp → (List V → St → Hp → Prop) → Prop} {Q : VK} {σ0 : St} {H0 : Hp} (Pv : Nat → List V → St → Hp → Prop) (h0 : Pv 0 [] σ0 H0) (hl : ∀ i ys σ H,i ≤ xs.length → Pv i ys σ H → SqT K H a xs)
  (hs : ∀ i x ys σ H (N : List V → St → Hp → Prop),xs[i]? = some x → Pv i ys σ H → (∀ ys' σ' H',Pv (i + 1) ys' σ' H' → N ys' σ' H') → g x σ H fun σ2 H2 => tb ys l σ2 H2 N)
  (hd : ∀ ys σ H,Pv xs.length ys σ H → Q (.ref l) H) :
  ∃ W : Nat → Nat → List V → St → Hp → Prop,(∃ m,W 0 m [] σ0 H0) ∧ ∀ i m ys σ' H',W i m ys σ' H' → ((Itt K a).stop i H' ∧ Q (.ref l) H') ∨
   ((Itt K a).go i H' ∧ ∀ x H'',(Itt K a).yld i H' x H'' → g x σ' H'' fun σ2 H2 => tb ys l σ2 H2 fun ys' σ3 H3 => ∃ m',m' < m ∧ W (i + 1) m' ys' σ3 H3) := by
 refine ⟨fun i m ys σ H => m = xs.length - i ∧ i ≤ xs.length ∧ Pv i ys σ H,⟨xs.length,by simp,Nat.zero_le _,h0⟩,?_⟩
 rintro i m ys σ H ⟨rfl,hi,p⟩
 have q := hl i ys σ H hi p
 by_cases hlt : i < xs.length
 ·refine .inr ⟨⟨xs,xs[i],q,by simp [hlt]⟩,fun x H' y => ?_⟩
  obtain ⟨e,y⟩ := y
  subst e
  exact hs i x ys σ _ _ (y xs q) p fun ys' σ' H' q => ⟨_,by lia,rfl,hlt,q⟩
 ·have e : i = xs.length := by lia
  subst e
  exact .inl ⟨⟨xs,q,Nat.le_refl _⟩,hd ys σ H p⟩
theorem pe_gint {X : Cx} {x : Str} {i : Int} {t : Tok} {pos : Pos} (hg : Gl X x) (hm : X.mg x = some (.int i t)) (hd : (x == ("__debug__" : Str)) = false := by decide) : PE X (.Name x pos) (tC (.int i)) := pe_glob hg hm ⟨_,rfl⟩ hd
theorem pe_gref {X : Cx} {x : Str} {a : Addr} {pos : Pos} (hg : Gl X x) (hm : X.mg x = some (.ref a)) (hd : (x == ("__debug__" : Str)) = false := by decide) : PE X (.Name x pos) (tC (.ref a)) := pe_glob hg hm rfl hd
theorem pe_gty {X : Cx} {x : Str} {n : String} {pos : Pos} (hg : Gl X x) (hm : X.mg x = none) (hv : bootBuiltins x = some (.type n)) (hn : x ≠ "__name__" := by decide) (hd : (x == ("__debug__" : Str)) = false := by decide) : PE X (.Name x pos) (tC (.ty n)) := pe_bltn hg hm hv rfl hn hd
structure Gn (K : PySem.W.Frag) (mg : Str → Option Value) (x : Str) (st : Stmt) (ps : List Str) (f : Addr) (fd : FuncData) : Prop where
 F : Fun K x x st f fd
 b : Binds K fd ps []
 m : mg x = some (.ref f)
end L2
set_option Elab.async false
set_option linter.all false
set_option maxRecDepth 100000
set_option maxHeartbeats 4000000
namespace L2
open PySem PySem.Spec PyProof.Rows
inductive Dt where
 | non | bl (b : Bool) | int (i : Int) | str (z : Str) | tup (l : List Dt)
mutual
inductive IsD (K : PySem.W.Frag) (H : Hp) : Dt → V → Prop
 | non : IsD K H .non .non
 | bl {b} : IsD K H (.bl b) (.bl b)
 | int {i} : IsD K H (.int i) (.int i)
 | str {z} : IsD K H (.str z) (.str z)
 | tup {l : List Dt} {a : Addr} {xs : List V} : SqT K H a xs → IsDs K H l xs → IsD K H (.tup l) (.ref a)
inductive IsDs (K : PySem.W.Frag) (H : Hp) : List Dt → List V → Prop
 | nil : IsDs K H [] []
 | cons {d : Dt} {l : List Dt} {x : V} {xs : List V} : IsD K H d x → IsDs K H l xs → IsDs K H (d :: l) (x :: xs)
end
mutual
noncomputable def Dt.dep : Dt → Nat
 | .tup l => depS l + 1
 | _ => 0
noncomputable def depS : List Dt → Nat
 | [] => 0
 | d :: l => max d.dep (depS l)
end
mutual
noncomputable def eqD : Dt → Dt → Bool
 | .non,.non => true
 | .bl a,.bl b => a == b
 | .bl a,.int i => (if a then 1 else 0) == i
 | .int i,.bl a => i == (if a then 1 else 0)
 | .int i,.int j => i == j
 | .str x,.str y => x == y
 | .tup l,.tup m => eqDs l m
 | _,_ => false
noncomputable def eqDs : List Dt → List Dt → Bool
 | [],[] => true
 | d :: l,e :: m => eqD d e && eqDs l m
 | _,_ => false
end
mutual
noncomputable def Dt.plain : Dt → Bool
 | .bl _ => false
 | .tup l => plainS l
 | _ => true
noncomputable def plainS : List Dt → Bool
 | [] => true
 | d :: l => d.plain && plainS l
end
mutual
theorem eqD_refl : ∀ d : Dt,eqD d d = true
 | .non => rfl
 | .bl a => by simp [eqD]
 | .int i => by simp [eqD]
 | .str z => by simp [eqD]
 | .tup l => by simp only [eqD]; exact eqDs_refl l
theorem eqDs_refl : ∀ l : List Dt,eqDs l l = true
 | [] => rfl
 | d :: l => by simp only [eqDs,eqD_refl d,eqDs_refl l,Bool.and_self]
end
mutual
theorem eqD_eq : ∀ d e : Dt,d.plain = true → e.plain = true → eqD d e = true → d = e
 | .non,e,_,_,h => by cases e <;> simp_all [eqD]
 | .bl _,_,h,_,_ => by simp [Dt.plain] at h
 | .int i,e,_,he,h => by cases e <;> simp_all [eqD,Dt.plain]
 | .str z,e,_,_,h => by cases e <;> simp_all [eqD]
 | .tup l,e,hd,he,h => by
  cases e with
  | tup m => rw [eqDs_eq l m (by simpa [Dt.plain] using hd) (by simpa [Dt.plain] using he) (by simpa [eqD] using h)]
  | _ => simp [eqD] at h
theorem eqDs_eq : ∀ l m : List Dt,plainS l = true → plainS m = true → eqDs l m = true → l = m
 | [],[],_,_,_ => rfl
 | [],_ :: _,_,_,h => by simp [eqDs] at h
 | _ :: _,[],_,_,h => by simp [eqDs] at h
 | d :: l,e :: m,hl,hm,h => by
  simp only [plainS,Bool.and_eq_true] at hl hm
  simp only [eqDs,Bool.and_eq_true] at h
  rw [eqD_eq d e hl.1 hm.1 h.1,eqDs_eq l m hl.2 hm.2 h.2]
end
section
variable {K : PySem.W.Frag} {H H' : Hp}
mutual
theorem IsD.same (g : Same H H') : ∀ {d : Dt} {v : V},IsD K H d v → IsD K H' d v
 | _,_,.non => .non
 | _,_,.bl => .bl
 | _,_,.int => .int
 | _,_,.str => .str
 | _,_,.tup h r => .tup (g.tup h) (IsDs.same g r)
theorem IsDs.same (g : Same H H') : ∀ {l : List Dt} {xs : List V},IsDs K H l xs → IsDs K H' l xs
 | _,_,.nil => .nil
 | _,_,.cons h r => .cons (IsD.same g h) (IsDs.same g r)
end
theorem sqT_ne {a r : Addr} {xs ys : List V} (hr : H r = some (.lst ys)) (h : SqT K H a xs) : a ≠ r ∨ ∀ H'',SqT K H'' a xs := by
 rcases h with (h | ⟨o,h⟩) | h
 ·exact .inl (ne_of h hr (by intro z; cases z))
 ·exact .inl (ne_of h hr (by intro z; cases z))
 ·exact .inr fun _ => .inr h
mutual
theorem IsD.but {r : Addr} {ys : List V} (hr : H r = some (.lst ys)) (g : But r H H') : ∀ {d : Dt} {v : V},IsD K H d v → IsD K H' d v
 | _,_,.non => .non
 | _,_,.bl => .bl
 | _,_,.int => .int
 | _,_,.str => .str
 | _,_,.tup h q => .tup (by
   rcases sqT_ne hr h with n | n
   ·exact g.tup n h
   ·exact n _) (IsDs.but hr g q)
theorem IsDs.but {r : Addr} {ys : List V} (hr : H r = some (.lst ys)) (g : But r H H') : ∀ {l : List Dt} {xs : List V},IsDs K H l xs → IsDs K H' l xs
 | _,_,.nil => .nil
 | _,_,.cons h q => .cons (IsD.but hr g h) (IsDs.but hr g q)
end
theorem IsDs.length {l : List Dt} {xs : List V} (h : IsDs K H l xs) : l.length = xs.length := by
 induction l generalizing xs with
 | nil => cases h; rfl
 | cons d l ih => cases h with | cons _ r => simp [ih r]
theorem IsDs.get {l : List Dt} {xs : List V} (h : IsDs K H l xs) {i : Nat} {d : Dt} (e : l[i]? = some d) : ∃ x,xs[i]? = some x ∧ IsD K H d x := by
 induction l generalizing xs i with
 | nil => simp at e
 | cons c l ih =>
  cases h with
  | cons h r =>
   cases i with
   | zero => simp at e; subst e; exact ⟨_,rfl,h⟩
   | succ i => exact ih r (by simpa using e)
end
section
variable {X : Cx} {pins : List (Addr × Obj)} {σ : St} {H : Hp} {s : Shared}
mutual
theorem IsD.inj (I : Inv X pins σ H s) : ∀ {d e : Dt} {v : V},IsD X.K H d v → IsD X.K H e v → d = e
 | _,_,_,.non,.non => rfl
 | _,_,_,.bl,.bl => rfl
 | _,_,_,.int,.int => rfl
 | _,_,_,.str,.str => rfl
 | _,_,_,.tup h r,.tup h' r' => by
  have e := I.tuple_inj h h'
  subst e
  rw [IsDs.inj I r r']
theorem IsDs.inj (I : Inv X pins σ H s) : ∀ {l m : List Dt} {xs : List V},IsDs X.K H l xs → IsDs X.K H m xs → l = m
 | _,_,_,.nil,.nil => rfl
 | _,_,_,.cons h r,.cons h' r' => by rw [IsD.inj I h h',IsDs.inj I r r']
end
theorem eqDs_range : ∀ (l m : List Dt),eqDs l m = ((List.range (min l.length m.length)).all (fun j => eqD (l.getD j .non) (m.getD j .non)) && l.length == m.length)
 | [],[] => rfl
 | [],_ :: _ => by simp [eqDs]
 | _ :: _,[] => by simp [eqDs]
 | d :: l,e :: m => by
  simp only [eqDs,List.length_cons]
  rw [eqDs_range l m,Nat.succ_min_succ,List.range_succ_eq_map,List.all_cons,List.all_map]
  have e1 : (l.length + 1 == m.length + 1) = (l.length == m.length) := by
   rw [Bool.eq_iff_iff]; simp
  rw [e1,Bool.and_assoc]
  rfl
theorem depS_get : ∀ {l : List Dt} {j : Nat},j < l.length → (l.getD j .non).dep ≤ depS l
 | [],_,h => by simp at h
 | d :: l,0,_ => by simp only [List.getD_cons_zero,depS]; lia
 | d :: l,j + 1,h => by
  have q := @depS_get l j (by simpa using h)
  simp only [List.getD_cons_succ,depS]; lia
theorem Inv.tup' (I : Inv X pins σ H s) {a : Addr} {xs : List V} (h : SqT X.K H a xs) : ∃ its : List Value,Vals xs its ∧ s.heap.IsTuple a its.toArray := by
 obtain ⟨its,r,p,_⟩ := I.tuple h
 exact ⟨its,r,p⟩
theorem in1_units (A : Around) : A.in1.units = A.units + 1 := by
 first | rfl | simp [Around.in1]
theorem eq_D (I : Inv X pins σ H s) : ∀ (n : Nat) (d e : Dt) (x y : V) (u v : Value) (A : Around),d.dep ≤ n → IsD X.K H d x → IsD X.K H e y → RelV x u → RelV y v → A.units + n < cLine →
  SeqAt.EqAt A s u v (eqD d e) ∧ SeqAt.RcAt A s u v (eqD d e) ∧ SeqAt.RcNeAt A s u v (!eqD d e) := by
 intro n
 induction n with
 | zero =>
  intro d e x y u v A hd hx hy rx ry hu
  have hu0 : A.units < cLine := by lia
  cases hx with
  | tup h r => simp [Dt.dep] at hd
  | non =>
   cases rx
   cases hy with
   | non => cases ry; exact ⟨.same _,.none_none,.none_none⟩
   | bl => cases ry; exact ⟨.none_bool _,.none_bool _,.none_bool _⟩
   | int => obtain ⟨t,rfl⟩ := ry; exact ⟨.none_int _ _,.none_int _ _,.none_int _ _⟩
   | str => obtain ⟨t,rfl⟩ := ry; exact ⟨.none_str _ _,.none_str _ _,.none_str _ _⟩
   | tup h r => cases ry; obtain ⟨its,_,p⟩ := I.tup' h; exact ⟨.none_tuple p hu0,.none_tuple p hu0,.none_tuple p hu0⟩
  | bl =>
   cases rx
   cases hy with
   | non => cases ry; exact ⟨.bool_none _,.bool_none _,.bool_none _⟩
   | bl => cases ry; exact ⟨.bool_bool _ _,.bool_bool _ _,.bool_bool _ _⟩
   | int => obtain ⟨t,rfl⟩ := ry; exact ⟨.bool_int _ _ _,.bool_int _ _ _,.bool_int _ _ _⟩
   | str => obtain ⟨t,rfl⟩ := ry; exact ⟨.bool_str _ _ _,.bool_str _ _ _,.bool_str _ _ _⟩
   | tup h r => cases ry; obtain ⟨its,_,p⟩ := I.tup' h; exact ⟨.bool_tuple _ p hu0,.bool_tuple _ p hu0,.bool_tuple _ p hu0⟩
  | int =>
   obtain ⟨t0,rfl⟩ := rx
   cases hy with
   | non => cases ry; exact ⟨.int_none _ _,.int_none _ _,.int_none _ _⟩
   | bl => cases ry; exact ⟨.int_bool _ _ _,.int_bool _ _ _,.int_bool _ _ _⟩
   | int => obtain ⟨t,rfl⟩ := ry; exact ⟨.int_int _ _ _ _,.int_int _ _ _ _,.int_int _ _ _ _⟩
   | str => obtain ⟨t,rfl⟩ := ry; exact ⟨.int_str _ _ _ _,.int_str _ _ _ _,.int_str _ _ _ _⟩
   | tup h r => cases ry; obtain ⟨its,_,p⟩ := I.tup' h; exact ⟨.int_tuple _ _ p hu0,.int_tuple _ _ p hu0,.int_tuple _ _ p hu0⟩
  | str =>
   obtain ⟨t0,rfl⟩ := rx
   cases hy with
   | non => cases ry; exact ⟨.str_none _ _,.str_none _ _,.str_none _ _⟩
   | bl => cases ry; exact ⟨.str_bool _ _ _,.str_bool _ _ _,.str_bool _ _ _⟩
   | int => obtain ⟨t,rfl⟩ := ry; exact ⟨.str_int _ _ _ _,.str_int _ _ _ _,.str_int _ _ _ _⟩
   | str => obtain ⟨t,rfl⟩ := ry; exact ⟨.str_str _ _ _ _,.str_str _ _ _ _,.str_str _ _ _ _⟩
   | tup h r => cases ry; obtain ⟨its,_,p⟩ := I.tup' h; exact ⟨.str_tuple _ _ p hu0,.str_tuple _ _ p hu0,.str_tuple _ _ p hu0⟩
 | succ n ih =>
  intro d e x y u v A hd hx hy rx ry hu
  have hu0 : A.units < cLine := by lia
  cases hx with
  | tup h r =>
   rename_i l a xs
   cases rx
   cases hy with
   | non => cases ry; obtain ⟨its,_,p⟩ := I.tup' h; exact ⟨.tuple_none p hu0,.tuple_none p hu0,.tuple_none p hu0⟩
   | bl => cases ry; obtain ⟨its,_,p⟩ := I.tup' h; exact ⟨.tuple_bool _ p hu0,.tuple_bool _ p hu0,.tuple_bool _ p hu0⟩
   | int => obtain ⟨t,rfl⟩ := ry; obtain ⟨its,_,p⟩ := I.tup' h; exact ⟨.tuple_int _ _ p hu0,.tuple_int _ _ p hu0,.tuple_int _ _ p hu0⟩
   | str => obtain ⟨t,rfl⟩ := ry; obtain ⟨its,_,p⟩ := I.tup' h; exact ⟨.tuple_str _ _ p hu0,.tuple_str _ _ p hu0,.tuple_str _ _ p hu0⟩
   | tup h' r' =>
    rename_i m b ys
    cases ry
    obtain ⟨its,q,p⟩ := I.tup' h
    obtain ⟨its',q',p'⟩ := I.tup' h'
    have l1 : its.length = l.length := by rw [← q.length,← r.length]
    have l2 : its'.length = m.length := by rw [← q'.length,← r'.length]
    have he : ∀ j (h1 : j < its.toArray.size) (h2 : j < its'.toArray.size),SeqAt.EqAt A.in1 s its.toArray[j] its'.toArray[j] (eqD (l.getD j .non) (m.getD j .non)) := by
     intro j h1 h2
     have j1 : j < l.length := by simpa [l1] using h1
     have j2 : j < m.length := by simpa [l2] using h2
     obtain ⟨x1,ex,dx⟩ := r.get (i := j) (d := l.getD j .non) (by simp [List.getD_eq_getElem?_getD,j1])
     obtain ⟨y1,ey,dy⟩ := r'.get (i := j) (d := m.getD j .non) (by simp [List.getD_eq_getElem?_getD,j2])
     obtain ⟨u1,eu,ru⟩ := q.get ex
     obtain ⟨v1,ev,rv⟩ := q'.get ey
     have e1 : its.toArray[j] = u1 := by
      have : its[j]? = some its[j] := by simp [l1,j1]
      rw [this] at eu
      simpa using Option.some.inj eu
     have e2 : its'.toArray[j] = v1 := by
      have : its'[j]? = some its'[j] := by simp [l2,j2]
      rw [this] at ev
      simpa using Option.some.inj ev
     rw [e1,e2]
     have hdl : depS l ≤ n := by simp only [Dt.dep] at hd; lia
     exact (ih _ _ _ _ _ _ A.in1 (Nat.le_trans (depS_get j1) hdl) dx dy ru rv (by rw [in1_units]; lia)).1
    have ev : eqD (.tup l) (.tup m) = ((List.range (min its.toArray.size its'.toArray.size)).all (fun j => eqD (l.getD j .non) (m.getD j .non)) && its.toArray.size == its'.toArray.size) := by
     simp only [eqD,List.size_toArray,l1,l2]
     exact eqDs_range l m
    rw [ev]
    refine ⟨?_,SeqAt.RcAt.tuples p p' hu0 he,SeqAt.RcNeAt.tuples p p' hu0 he⟩
    by_cases hab : a = b
    ·subst hab
     have e3 := I.tuple_inj h h'
     subst e3
     have e4 := IsDs.inj I r r'
     subst e4
     rw [← ev,eqD_refl]
     exact .same _
    ·exact .of_refs hab (SeqAt.RcAt.tuples p p' hu0 he)
  | non => exact ih _ _ _ _ _ _ A (by simp [Dt.dep]) .non hy rx ry (by lia)
  | bl => exact ih _ _ _ _ _ _ A (by simp [Dt.dep]) .bl hy rx ry (by lia)
  | int => exact ih _ _ _ _ _ _ A (by simp [Dt.dep]) .int hy rx ry (by lia)
  | str => exact ih _ _ _ _ _ _ A (by simp [Dt.dep]) .str hy rx ry (by lia)
noncomputable def rEqD (K : PySem.W.Frag) : R2 := fun x y H Q => ∃ d e,IsD K H d x ∧ IsD K H e y ∧ d.dep ≤ 60 ∧ Q (.bl (eqD d e)) H
theorem op_eqD (hu : X.A.units + 64 < cLine) : OpR X (compareOp .Eq) (rEqD X.K) := by
 intro pins s σ H x y v u Q I rx ry h
 obtain ⟨d,e,hd,he,hn,q⟩ := h
 exact (eq_D I 60 d e x y v u X.A hn hd he rx ry (by lia)).2.1 _ _ _ _ ⟨.bl _,H,I,rfl,q⟩
end
end L2
set_option Elab.async false
set_option linter.all false
set_option maxRecDepth 100000
set_option maxHeartbeats 4000000
namespace PySem.W
open PySem PySem.Spec PyProof.Rows PySem.Calls
structure ExcK (K : Frag) (C : Addr) : Prop where
 ga : findIn K (.ref C) "__getattribute__" = some (some (.builtin "BaseException.__getattribute__"))
 gt : findIn K (.ref C) "__getattr__" = some none
 cl : findIn K (.ref C) "__class__" = some (some (.builtin "object.__class__"))
 sb : mroIn K C (.type "BaseException") = some true
 so : mroIn K C (.type "object") = some true
 cd : ∃ c,clsIn K C = some c
section
variable {prog : Program} {w : World} {A : Around} {E : Value → Shared → Prop} {h : Heap} {g : Array GenState} {d : Drawn} {t : Nat} {os : OsState} {a C : Addr} {o : Obj} {K : Frag}
theorem xlk {M : Model} {n : Str} {y : Option Value} {Q : Option Value → Shared → Prop} (X : K.In h) (e : findIn K (.ref C) n = some y) (hq : Q y ⟨h,g,d,t,os⟩) : wpAny M A (typeLookup (.ref C) n) Q E ⟨h,g,d,t,os⟩ :=
 (looks_findIn X e).at hq
theorem xsub {M : Model} {T : Value} {y : Bool} {Q : Bool → Shared → Prop} (X : K.In h) (e : mroIn K C T = some y) (hq : Q y ⟨h,g,d,t,os⟩) : wpAny M A (isSubtype (.ref C) T) Q E ⟨h,g,d,t,os⟩ :=
 (looks_mroIn X e).at hq
theorem xclass_get {R : Result → Shared → Prop} (X : K.In h) (G : ExcK K C) (hx : h.get? a = some o) (hc : o.cls = .ref C) (hq : R (.ok (.ret (.ref C))) ⟨h,g,d,t,os⟩) :
  codeAny (model prog w) A (.call (.builtin "getset_descriptor.__get__") ⟨[.builtin "object.__class__",.ref a,.ref C],[]⟩) R ⟨h,g,d,t,os⟩ := by
 have hT5 : (⟨h,g,d,t,os⟩ : Shared).TypeIs (.builtin "object.__class__") "getset_descriptor" := F.typeOf_object_class
 have hso : mroIn K C (.type (".".intercalate ("object.__class__".cutAt '.').dropLast)) = some true := by rw [F.owner_object_class]; exact G.so
 refine codeAny_call_builtin F.slot_gs_get.plain F.entry_gs_get (F.slot_gs_get.check _ _ _ _ _ _ _ _ hT5 (F.args_gs_get _ _ _) ?_)
 repeat (any_goals (first | assumption | (with_reducible refine wpAny_loadPart_at hx ?_; rw [hc]) | (with_reducible refine xsub X hso ?_) | wp_step))
 refine ⟨Code.quiet_builtin _ (by decide +kernel),codeAny_builtin F.entry_object_class ?_⟩
 repeat (any_goals (first | assumption | (with_reducible refine wpAny_loadPart_at hx ?_; rw [hc]) | wp_step))
theorem xclass_entry {tk : Tok} {Q : Fin → Shared → Prop} (X : K.In h) (G : ExcK K C) (hx : h.get? a = some o) (hc : o.cls = .ref C) (hq : Q (.done (.ret (.ref C))) ⟨h,g,d,t,os⟩) :
  wpAny (model prog w) A (Builtin.«object.__getattribute__» ⟨[.ref a,.str "__class__" tk],[]⟩) Q E ⟨h,g,d,t,os⟩ := by
 have hT5 : (⟨h,g,d,t,os⟩ : Shared).TypeIs (.builtin "object.__class__") "getset_descriptor" := F.typeOf_object_class
 have f5 := F.typeOf_object_class
 have f6 := F.slot_gs_get.lookup
 have f7 := F.slot_gs_set.lookup
 repeat (any_goals (first | assumption | (with_reducible refine wpAny_loadPart_at hx ?_; rw [hc]) | with_reducible refine xlk X G.cl ?_ | wp_step))
 refine xclass_get X G hx hc ?_
 repeat (any_goals (first | assumption | wp_step))
theorem xcheck_ga {M : Model} {nameV : Value} {Q : Unit → Shared → Prop} (X : K.In h) (G : ExcK K C) (hx : h.get? a = some o) (hc : o.cls = .ref C) (hq : Q () ⟨h,g,d,t,os⟩) :
  wpAny M A (checkBuiltinCall "BaseException.__getattribute__" ⟨[.ref a,nameV],[]⟩) Q E ⟨h,g,d,t,os⟩ := by
 have hk : builtinKind "BaseException.__getattribute__" = some .slot := by decide +kernel
 have hsplit : splitId "BaseException.__getattribute__" = some ("BaseException","__getattribute__") := by decide +kernel
 have ha := F.args_bexc_ga (.ref a) nameV
 simp only [checkBuiltinCall,hk,hsplit]
 refine wpAny_bind ?_
 ·unfold isInstance
  repeat (first | (with_reducible refine wpAny_loadPart_at hx ?_; rw [hc]) | (with_reducible refine xsub X G.sb ?_) | wp_step)
  exact hq
theorem xclass_call {tk : Tok} {R : Result → Shared → Prop} (X : K.In h) (G : ExcK K C) (hx : h.get? a = some o) (hc : o.cls = .ref C) (hq : R (.ok (.ret (.ref C))) ⟨h,g,d,t,os⟩) :
  codeAny (model prog w) A (.call (.builtin "BaseException.__getattribute__") ⟨[.ref a,.str "__class__" tk],[]⟩) R ⟨h,g,d,t,os⟩ :=
 codeAny_call_builtin F.attr_ValueError.ga.plain F.entry_bexc_ga (xcheck_ga X G hx hc (xclass_entry X G hx hc hq))
theorem xclass_by {tk : Tok} {fill expr : Bool} {Q : Value → Shared → Prop} (X : K.In h) (G : ExcK K C) (hx : h.get? a = some o) (hc : o.cls = .ref C) (hq : Q (.ref C) ⟨h,g,d,t,os⟩) :
  wpAny (model prog w) A (getAttrBy (.ref a) (.str "__class__" tk) fill expr) Q E ⟨h,g,d,t,os⟩ := by
 have f3 := F.attr_ValueError.ga.bind (.ref a)
 have hx0 : (expr && onTheHeap (Value.builtin "BaseException.__getattribute__")) = false := by cases expr <;> rfl
 have hx2 : (Value.builtin "BaseException.__getattribute__" == Value.builtin "object.__getattribute__") = false := by decide +kernel
 have hx1 : (onTheHeap (Value.ref C) && Value.builtin "BaseException.__getattribute__" == Value.builtin "object.__getattribute__") = false := by rw [hx2]; rfl
 repeat (any_goals (first | assumption | (with_reducible refine wpAny_loadPart_at hx ?_; rw [hc]) | with_reducible refine xlk X G.ga ?_ | with_reducible refine xlk X G.gt ?_ | wp_step))
 refine xclass_call X G hx hc ?_
 repeat (any_goals (first | assumption | wp_step))
theorem xclass_attr {Q : Option Value → Shared → Prop} (X : K.In h) (G : ExcK K C) (hx : h.get? a = some o) (hc : o.cls = .ref C) (hq : Q (some (.ref C)) ⟨h,g,d,t + 1,os⟩) :
  wpAny (model prog w) A (getAttr? (.ref a) "__class__") Q E ⟨h,g,d,t,os⟩ := by
 unfold getAttr? getAttrBy?
 repeat (any_goals (first | assumption | with_reducible apply xclass_by X G hx hc | wp_step))
theorem kitx_exc (G : ExcK K C) : KitX K (.ref a) (.ref C) (fun h => ∃ o,h.get? a = some o ∧ o.cls = .ref C) where
 ty := fun M h _ ⟨o,e,c⟩ => by
  have L : Looks M h (typeOf (.ref a)) o.cls := (Looks.ld e).andThen .now
  rw [c] at L
  exact L
 it := fun _ _ X _ => by
  obtain ⟨cdD,hcD⟩ := G.cd
  unfold clsIn at hcD
  split at hcD
  ·rename_i c' d' cd' sl' ho
   intro A' Q' E' s' k q
   unfold isType loadHead
   exact wpAny_bind (wpAny_loadPart (k _ _ (X _ _ ho)) (wpAny_pure q))
  ·cases hcD
 ne := fun h tp dd its n sl X htp => by
  obtain ⟨cdD,hcD⟩ := G.cd
  refine Bool.eq_false_iff.mpr fun q => ?_
  have e : C = tp := Value.ref.inj (beq_iff_eq.mp q)
  subst e
  unfold clsIn at hcD
  split at hcD
  ·rename_i c' d' cd' sl' ho
   have z := X _ _ ho
   rw [htp] at z
   cases z
  ·cases hcD
 ca := fun {_ _ _ _ _ s} X ⟨o,e,c⟩ q => by
  obtain ⟨h,g,d,t,os⟩ := s
  exact xclass_attr X G e c q
end
end PySem.W
set_option Elab.async false
set_option linter.all false
set_option maxRecDepth 100000
set_option maxHeartbeats 4000000
namespace L2
open PySem PySem.Spec PyProof.Rows
noncomputable def xO (a C : Addr) : HO := .ext fun h => ∃ o,h.get? a = some o ∧ o.cls = .ref C
theorem xO_ok {P : Program} {w : World} {H : Hp} {h : Heap} {a C : Addr} (e : ∃ o,h.get? a = some o ∧ o.cls = .ref C) : ObjOk P w H h a (xO a C) :=
 ⟨e,e.imp fun _ q => q.1,fun _ _ ⟨o,q,c⟩ k => ⟨o,k o q,c⟩⟩
theorem Inv.exc {X : Cx} {pins : List (Addr × Obj)} {σ : St} {H : Hp} {s : Shared} {a C : Addr} (I : Inv X pins σ H s) (e : H a = some (xO a C)) : ∃ o,s.heap.get? a = some o ∧ o.cls = .ref C :=
 (show ObjOk X.prog X.w H s.heap a (xO a C) from I.hok a _ e).1
noncomputable abbrev bmV : List Value := [.type "ValueError",.type "Exception",.type "BaseException",.type "object"]
structure ExC (K : PySem.W.Frag) (mg : Str → Option Value) (x : Str) (C : Addr) : Prop where
 m : mg x = some (.ref C)
 q : PySem.W.excIn K C bmV "ValueError.__new__" = true
 k : PySem.W.ExcK K C
 kp : PySem.W.keepIn K (.ref C) = true
theorem exc_obj {K : PySem.W.Frag} {h : Heap} {C : Addr} {bmB : List Value} {newId : String} (X : K.In h) (q : PySem.W.excIn K C bmB newId = true) :
  ∃ bm N nm qn bs hd sn sub ab col dd k0 k1 k2 k3 k5 mN,h.get? C = some (excClassObj nm qn C N bs bm hd sn sub ab col dd k0 k1 k2 k3 k5 newId) ∧ h.Ns N mN ∧ mN "__init__" = none ∧ OwnTail h bmB bm := by
 unfold PySem.W.excIn at q
 split at q
 case h_2 => cases q
 case h_1 dd cd sl ho =>
  split at q
  case h_2 => cases q
  case h_1 C' bm k0 k1 k2 k3 n k5 hm hs =>
   simp only [Bool.and_eq_true,beq_iff_eq,Bool.not_eq_true'] at q
   obtain ⟨⟨⟨⟨⟨q1,q2⟩,q3⟩,q4⟩,q5⟩,q6⟩ := q
   subst q1 q2
   obtain ⟨nm,bs,mro,ns,qn,hd,sn,sub,ab,col,del⟩ := cd
   dsimp only at hm q3 q5 q6
   subst hm q3
   obtain ⟨l⟩ := sl
   dsimp only at hs
   subst hs
   exact ⟨bm,ns,nm,qn,bs,hd,sn,sub,ab,col,dd,k0,k1,k2,k3,k5,_,X _ _ ho,.of_isNs (PySem.W.isNs_of_in X q5),PySem.W.nsMap_none_of_in X q5 q6,PySem.W.tail_of_in X q4⟩
section
variable {X : Cx} {pins : List (Addr × Obj)} {σ : St} {H : Hp} {s : Shared}
theorem call_isx : CallR X (.builtin "isinstance") (fun xs H Q => ∃ a C D b,xs = [.ref a,.ref D] ∧ H a = some (xO a C) ∧ PySem.W.ExcK X.K C ∧ PySem.W.kitOne X.K (.ref C) (.ref D) = some b ∧ Q (.bl b) H) := by
 intro pins s σ H xs us Q I r h
 obtain ⟨a,C,D,b,rfl,ha,G,hk,q⟩ := h
 obtain ⟨u,w',rfl,rx,rD⟩ := vals2 r
 cases rx
 cases rD
 exact PySem.W.kia_one (PySem.W.kitx_exc G) I.kIn (I.exc ha) hk (fun z => nomatch z) fun tk => ⟨.bl b,H,I.tok tk,rfl,q⟩
theorem call_isxT : CallR X (.builtin "isinstance") (fun xs H Q => ∃ a C T b,xs = [.ref a,.ty T] ∧ H a = some (xO a C) ∧ PySem.W.ExcK X.K C ∧ PySem.W.kitOne X.K (.ref C) (.type T) = some b ∧ Q (.bl b) H) := by
 intro pins s σ H xs us Q I r h
 obtain ⟨a,C,T,b,rfl,ha,G,hk,q⟩ := h
 obtain ⟨u,w',rfl,rx,rD⟩ := vals2 r
 cases rx
 cases rD
 exact PySem.W.kia_one (PySem.W.kitx_exc G) I.kIn (I.exc ha) hk (fun z => nomatch z) fun tk => ⟨.bl b,H,I.tok tk,rfl,q⟩
end
end L2
set_option Elab.async false
set_option linter.all false
set_option maxRecDepth 100000
set_option maxHeartbeats 4000000
namespace L2
open PySem PySem.Spec PyProof.Rows
noncomputable def CXE (P : Program) (w : World) : CXT := fun outer H s E e s' => ∃ (ea C : Addr) (a0 : Value) (B : Heap) (H' : Hp),e = .ref ea ∧ Heap.FlyingW B outer ea (.ref C) a0 s'.heap ∧ s'.os = s.os ∧ AllBare s'.gens ∧ Un (frs outer) [] H H' s.heap s'.heap ∧ HOk P w H' B ∧
 (∀ b o,s.heap.get? b = some o → H b = none → b ∉ frs outer → B.get? b = some o) ∧ (∀ b o,s.heap.get? b = some o → b ∉ frs outer → ∃ o',B.get? b = some o') ∧ E (.ref C) none H'
theorem un_fly {fs : List Addr} {H H1 : Hp} {h h1 h' B : Heap} (u : Un fs [] H H1 h h1) (c1 : ∀ b o,h.get? b = some o → H b = none → b ∉ fs → B.get? b = some o) (c2 : ∀ b o,h.get? b = some o → b ∉ fs → ∃ o',B.get? b = some o')
  (st : B.StaysIn h') (c3 : ∀ b o,h.get? b = some o → b ∈ fs → ∃ sl,h'.get? b = some { o with slots := sl }) : Un fs [] H H1 h h' where
 keep := fun b o q n hb _ => st b o (c1 b o q n hb)
 slot := fun b o q n hb _ => c3 b o q hb
 free := u.free
 there := fun b o q hx => by
  by_cases hb : b ∈ fs
  ·obtain ⟨sl,e⟩ := c3 b o q hb
   exact ⟨_,e⟩
  ·obtain ⟨o',e⟩ := c2 b o q hb
   exact ⟨o',st b o' e⟩
 tups := u.tups
 frzs := u.frzs
 tbls := u.tbls
noncomputable def XeOf (X : Cx) (E : XK) : Prop := X.xe = fun e s' => wpAny (model X.prog X.w) X.A (leaving X.env e) (fun _ s'' => CXE X.prog X.w X.outer X.H₀ X.s₀ E e s'') (fun e' s'' => CXE X.prog X.w X.outer X.H₀ X.s₀ E e' s'') s'
section
variable {X : Cx} {pins : List (Addr × Obj)} {σ : St} {H : Hp} {s : Shared}
theorem nofields {base h : Heap} {l : List Env} {b : Addr} (f : h.FunFrames base l) (hb : b ∈ frs l) : ∃ o,h.get? b = some o ∧ ∀ vs,o.data ≠ .fields vs := by
 obtain ⟨_,o,ho,hn⟩ := f.mem hb
 exact ⟨o,ho,hn⟩
theorem fly_made {E : XK} {C : Addr} {ea : Addr} {vs : List Value} {h' : Heap} {tk : Nat} (hx : XeOf X E) (hstk : X.stack = X.env :: X.outer) (hfr : X.env.frame = some X.env.locals) (hex : X.ex = []) (I : Inv X pins σ H s) (hm : Heap.MadeExcOf s.heap h' ea (.ref C) vs)
  (q : E (.ref C) none H) : X.xe (.ref ea) { s with heap := h',toks := tk } := by
 rw [hx]
 have F0 : s.heap.FunFrames X.base (X.env :: X.outer) := by rw [← hstk]; exact I.stack
 have fr0 : X.A.frames = some (X.env :: X.outer) := by rw [← hstk]; exact I.ok.frames
 have mem : ∀ b ∈ frs X.outer,b ∈ frs (X.env :: X.outer) := fun b hb => by
  obtain ⟨env,he,hf⟩ := List.mem_filterMap.mp hb
  exact List.mem_filterMap.mpr ⟨env,List.mem_cons_of_mem _ he,hf⟩
 have inv : ∀ b,b ∈ frs (X.env :: X.outer) → b = X.env.locals ∨ b ∈ frs X.outer := fun b hb => by
  obtain ⟨env,he,hf⟩ := List.mem_filterMap.mp hb
  rcases List.mem_cons.mp he with rfl | he
  ·rw [hfr] at hf; exact .inl (Option.some.inj hf).symm
  ·exact .inr (List.mem_filterMap.mpr ⟨env,he,hf⟩)
 have hin : ∀ env ∈ (X.env :: X.outer),∀ b,env.frame = some b → b ∈ frs (X.env :: X.outer) := fun env he b hb => List.mem_filterMap.mpr ⟨env,he,hb⟩
 have stayB : ∀ b o,s.heap.get? b = some o → b ∉ frs (X.env :: X.outer) → (PySem.W.hideAll s.heap (frs (X.env :: X.outer))).get? b = some o := fun b o e n => PySem.W.hideAll_get _ e n
 have old : ∀ b o,X.s₀.heap.get? b = some o → b ∉ frs X.outer → b ∉ frs (X.env :: X.outer) := fun b o e n z => by
  rcases inv b z with rfl | z
  ·exact absurd (Nat.lt_of_lt_of_le (Heap.lt_size e) I.ok.above) (Nat.lt_irrefl _)
  ·exact n z
 refine wpAny_leaves_madeW (s := { s with heap := h',toks := tk }) fr0 hfr (fun b o e => PySem.W.of_hideAll _ e) (PySem.W.funFrames_hide F0 hin) hm fun h2 t fl _ _ up => ?_
 have B0 : Un X.fs [] X.H₀ H X.s₀.heap s.heap := by have z := I.base; rw [hex] at z; exact z
 have c1 : ∀ b o,X.s₀.heap.get? b = some o → X.H₀ b = none → b ∉ frs X.outer → (PySem.W.hideAll s.heap (frs (X.env :: X.outer))).get? b = some o := fun b o e n hb => stayB b o (B0.keep b o e n hb (by simp)) (old b o e hb)
 have c2 : ∀ b o,X.s₀.heap.get? b = some o → b ∉ frs X.outer → ∃ o',(PySem.W.hideAll s.heap (frs (X.env :: X.outer))).get? b = some o' := fun b o e hb => by
  obtain ⟨o',e'⟩ := B0.there b o e (by simp)
  exact ⟨o',stayB b o' e' (old b o e hb)⟩
 refine ⟨ea,C,_,_,H,rfl,fl,I.os,I.bare,un_fly B0 c1 c2 fl.1 fun b o e hb => ?_,fun b u e => ?_,c1,c2,q⟩
 ·obtain ⟨sl,e1⟩ := B0.slot b o e (I.ok.frf b hb) hb (by simp)
  obtain ⟨o2,e2,nf⟩ := nofields F0 (mem b hb)
  rw [e1] at e2
  obtain rfl := Option.some.inj e2
  obtain ⟨sl2,e3⟩ := up b _ (hm.keeps b _ e1) nf
  exact ⟨sl2,e3⟩
 ·refine (I.hok b u e).stay (fun c v hc z => stayB c v z fun hf => ?_) (fun _ z => z) fun _ _ z => z
  have n0 : H c = none := by rw [← hstk] at hf; exact I.stkFree c hf
  rcases hc with rfl | hc
  ·rw [e] at n0; cases n0
  ·rw [hc] at n0; cases n0
noncomputable def tRaise (C : Addr) (E : XK) (t : TA) : TS := fun _ σ H => t σ H fun xs H1 => xs.length ≤ sizeLine ∧ E (.ref C) none H1
theorem ps_raise {E : XK} {x : Str} {C : Addr} {e : Expr} {es : List Expr} {t : TA} {np cpos pos : Pos} (hx : XeOf X E) (hstk : X.stack = X.env :: X.outer) (hfr : X.env.frame = some X.env.locals) (hex : X.ex = []) (hc : X.calm = true) (G : ExC X.K X.mg x C) (hg : Gl X x) (ha : PA X (e :: es) t)
  (hdb : (x == ("__debug__" : Str)) = false := by decide) (he : starEach (e :: es) X.env = (false,eval e X.env) :: starEach es X.env := by rfl) (hpl : (backTo cpos (starEach es X.env)).any (·.1) = false := by rfl) :
  PS X (.Raise (some (.Call (.Name x np) (e :: es) [] cpos)) none pos) (tRaise C E t) := by
 intro pins s σ H D I h
 obtain ⟨bm,N,nm,qn,bs,hd,sn,sub,ab,col,dd,k0,k1,k2,k3,k5,mN,hC,hN,hni,T⟩ := exc_obj I.ok.mod.kin G.q
 refine wpAny_Raise_call_subT (C := C) (nm := nm) (q := qn) (N := N) (bs := bs) (bm := bm) (hdct := hd) (sn := sn) (sub := sub) (ab := ab) (col := col) (dd := dd) (k0 := k0) (k1 := k1) (k2 := k2) (k3 := k3) (k5 := k5) F.excBase_ValueError (mN := mN) (T.hasType F.excBase_ValueError.hasBase) (I.ok.hd hc)
  (by rw [he]; show (false || (backTo cpos (starEach es X.env)).any (·.1)) = false; rw [hpl]; rfl) hni (ld_glob I hg G.m ⟨rfl,?_⟩ hdb)
 have z := ha cpos pins s σ H _ I h
 rw [he] at z ⊢
 refine Calls.evalArgs_plain (wpAny_mono z (fun us s2 ⟨vs,H2,I2,r,hz,q⟩ => ?_) fun _ _ y => y)
 refine ⟨rfl,by show us.length ≤ sizeLine; rw [← r.length]; exact hz,I2.bk _ _ hC,hN.keeps I2.bk,T.keeps I2.bk,fun h' ea hm => ?_⟩
 exact fly_made (tk := s2.toks) hx hstk hfr hex I2 hm q
end
theorem Fun.okE {P : Program} {w : World} {K : PySem.W.Frag} {mg : Str → Option Value} {base : Heap} {x qual : Str} {st : Stmt} {f : Addr} {fd : FuncData} {N ps : List Str} {k : Nat} {sp : Sp} (F : Fun K x qual st f fd) (S : FnScope N ps (defScope st)) (len : ∀ vs H Q E,sp vs H Q E → vs.length = ps.length)
  (hbody : ∀ (cdv : Value) (A : Around) (outer : List Env) (s : Shared) (H : Hp) (vs : List V) (Q : VK) (E : XK),Room k (A.deeper (envOfC qual (defScope st) s.heap.objs.size f cdv)) → sp vs H Q E →
   ∃ t,PSs (cxOf (CXE P w) P w K mg base N qual (defScope st) f cdv A outer s H E) (defBody st) t ∧ t { nx := fun _ H' => Q .non H',rt := Q } (start N vs) H) : FnOk P w K mg base (CXE P w) (k + 1) f fd ps sp := by
 obtain ⟨oc,od,kV,doc,pm,an,cdv,ct,osl,rfl,lk,hcd⟩ := F.ex
 exact fn_of lk hcd S len fun A outer s H vs Q E hr hsp => hbody cdv A outer s H vs Q E hr hsp
theorem xeOf {P : Program} {w : World} {K : PySem.W.Frag} {mg : Str → Option Value} {base : Heap} {N : List Str} {qual : Str} {scope : Scope} {f : Addr} {cd : Value} {A : Around} {outer : List Env} {s : Shared} {H : Hp} {E : XK} :
  XeOf (cxOf (CXE P w) P w K mg base N qual scope f cd A outer s H E) E := rfl
end L2
set_option Elab.async false
set_option linter.all false
set_option maxRecDepth 100000
set_option maxHeartbeats 4000000
namespace L2
open PySem PySem.Spec PyProof.Rows
theorem hok_none {P : Program} {w : World} {H : Hp} {h : Heap} {a : Addr} (hok : HOk P w H h) (hp : h.get? a = none) : H a = none := by
 cases q : H a with
 | none => rfl
 | some u =>
  have w' := hok a u q
  exfalso
  cases u with
  | lst xs => obtain ⟨_,its,n,_,e⟩ := w'; rw [hp] at e; cases e
  | tup xs => obtain ⟨_,its,_,ob,e,_⟩ := w'; rw [hp] at e; cases e
  | dK kvs => obtain ⟨_,_,vs,_,ob,es,ep,e,_⟩ := w'; rw [hp] at e; cases e
  | dT kvs => obtain ⟨_,_,xs,_,ob,es,ep,e,_⟩ := w'; rw [hp] at e; cases e
  | set S n => obtain ⟨ob,es,ep,t,e,_⟩ := w'; rw [hp] at e; cases e
  | ins C dx fs => obtain ⟨_,_,_,e,_⟩ := w'; rw [hp] at e; cases e
  | own y => obtain ⟨ob,e⟩ := w'; rw [hp] at e; cases e
  | xd fs => obtain ⟨mA,⟨od,es,ep,e,_⟩,_⟩ := w'; rw [hp] at e; cases e
  | rng lo hi => obtain ⟨t,u,v,e⟩ := w'; rw [hp] at e; cases e
  | frz ob u => obtain ⟨e,_⟩ := w'; rw [hp] at e; cases e
  | tbl ps => have e : h.get? a = some { cls := .none,data := .fields ps } := w'; rw [hp] at e; cases e
  | met f y => have e : h.get? a = some (PySem.W.methodObj (.ref f) (.ref y)) := w'; rw [hp] at e; cases e
  | ext φ => obtain ⟨_,⟨o,e⟩,_⟩ := w'; rw [hp] at e; cases e
noncomputable def hcx (X : Cx) (ea : Addr) : Cx := { X with A := X.A.mark (some (.ref ea)),calm := false,xe := fun _ _ => False }
section
variable {X : Cx} {pins : List (Addr × Obj)} {σ : St} {H : Hp} {s : Shared}
theorem Cx.Ok.hcx (ok : X.Ok) (ea : Addr) : (hcx X ea).Ok :=
 ⟨ok.mod,ok.kind,ok.glob,ok.blt,ok.above,ok.inj,ok.has,ok.cab,fun z => absurd z (by show ¬ (false = true); decide),ok.frames,ok.stk,ok.exf,ok.bs,ok.bsz,ok.noex,ok.exfs,ok.funs,ok.frf⟩
theorem Inv.hcx (I : Inv X pins σ H s) (ea : Addr) : Inv (hcx X ea) pins σ H s := ⟨I.ok.hcx ea,I.os,I.bare,I.base,I.loc,I.cell,I.free,I.freeC,I.pin,I.hok,I.len⟩
theorem Inv.unhcx {ea : Addr} (I : Inv (L2.hcx X ea) pins σ H s) (ok : X.Ok) : Inv X pins σ H s := ⟨ok,I.os,I.bare,I.base,I.loc,I.cell,I.free,I.freeC,I.pin,I.hok,I.len⟩
theorem Inv.goes {i : Nat} {n : Str} {pos : Pos} {M : Model} {A : Around} {E : Value → Shared → Prop} {Q : Unit → Shared → Prop} (I : Inv X pins σ H s) (hN : X.N.Nodup) (hi : X.N[i]? = some n) (hl : X.env.scope.names.lookup n = some .local)
  (h : ∀ s',Inv X pins (σ.set i none) H s' → Q () s') : wpAny M A (do bindName X.env n .none; unbindBehindTheSuite X.env n pos) Q E s := by
 obtain ⟨m,hn,hlk⟩ := id I.loc
 have hcls : (X.env.scope.kind == .class || (X.env.scope.kind == .module && X.env.locals != X.env.globals)) = false := by rw [I.ok.kind]; rfl
 have hiσ : i < σ.length := by rw [I.len]; exact (List.getElem?_eq_some_iff.mp hi).1
 have cne := I.cne
 refine wpAny_nameGoes_keeps hl hn hcls fun h' v hn' hs => ?_
 have neL : ∀ b o,X.s₀.heap.get? b = some o → b ≠ X.env.locals := fun b o e => Nat.ne_of_lt (Nat.lt_of_lt_of_le (Heap.lt_size e) I.ok.above)
 refine h _ ⟨I.ok,I.os,I.bare,⟨fun b o e n hb hx => ?_,fun b o e n hb hx => ?_,I.base.free,fun b o e hx => ?_,I.base.tups,I.base.frzs,I.base.tbls⟩,⟨_,hn',fun j y v' e1 e2 e3 => ?_⟩,fun y c e => ?_,I.free,I.freeC,fun p hp => ?_,fun b u e => ?_,by simpa using I.len⟩
 ·exact (hs.2 b (neL b o e)).trans (I.base.keep b o e n hb hx)
 ·obtain ⟨sl,e1⟩ := I.base.slot b o e n hb hx
  exact ⟨sl,(hs.2 b (neL b o e)).trans e1⟩
 ·obtain ⟨o',e1⟩ := I.base.there b o e hx
  exact ⟨o',(hs.2 b (neL b o e)).trans e1⟩
 ·by_cases hj : j = i
  ·subst hj
   rw [List.getElem?_set_self hiσ] at e2
   cases e2
  ·rw [List.getElem?_set_ne (Ne.symm hj)] at e2
   obtain ⟨u',r',q⟩ := hlk j y v' e1 e2 e3
   refine ⟨u',r',?_⟩
   rcases q with ⟨k,e⟩ | ⟨k,c,e,z⟩
   ·refine .inl ⟨k,?_⟩
    have : y ≠ n := fun e => hj (nodup_ix hN e1 (e ▸ hi))
    simp [this,e]
   ·exact .inr ⟨k,c,e,z.sameBut hs (cne y c e)⟩
 ·obtain ⟨w',z⟩ := I.cell y c e
  exact ⟨w',z.sameBut hs (cne y c e)⟩
 ·obtain ⟨e,n,ne,nf,d⟩ := I.pin p hp
  exact ⟨(hs.2 p.1 ne).trans e,n,ne,nf,d⟩
 ·refine (I.hok b u e).stay (fun c w' hc q => (hs.2 c ?_).trans q) (fun _ q => q) fun _ _ q => q
  rintro rfl
  rcases hc with rfl | hc
  ·rw [I.free] at e; cases e
  ·rw [I.free] at hc; cases hc
noncomputable abbrev TX := St → Hp → VK → XK → Prop
noncomputable def PX (X : Cx) (e : Expr) (t : TX) : Prop :=
 ∀ (pins : List (Addr × Obj)) (s : Shared) (σ : St) (H : Hp) (Q : VK) (E : XK),Inv X pins σ H s → t σ H Q E →
  wpAny (model X.prog X.w) X.A (eval e X.env) (EP X pins σ Q) (fun ex s' => ∃ H1 s1,Inv X pins σ H1 s1 ∧ CXE X.prog X.w X.stack H1 s1 E ex s') s
theorem px_call {k : Nat} {f : Addr} {fd : FuncData} {ps : List Str} {sp : Sp} {x : Str} {p pos : Pos} {e : Expr} {es : List Expr} {t : TA} (F : FnOk X.prog X.w X.K X.mg X.base (CXE X.prog X.w) k f fd ps sp) (hr : Room k X.A) (hg : Gl X x) (hm : X.mg x = some (.ref f))
  (hk : PySem.W.keepIn X.K (.ref f) = true) (hb : Binds X.K fd ps []) (ha : PA X.nox (e :: es) t) (hdb : (x == ("__debug__" : Str)) = false := by decide) (he : starEach (e :: es) X.env = (false,eval e X.env) :: starEach es X.env := by rfl)
  (hpl : (backTo pos (starEach es X.env)).any (·.1) = false := by rfl) : PX X (.Call (.Name x p) (e :: es) [] pos) (fun σ H Q E => t σ H fun vs H1 => sp vs H1 Q E) := by
 intro pins s σ H Q E I h
 refine wpAny_Call_Name_kw (ld_glob I hg hm ?_ hdb)
 refine PySem.W.callWith_K (h₀ := X.base) I.ok.mod.kin hk (wpAny_mono (ha pos pins s σ H _ (I.wish _) h) (fun us s1 ⟨vs,H1,I1',r,q⟩ => ?_) fun _ _ z => z.elim) he hpl
 have I1 : Inv X pins σ H1 s1 := Inv.unwish I1'
 refine ⟨I1.kIn,?_⟩
 have hl : us.length = ps.length := by rw [← r.length]; exact F.len _ _ _ _ q
 have hb' : BindsTo s1 fd ⟨us,[]⟩ (ps.zip us) := by
  have z := hb s1 us I1.kIn (by rw [List.append_nil]; exact hl)
  rwa [List.append_nil] at z
 refine wpAny_call (codeAny_mono (F.run X.A X.stack s1 H1 ⟨us,[]⟩ us vs Q E hr I1.env0 hb' r q) fun rr s' hq => ?_)
 cases rr with
 | error ex => exact ⟨H1,s1,I1,hq⟩
 | ok fl =>
  cases fl with
  | ret u => exact I1.after hq
  | next => exact False.elim hq
  | brk => exact False.elim hq
  | cont => exact False.elim hq
noncomputable def tTry (K : PySem.W.Frag) (HC : Addr) (i : Nat) (te : TX) (ts : TS) : TS := fun D σ H => te σ H (fun _ H1 => D.nx σ H1) fun cls _ H' => ∃ C,cls = .ref C ∧ PySem.W.exmOne K (.ref C) (.ref HC) = some true ∧
 ∀ ea,H' ea = none → ts { nx := fun σ' H'' => D.nx (σ'.set i none) H'',rt := D.rt,bk := fun σ' H'' => D.bk (σ'.set i none) H'',ct := fun σ' H'' => D.ct (σ'.set i none) H'' } (σ.set i (some (.ref ea))) (upd H' ea (xO ea C))
theorem ps_try1 {e : Expr} {x n : Str} {i : Nat} {b₀ : Stmt} {suite : List Stmt} {np p1 hpos pos : Pos} {te : TX} {HC : Addr} {ts : TS} (hstk : X.stack = X.env :: X.outer) (hfr : X.env.frame = some X.env.locals) (he : PX X e te) (hm : X.mg x = some (.ref HC)) (hg : Gl X x)
  (hN : X.N.Nodup) (hi : X.N[i]? = some n) (hlo : X.env.scope.names.lookup n = some .local) (hb : ∀ ea,PSs (hcx X ea) (b₀ :: suite) ts) (hs : swapsWith e none p1.line X.env = pure false := by rfl) (hdb : (x == ("__debug__" : Str)) = false := by decide) :
  PS X (.Try [.Expr e p1] [.ExceptHandler (some (.Name x np)) (some n) (b₀ :: suite) hpos] [] [] pos) (tTry X.K HC i te ts) := by
 intro pins s σ H D I h
 have fr0 : X.A.frames = some (X.env :: X.outer) := by rw [← hstk]; exact I.ok.frames
 refine wpAny_Try_except (wpAny_execs_cons (wpAny_Expr_any (wpAny_mono (he pins s σ H _ _ I h) (fun v s1 ⟨y,H1,I1,r1,q1⟩ => ?_) (fun ex s1 ⟨H1,s0,I0,fl0⟩ => ?_)) I.quiet hs))
 ·exact wpAny_execs_nil (wpAny_execs_nil ⟨σ,H1,I1,q1⟩)
 obtain ⟨ea,C,a0,B,H',rfl,fl,os,bare,un,hok,c1,c2,C',e',hx,q⟩ := fl0
 cases e'
 have flS := fl
 rw [hstk] at fl
 refine wpAny_looks_onW fr0 hfr fl fun h4 held4 up4 => ?_
 refine wpAny_landsW held4 fun h5 held5 up5 => ?_
 have frames : ∀ {h2 : Heap},s1.heap.UpToSlots h2 → ∀ b o,s0.heap.get? b = some o → b ∈ frs X.stack → ∃ sl,h2.get? b = some { o with slots := sl } := fun {h2} up b o e hb => by
  obtain ⟨sl,e1⟩ := un.slot b o e (I0.stkFree b hb) hb (by simp)
  obtain ⟨o2,e2,nf⟩ := nofields flS.2.2.1 hb
  rw [e1] at e2
  obtain rfl := Option.some.inj e2
  obtain ⟨sl2,e3⟩ := up b _ e1 nf
  exact ⟨sl2,e3⟩
 have I5 : Inv X pins σ H' { s1 with heap := h5 } := I0.call' (s' := { s1 with heap := h5 }) os (un_fly un c1 c2 held5.1 (frames (up4.trans up5))) (hok.kept held5.1) bare (ch := []) (fun _ z => nomatch z)
 have ea0 : H' ea = none := hok_none hok fl.2.1
 obtain ⟨ob,hob,hobc⟩ := held5.there
 have LT : PySem.W.Looks (model X.prog X.w) h5 (typeOf (.ref ea)) (.ref C) := by
  have L : PySem.W.Looks (model X.prog X.w) h5 (typeOf (.ref ea)) ob.cls := (PySem.W.Looks.ld hob).andThen .now
  rw [hobc] at L
  exact L
 refine wpAny_handleBy_cons (codeAny_handlers_test (ld_glob (X := hcx X ea) (I5.hcx ea) hg hm ?_ hdb)) (by intro z; cases z)
 refine (PySem.W.exm_one (h := h5) I5.kIn LT hx).here ?_
 refine codeAny_handlers_suite_as ?_
 refine lands_againW held5 fun h6 fl6 up6 => ?_
 have up16 : s1.heap.UpToSlots h6 := (up4.trans up5).trans up6
 obtain ⟨oe,ws,hoe,hoec,hoed,_⟩ := fl6.first
 have neF : ea ∉ frs X.stack := fun hb => by
  have f6 := fl6.2.2.1
  rw [← hstk] at f6
  obtain ⟨o2,e2,nf⟩ := nofields f6 hb
  rw [hoe] at e2
  obtain rfl := Option.some.inj e2
  exact nf _ hoed
 have un6 : Un (frs X.stack) [] H1 H' s0.heap h6 := un_fly un c1 c2 fl6.1 (frames up16)
 have un7 : Un (frs X.stack) [] H1 (upd H' ea (xO ea C)) s0.heap h6 := by
  refine ⟨un6.keep,un6.slot,fun b o e n z => ?_,un6.there,fun b xs e => ?_,fun b o u e => ?_,fun b ps e => ?_⟩
  ·have hne : b ≠ ea := by
    rintro rfl
    by_cases hb : b ∈ frs X.stack
    ·exact neF hb
    ·have z := c1 b o e n hb
     rw [fl.2.1] at z
     cases z
   rw [upd_ne hne]
   exact un6.free b o e n z
  ·rw [upd_ne (ne_of_none (un6.tups b xs e) ea0)]; exact un6.tups b xs e
  ·rw [upd_ne (ne_of_none (un6.frzs b o u e) ea0)]; exact un6.frzs b o u e
  ·obtain ⟨m1,e1⟩ := un6.tbls b ps e
   exact ⟨m1,by rw [upd_ne (ne_of_none e1 ea0)]; exact e1⟩
 have hok6 : HOk X.prog X.w (upd H' ea (xO ea C)) h6 := fun b u e => by
  by_cases hb : b = ea
  ·subst hb
   rw [upd_same] at e
   cases e
   exact xO_ok ⟨oe,hoe,hoec⟩
  ·rw [upd_ne hb] at e
   exact (hok b u e).stay (fun c v _ z => fl6.1 c v z) (fun c z => by rw [upd_ne (ne_of_none z ea0)]; exact z) fun c xs z => by rw [upd_ne (ne_of_none z ea0)]; exact z
 have I6 : Inv X pins σ (upd H' ea (xO ea C)) { s1 with heap := h6 } := I0.call' (s' := { s1 with heap := h6 }) os un7 hok6 bare (ch := []) (fun _ z => nomatch z)
 refine store_ok (X := hcx X ea) (v := .ref ea) (I6.hcx ea) hN hi (.inl hlo) rfl (fun s7 I7 => ?_) (.inr hlo)
 refine wpAny_mono (hb ea pins s7 _ _ _ I7 (q ea ea0)) (fun f s8 h8 => ?_) fun _ _ z => z.elim
 cases f with
 | next =>
  obtain ⟨σ8,H8,I8,q8⟩ := h8
  exact (I8.unhcx I.ok).goes hN hi hlo fun s9 I9 => ⟨_,H8,I9,q8⟩
 | ret v =>
  obtain ⟨v8,σ8,H8,I8,r8,q8⟩ := h8
  exact (I8.unhcx I.ok).goes hN hi hlo fun s9 I9 => ⟨v8,_,H8,I9,r8,q8⟩
 | brk =>
  obtain ⟨σ8,H8,I8,q8⟩ := h8
  exact (I8.unhcx I.ok).goes hN hi hlo fun s9 I9 => ⟨_,H8,I9,q8⟩
 | cont =>
  obtain ⟨σ8,H8,I8,q8⟩ := h8
  exact (I8.unhcx I.ok).goes hN hi hlo fun s9 I9 => ⟨_,H8,I9,q8⟩
end
end L2
set_option Elab.async false
set_option linter.all false
set_option maxRecDepth 100000
set_option maxHeartbeats 4000000
namespace L2
open PySem PySem.Spec PyProof.Rows
section
variable {X : Cx} {a b c d : Expr} {ta tb tc td : TE} {pos : Pos}
end
section
variable {X : Cx}
end
end L2
set_option Elab.async false
set_option linter.all false
set_option maxRecDepth 100000
set_option maxHeartbeats 4000000
namespace L2
open PySem PySem.Spec PyProof.Rows
theorem csR {X : Cx} {scope sc : Scope} {NL N N' : List Str} {ρ : List Nat} (hsc : X.env.scope = sc) (hN : X.N = N) (h1 : scope.kind = .function) (h2 : (scope.names.all fun x => x.2 != .cell) = true) (h3 : ∀ x ∈ scope.names,x.2 = .local → scope.names.lookup x.1 = some .local)
  (h4 : (scope.names.all fun x => x.2 != .free || sc.names.lookup x.1 == some .cell) = true) (h5 : N' = NL ++ ρ.map fun j => N.getD j "")
  (h6 : (ρ.all fun j => match N[j]? with | some x => scope.names.lookup x == some .free && sc.names.lookup x == some .cell | none => false) = true) : CScope X scope NL ρ N' := by
 rw [List.all_eq_true] at h2 h4 h6
 refine ⟨h1,fun x hx e => ?_,h3,fun x hx e => .inl ?_,by rw [hN]; exact h5,fun j hj => ?_⟩
 ·have := h2 x hx
  rw [e] at this
  exact absurd this (by decide)
 ·have z := h4 x hx
  rw [e] at z
  have z2 : (sc.names.lookup x.1 == some NameKind.cell) = true := by simpa using z
  show X.env.scope.names.lookup x.1 = some .cell
  rw [hsc]
  exact beq_iff_eq.mp z2
 ·have z := h6 j hj
  cases q : N[j]? with
  | none => rw [q] at z; cases z
  | some x =>
   rw [q] at z
   simp only [Bool.and_eq_true,beq_iff_eq] at z
   exact ⟨x,by rw [hN]; exact q,z.1,.inl (by rw [hsc]; exact z.2)⟩
theorem bootVE : bootBuiltins "ValueError" = some (.type "ValueError") := by decide +kernel
end L2
set_option Elab.async false
set_option linter.all false
set_option maxRecDepth 100000
set_option maxHeartbeats 4000000
namespace L2
open PySem PySem.Spec PyProof.Rows
structure RoomH (k : Nat) (A : Around) : Prop where
 dp : A.depth + 3 * k + 5 < recursionLimit
 un : A.units + 16 * k + 200 < cLine
structure FnOkH (P : Program) (w : World) (K : PySem.W.Frag) (mg : Str → Option Value) (base : Heap) (k : Nat) (f : Addr) (fd : FuncData) (ps : List Str) (sp : Sp) : Prop where
 len : ∀ vs H Q E,sp vs H Q E → vs.length = ps.length
 run : ∀ (A : Around) (outer : List Env) (s : Shared) (H : Hp) (args : Args) (us : List Value) (vs : List V) (Q : VK) (E : XK),RoomH k A → Env0 P w K mg base A outer s H → BindsTo s fd args (ps.zip us) → Vals vs us → sp vs H Q E →
  codeAny (model P w) A (.call (.ref f) args) (CR CX0 outer P w H s Q E) s
section
variable {X : Cx}
end
end L2
set_option Elab.async false
set_option linter.all false
set_option maxRecDepth 100000
set_option maxHeartbeats 4000000
namespace HT
open PySem PySem.Spec PyProof.Rows
section
variable {prog : Program} {w : World} {A : Around} {E : Value → Shared → Prop} {s : Shared}
theorem cat_nil {t b : Addr} {ws : List Value} {Q : Value → Shared → Prop} (ht : IsTup s.heap t ([] : List Value).toArray) (hb : IsTup s.heap b ws.toArray) (h : Q (.ref b) s) : wpAny (model prog w) A (binaryOp .Add (.ref t) (.ref b)) Q E s := by
 obtain ⟨⟨cls,dd,data,sl⟩,ho,hc,n,hd⟩ := id ht
 obtain ⟨⟨cls2,dd2,data2,sl2⟩,ho2,hc2,n2,hd2⟩ := id hb
 simp only at hc hd hc2 hd2
 subst hc hd hc2 hd2
 exact concat_meets ⟨_,ho,rfl⟩ ⟨_,ho2,rfl⟩ noFill_tuple_add seq_tuple_add PySem.F.slot_tuple_add PySem.F.entry_tuple_add (PySem.F.args_tuple_add_2 _ _) (tuple_addW0 t b _ ws.toArray n n2 dd dd2 sl sl2 (by rfl)) ⟨ho,ho2,h⟩
theorem getItem_tuple_all {t sl : Addr} {items : Array Value} {vl vu : Value} {lo hi : Option Int} {Q : Value → Shared → Prop} (ht : IsTup s.heap t items) (hs : s.heap.IsSliceOf sl vl vu .none) (pl : IsPart vl lo) (pu : IsPart vu hi)
  (h1 : sIx items.size 0 lo = 0) (h2 : sIx items.size items.size hi = items.size) (h : Q (.ref t) s) : wpAny (model prog w) A (getItem (.ref t) (.ref sl)) Q E s := by
 obtain ⟨os,hos,hcs,hds⟩ := id hs
 have hTs : s.TypeIs (.ref sl) "slice" := ⟨os,hos,hcs⟩
 unfold getItem
 try with_reducible refine wpAny_holding ?_
 first | refine wpAny_bind (wpAny_pure ?_) | skip
 refine wpAny_bind (wpAny_sequenceKey ht.typeIs (by decide) ?_)
 refine wpAny_bind (wpAny_callSpecial?_slot (name := Str.ofString "__getitem__") ht.typeIs PyProof.Rows.slot_tuple_getitem (wpAny_call_entry PyProof.Rows.slot_tuple_getitem ht.typeIs entry_tuple_getitem ?_ (args_tuple_getitem _ _)))
 show wpAny _ _ (Builtin.Tuple.tupleItemsOf (.ref t) >>= _) _ _ s
 refine wpAny_bind (tupleItemsOf_ ht ?_)
 refine wpAny_bind (wpAny_typeOf hTs ?_)
 rw [if_pos (by decide)]
 refine wpAny_bind (sliceApplied_gen hs pl pu ?_)
 have hyes : (((sIx items.size 0 lo : Nat) : Int) == 0 && (1 : Int) == 1 && (sIx items.size items.size hi - sIx items.size 0 lo) == items.size) = true := by
  rw [h1,h2]; simp
 show wpAny _ _ (if (((sIx items.size 0 lo : Nat) : Int) == 0 && (1 : Int) == 1 && (sIx items.size items.size hi - sIx items.size 0 lo) == items.size) = true then _ else _) _ _ s
 rw [if_pos hyes]
 refine wpAny_bind (m := Builtin.Tuple.tupleIsExact _) (wpAny_bind (wpAny_typeOf ht.typeIs ?_))
 refine wpAny_pure ?_
 rw [if_pos (by decide)]
 exact wpAny_bind (wpAny_rule (wpAny_pure ⟨_,rfl,wpAny_pure h⟩))
end
end HT
namespace L2
open PySem PySem.Spec PyProof.Rows
section
variable {X : Cx}
theorem IsD.unref {K : PySem.W.Frag} {H : Hp} {l : List Dt} {v : V} (h : IsD K H (.tup l) v) : ∃ a xs,v = .ref a ∧ SqT K H a xs ∧ IsDs K H l xs := by
 cases h with
 | tup h r => exact ⟨_,_,rfl,h,r⟩
noncomputable def cutD (l : List Dt) (lo hi : Option Int) : List Dt := (l.drop (HT.sIx l.length 0 lo)).take (HT.sIx l.length l.length hi - HT.sIx l.length 0 lo)
theorem call_lenD : CallR X (.builtin "len") (fun xs H Q => ∃ x l,xs = [x] ∧ IsD X.K H (.tup l) x ∧ Q (.int l.length) H) := by
 intro pins s σ H xs us Q I r h
 obtain ⟨x,l,rfl,dx,q⟩ := h
 obtain ⟨a,ys,rfl,hx,ra⟩ := dx.unref
 exact call_len_seq pins s σ H [.ref a] us Q I r ⟨a,ys,rfl,.inr hx,by rw [← ra.length]; exact q⟩
end
end L2
set_option Elab.async false
set_option linter.all false
set_option maxRecDepth 100000
set_option maxHeartbeats 4000000
namespace PySem
open Sem (wp)
section
variable {M : Model} {A : Around} {E : Value → Shared → Prop} {s : Shared}
end
end PySem
namespace L2
open PySem PySem.Spec PyProof.Rows
section
variable {X : Cx} {E : XK}
variable {pins : List (Addr × Obj)} {σ : St} {H : Hp} {s : Shared}
end
end L2
set_option Elab.async false
set_option linter.all false
set_option maxRecDepth 100000
set_option maxHeartbeats 4000000
namespace L2
open PySem PySem.Spec PyProof.Rows
section
variable {κ : Type} [DecidableEq κ]
noncomputable def valV (kvs : List (κ × V)) (k : κ) : Option V := (kvs.find? fun kv => decide (kv.1 = k)).map (·.2)
noncomputable def putK (kvs : List (κ × V)) (k : κ) (v : V) : List (κ × V) :=
 if (kvs.any fun kv => decide (kv.1 = k)) = true then kvs.map (fun kv => if kv.1 = k then (kv.1,v) else kv) else kvs ++ [(k,v)]
noncomputable def dropK (kvs : List (κ × V)) (k : κ) : List (κ × V) := kvs.filter fun kv => decide (kv.1 ≠ k)
theorem valV_pos {p : κ × V} {r : List (κ × V)} {k : κ} (e : p.1 = k) : valV (p :: r) k = some p.2 := by simp [valV,List.find?_cons,e]
theorem valV_neg {p : κ × V} {r : List (κ × V)} {k : κ} (e : ¬ p.1 = k) : valV (p :: r) k = valV r k := by simp [valV,List.find?_cons,e]
theorem KV.val {kvs : List (κ × V)} {vs : List (κ × Value)} (r : KV kvs vs) (k : κ) : RelO (valV kvs k) (valueAt vs k) := by
 unfold KV at r
 induction r with
 | nil => exact True.intro
 | @cons p q ps qs h t ih =>
  obtain ⟨h1,h2⟩ := h
  by_cases e : p.1 = k
  ·have e' : q.1 = k := h1.symm.trans e
   have b : valueAt (q :: qs) k = some q.2 := by simp [valueAt,List.find?_cons,e']
   rw [valV_pos e,b]; exact h2
  ·have e' : ¬ q.1 = k := fun z => e (h1.trans z)
   have b : valueAt (q :: qs) k = valueAt qs k := by simp [valueAt,List.find?_cons,e']
   rw [valV_neg e,b]; exact ih
theorem KV.keys {kvs : List (κ × V)} {vs : List (κ × Value)} (r : KV kvs vs) : kvs.map (·.1) = vs.map (·.1) := by
 unfold KV at r
 induction r with
 | nil => rfl
 | cons h t ih => rw [List.map_cons,List.map_cons,ih,h.1]
theorem KV.length {kvs : List (κ × V)} {vs : List (κ × Value)} (r : KV kvs vs) : kvs.length = vs.length := Paired.length r
end
theorem kV_is {P : Program} {w : World} {k : Key} {u : Value} (r : RelV (kV k) u) : (mixKind P w).is k u = true := by
 cases k with
 | inl i => obtain ⟨t,e⟩ := (show ∃ t,u = Value.int i t from r); subst e; exact mixKind_int P w i t
 | inr x => obtain ⟨t,e⟩ := (show ∃ t,u = Value.str x t from r); subst e; exact mixKind_str P w x t
theorem items_are {P : Program} {w : World} : ∀ {ks : List Key} {us : List Value},Vals (ks.map kV) us → ItemsAre (mixKind P w) ks us
 | [],_,r => by rw [List.map_nil] at r; cases r; exact .nil
 | k :: ks,_,r => by
  rw [List.map_cons] at r
  cases r with
  | cons h t => exact .cons (kV_is h) (items_are t)
noncomputable abbrev KT (H : Hp) : List (List Key × V) → List (List Key × Addr × Value) → Prop := Paired fun p q => p.1 = q.1 ∧ H q.2.1 = some (.tup (p.1.map kV)) ∧ RelV p.2 q.2.2
theorem KT.val {H : Hp} {kvs : List (List Key × V)} {xs : List (List Key × Addr × Value)} (r : KT H kvs xs) (k : List Key) : RelO (valV kvs k) ((atKey xs k).map (·.2)) := by
 induction r with
 | nil => exact True.intro
 | @cons p q ps qs h t ih =>
  obtain ⟨h1,_,h2⟩ := h
  by_cases e : p.1 = k
  ·have e' : q.1 = k := h1.symm.trans e
   have b : atKey (q :: qs) k = some q.2 := by simp [atKey,List.find?_cons,e']
   rw [valV_pos e,b]; exact h2
  ·have e' : ¬ q.1 = k := fun z => e (h1.trans z)
   have b : atKey (q :: qs) k = atKey qs k := by simp [atKey,List.find?_cons,e']
   rw [valV_neg e,b]; exact ih
section
variable {P : Program} {w : World} {H : Hp} {h : Heap} {a : Addr}
theorem rd_of {u : HO} (ok : HOk P w H h) (e : Rd H a u) : ObjOk P w H h a u := e.ok ok
theorem dk_rd {kvs : List (Key × V)} (ok : HOk P w H h) (e : Rd H a (.dK kvs)) : kvs.length ≤ sizeLine ∧ (a == sysModules) = false ∧ ∃ vs,KV kvs vs ∧ h.DictOf (mixKind P w) a vs :=
 show ObjOk P w H h a (.dK kvs) from rd_of ok e
theorem key_of {ks : List Key} (ok : HOk P w H h) (e : H a = some (.tup (ks.map kV))) : (tupleKind (mixKind P w)).is h ks a := by
 obtain ⟨_,its,r,o,h1,h2,n,h3⟩ := (show ObjOk P w H h a (.tup (ks.map kV)) from ok a _ e)
 exact ⟨o,its.toArray,n,h1,h2,h3,by simpa using items_are r⟩
theorem dt_rd {kvs : List (List Key × V)} (ok : HOk P w H h) (e : Rd H a (.dT kvs)) : kvs.length ≤ sizeLine ∧ (a == sysModules) = false ∧
  ∃ xs,KT H kvs xs ∧ h.DictOfH (tupleKind (mixKind P w)) a xs := by
 obtain ⟨z,y,xs,r,o,es,ep,h1,h2,h3,h4,h5⟩ := (show ObjOk P w H h a (.dT kvs) from rd_of ok e)
 refine ⟨z,y,xs,r,o,es,ep,h1,h2,h3,h4,fun x hx => ?_,h5⟩
 have all : ∀ {l : List (List Key × V)} {m : List (List Key × Addr × Value)},KT H l m → ∀ x ∈ m,(tupleKind (mixKind P w)).is h x.1 x.2.1 := by
  intro l m q
  induction q with
  | nil => intro x hx; exact nomatch hx
  | @cons p q ps qs hq t ih =>
   intro x hx
   rcases List.mem_cons.mp hx with e | hx
   ·subst e
    exact key_of ok (by rw [← hq.1]; exact hq.2.1)
   ·exact ih x hx
 exact all r x hx
end
noncomputable def DGet (H : Hp) (a : Addr) (y : V) (r : Option V) : Prop :=
 (∃ kvs k,Rd H a (.dK kvs) ∧ y = kV k ∧ r = valV kvs k) ∨ ∃ kvs k b,Rd H a (.dT kvs) ∧ y = .ref b ∧ H b = some (.tup (k.map kV)) ∧ r = valV kvs k
noncomputable def DPut (H : Hp) (a : Addr) (y v : V) (H' : Hp) : Prop :=
 (∃ kvs k,H a = some (.dK kvs) ∧ y = kV k ∧ kvs.length < sizeLine ∧ H' = upd H a (.dK (putK kvs k v))) ∨
 ∃ kvs k b,H a = some (.dT kvs) ∧ y = .ref b ∧ H b = some (.tup (k.map kV)) ∧ kvs.length < sizeLine ∧ H' = upd H a (.dT (putK kvs k v))
section
variable {X : Cx} {pins : List (Addr × Obj)} {σ : St} {H : Hp} {s : Shared} {a : Addr} {y v : V} {u r : Value} {o : Option V} {A : Around} {E : Value → Shared → Prop}
theorem Inv.big (I : Inv X pins σ H s) : sysModules < s.heap.objs.size := by
 have h : mainGlobals < s.heap.objs.size := (I.mod.glob.keeps I.bk).lt
 exact Nat.lt_trans (by decide) h
theorem d_getItem {Q : Value → Shared → Prop} (hu : A.units + 1 < cLine) (I : Inv X pins σ H s) (g : DGet H a y (some v)) (ry : RelV y u) (h : ∀ w' s',Inv X pins σ H s' → RelV v w' → Q w' s') :
  wpAny (model X.prog X.w) A (getItem (.ref a) u) Q E s := by
 rcases g with ⟨kvs,k,e,ey,l⟩ | ⟨kvs,k,b,e,ey,eb,l⟩
 ·subst ey
  obtain ⟨z,hd,vs,rel,dd⟩ := dk_rd I.hok e
  obtain ⟨w',hw,rw'⟩ := RelO.some_of (v := v) (o := valueAt vs k) (by rw [l]; exact rel.val k)
  exact wpAny_getItem_of (kV_is ry) dd.mapOf hw (h w' _ (I.tok _) rw')
 ·subst ey
  cases (show u = Value.ref b from ry)
  obtain ⟨z,hd,xs,rel,dd⟩ := dt_rd I.hok e
  obtain ⟨w',hw,rw'⟩ := RelO.some_of (v := v) (o := (atKey xs k).map (·.2)) (by rw [l]; exact rel.val k)
  obtain ⟨p,hp,hp2⟩ := Option.map_eq_some_iff.mp hw
  refine wpAny_getItem_heap (tupleKind_room_in1 hu) (key_of I.hok eb) dd hp ?_
  rw [hp2]
  exact h w' _ (I.tok _) rw'
theorem dk_new {P : Program} {w : World} {H' : Hp} {h' : Heap} {kvs : List (Key × V)} {vs : List (Key × Value)} (z : kvs.length ≤ sizeLine) (hd : (a == sysModules) = false) (rel : KV kvs vs) (dd : h'.DictOf (mixKind P w) a vs) :
  ObjOk P w H' h' a (.dK kvs) := ⟨z,hd,vs,rel,dd⟩
end
section
variable {X : Cx} {pins : List (Addr × Obj)} {σ : St} {H : Hp} {s : Shared} {a : Addr} {kvs : List (Key × V)} {k : Key} {u : Value} {A : Around} {E : Value → Shared → Prop}
end
noncomputable def NoSl (i : Expr) : Prop := ∀ ov iv,subscripted i false ov iv = operate [ov,iv] (getItem ov iv)
theorem subD_of {prog : Program} {w : World} {A : Around} {E : Value → Shared → Prop} {s : Shared} {env : Env} {value slice : Expr} {pos : Pos} {T id : String} {Q : Value → Shared → Prop}
  (hl : typeLookup (.type T) "__getitem__" = pure (some (.builtin id))) (hs : NoSl slice)
  (h : wpAny (model prog w) A (eval value env) (fun o s₁ => wpAny (model prog w) A (eval slice env) (fun i s₂ => s₂.TypeIs o T ∧ wpAny (model prog w) A (getItem o i) Q E s₂) E s₁) E s) :
  wpAny (model prog w) A (eval (.Subscript value slice pos) env) Q E s := by
 refine Subscript_ (wpAny_mono h (fun o s₁ h₁ => wpAny_mono h₁ (fun i s₂ h₂ => ?_) fun _ _ x => x) fun _ _ x => x)
 obtain ⟨hT,h₂⟩ := h₂
 unfold subscriptTail
 refine wpAny_bind ?_
 rw [getitemInPython_of_ne hT.not_modules]
 refine wpAny_bind (wpAny_specialOf hT hl ?_)
 have fin : wpAny (model prog w) A (subscripted slice false o i) (fun r s₃ => wpAny (model prog w) A (letTemporaryGo value o r >>= fun _ => pure r) Q E s₃) E s₂ := by
  rw [hs o i]
  exact wpAny_operating (wpAny_mono h₂ (fun r s₃ h₃ => wpAny_bind (wpAny_letTemporaryGo (wpAny_pure h₃))) fun _ _ x => x)
 first
  | exact wpAny_pure (wpAny_bind fin)
  | exact wpAny_bind (wpAny_pure (wpAny_bind fin))
  | exact wpAny_bind fin
theorem dict_typeIs {X : Cx} {pins : List (Addr × Obj)} {σ : St} {H : Hp} {s : Shared} {a : Addr} {y : V} {o : Option V} (I : Inv X pins σ H s) (g : DGet H a y o) : s.TypeIs (.ref a) "dict" := by
 rcases g with ⟨kvs,k,e,_,_⟩ | ⟨kvs,k,b,e,_,_,_⟩
 ·obtain ⟨_,_,vs,_,dd⟩ := dk_rd I.hok e
  exact dd.typeIs
 ·obtain ⟨_,_,xs,_,dd⟩ := dt_rd I.hok e
  exact dd.typeIs
noncomputable def tDGet (td ty : TE) : TE := fun σ H Q => td σ H fun x H1 => ty σ H1 fun y H2 => ∃ a v,x = .ref a ∧ DGet H2 a y (some v) ∧ Q v H2
section
variable {X : Cx} {o i e value : Expr} {pos pos' tpos : Pos} {td ty tv : TE}
theorem pe_dget (hu : X.A.units + 1 < cLine) (ho : PE X o td) (hi : PE X i ty) (hs : NoSl i) : PE X (.Subscript o i pos) (tDGet td ty) := by
 intro pins s σ H Q I h
 refine subD_of PySem.F.slot_dict_getitem.lookup hs (thn (ho pins s σ H _ I h) fun u s1 ⟨x,H1,I1,rx,q1⟩ => thn (hi pins s1 σ H1 _ I1 q1) fun iv s2 ⟨y,H2,I2,ry,a,v,ex,g,q2⟩ => ?_)
 subst ex
 obtain rfl : u = Value.ref a := rx
 exact ⟨dict_typeIs I2 g,d_getItem hu I2 g ry fun w' s3 I3 rw' => ⟨v,H2,I3,rw',q2⟩⟩
end
section
variable {X : Cx} {pos : Pos}
end
section
variable {X : Cx} {pins : List (Addr × Obj)} {σ : St} {H : Hp} {s : Shared} {a : Addr} {y d : V} {u r : Value} {o : Option V} {A : Around} {E : Value → Shared → Prop}
end
section
variable {X : Cx} {o e f : Expr} {apos cpos : Pos} {td ty tx : TE}
end
section
variable {X : Cx} {pins : List (Addr × Obj)} {σ : St} {H : Hp} {s : Shared} {a : Addr} {kvs : List (Key × V)} {A : Around} {E : Value → Shared → Prop}
end
section
variable {X : Cx} {pins : List (Addr × Obj)} {σ : St} {H : Hp} {s : Shared} {a : Addr} {y : V} {u : Value} {A : Around} {E : Value → Shared → Prop}
end
end L2
set_option Elab.async false
set_option linter.all false
set_option maxRecDepth 100000
set_option maxHeartbeats 4000000
namespace PySem
open Sem (wp)
namespace F
theorem entry_dict_update_loop : entryFor table "dict.update.loop" = some Builtin.«dict.update.loop» := entryFor_of_tree (by kernel_rfl)
theorem plain_dict_update_loop : plainId "dict.update.loop" = true := by decide +kernel
theorem miss_keys_tuple : typeLookup (.type "tuple") "keys" = pure none := by rw [typeLookup_type,builtinLookup_eq_fast]; kernel_rfl
end F
theorem keys_none_tuple {prog : Program} {w : World} {A : Around} {E : Value → Shared → Prop} {s : Shared} {a : Addr} {o : Obj} {xs : Array Value} {k : Nat} {Q : Option Value → Shared → Prop}
  (hx : s.heap.get? a = some o) (hc : o.cls = .type "tuple") (hdat : o.data = .seq xs k) (hd : o.dict = none) (hA : A.handled = none)
  (h : ∀ h' tk e,Heap.NewExcOf s.heap h' e "AttributeError" → Q none { s with heap := h',toks := tk }) :
  wpAny (model prog w) A (getAttr? (.ref a) "keys") Q E s := by
 obtain ⟨c,dct,dat,sl⟩ := o
 simp only at hc hdat hd
 subst hc hdat hd
 obtain ⟨hp,g,d,tk,os⟩ := s
 have hT : ∀ tk',(⟨hp,g,d,tk',os⟩ : Shared).TypeIs (.ref a) "tuple" := fun _ => ⟨_,hx,rfl⟩
 have f1 := sub_AttributeError
 have f3 := F.slot_tuple_getattribute.lookup
 have f4 := F.slot_tuple_getattribute.bind (.ref a)
 have f5 := am_tuple_getattr_none
 unfold getAttr? getAttrBy? getAttrBy
 repeat (any_goals (first | assumption | exact hT _ | ((with_reducible show wpAny _ _ (call (Value.builtin "tuple.__getattribute__") _ _) _ _ _); refine call_meets F.slot_tuple_getattribute (hT _) am_entry_tuple_getattribute (F.args_tuple_getattribute_2 _ _) (meets_getattribute_miss_tuple a xs k sl "keys" _ F.miss_keys_tuple (by decide)) ⟨hx,hA,fun h' tk' e hx' => ?_⟩) | wp_step))
 obtain ⟨t',u',he⟩ := hx'.there
 show wpAny _ _ (getattributeRaised _ _ _ _ _ _ _) _ _ _
 unfold getattributeRaised
 repeat (any_goals (first | assumption | wp_step))
 all_goals exact h _ _ _ hx'.of
end PySem
set_option Elab.async false
set_option linter.all false
set_option maxRecDepth 100000
set_option maxHeartbeats 4000000
namespace PySem
open Sem (wp)
section
variable {prog : Program} {w : World} {K : Type} [DecidableEq K] {knd : KeyKind prog w K} {A : Around} {E : Value → Shared → Prop}
noncomputable def Heap.PairItems (h : Heap) (knd : KeyKind prog w K) (items : Array Value) (kvs : List (K × Value)) : Prop :=
 items.size = kvs.length ∧ ∀ (i : Nat) (kv : K × Value),kvs[i]? = some kv → ∃ (a : Addr) (key : Value),items[i]? = some (.ref a) ∧ h.IsTuple a #[key,kv.2] ∧ knd.is kv.1 key = true
theorem Heap.PairItems.stay {h h' : Heap} {items : Array Value} {kvs : List (K × Value)} (x : h.PairItems knd items kvs) (k : ∀ (i : Nat) (a : Addr) (o : Obj),items[i]? = some (.ref a) → h.get? a = some o → h'.get? a = some o) : h'.PairItems knd items kvs :=
 ⟨x.1,fun i kv e => by
  obtain ⟨a,key,e1,⟨o,e2,r⟩,e3⟩ := x.2 i kv e
  exact ⟨a,key,e1,⟨o,k i a o e1 e2,r⟩,e3⟩⟩
theorem codeAny_dict_loop {t it d : Addr} {items : Array Value} {kvs : List (K × Value)} {R : Result → Shared → Prop} (hh : A.handled = none) (hdt : t ≠ d) (hit : t ≠ it) (hdi : d ≠ it) (hav : ∀ (i : Nat) (a : Addr),items[i]? = some (.ref a) → a ≠ d ∧ a ≠ it) (hsz : kvs.length + kvs.length ≤ sizeLine) :
  ∀ (n i : Nat) (s : Shared) (acc : List (K × Value)),kvs.length - i = n → i ≤ kvs.length → acc.length ≤ i → s.heap.IsTuple t items → s.heap.PairItems knd items kvs → s.heap.IsTupleIter it t i → s.heap.DictOf knd d acc →
   (∀ h' tk,h'.DictOf knd d (merged acc (kvs.drop i)) → (∀ b o,b ≠ d → b ≠ it → s.heap.get? b = some o → h'.get? b = some o) → R (.ok (.ret .none)) { s with heap := h',toks := tk }) →
   codeAny (model prog w) A (.builtin "dict.update.loop" ⟨[.ref d,.ref it,rawInt i,.none],[]⟩) R s := by
 intro n
 induction n with
 | zero =>
  intro i s acc hn hi ha ht hp hs hd hR
  have e : i = kvs.length := by lia
  refine codeAny_builtin F.entry_dict_update_loop ?_
  rw [Around.under_plainId F.plain_dict_update_loop _]
  show wpAny _ A.in1 (pyNext (.ref it) >>= _) _ _ s
  refine wpAny_bind (wpAny_pyNext_tuple_end (by first | exact hh | simpa using hh) hs ht (by rw [e,← hp.1]; simp) fun h' eb => ?_)
  show wpAny _ _ (Builtin.Dict.addKeywords d [] >>= _) _ _ _
  have hd' : h'.DictOf knd d acc := by
   obtain ⟨o,es,ep,ho,r⟩ := hd
   exact ⟨o,es,ep,eb d o hdi ho,r⟩
  have q := hR h' s.toks (by rw [e,List.drop_length]; exact hd') fun b o _ hb z => eb b o hb z
  exact wpAny_bind (wpAny_pure (wpAny_pure q))
 | succ n ih =>
  intro i s acc hn hi ha ht hp hs hd hR
  have hlt : i < kvs.length := by lia
  obtain ⟨kv,hkv⟩ : ∃ kv,kvs[i]? = some kv := ⟨_,List.getElem?_eq_getElem hlt⟩
  obtain ⟨a,key,hx,hpair,hkey⟩ := hp.2 i kv hkv
  refine codeAny_builtin F.entry_dict_update_loop ?_
  rw [Around.under_plainId F.plain_dict_update_loop _]
  show wpAny _ A.in1 (pyNext (.ref it) >>= _) _ _ s
  refine wpAny_bind (wpAny_pyNext_tuple_item hs ht hx fun h1 hs1 sb => ?_)
  obtain ⟨av1,av2⟩ := hav i a hx
  have keep1 : ∀ b o,b ≠ it → s.heap.get? b = some o → h1.get? b = some o := fun b o hb z => (sb.2 b hb).trans z
  obtain ⟨po,pe,pc,pn,pd⟩ := hpair
  have pe1 := keep1 a po av2 pe
  have hd1 : h1.DictOf knd d acc := by
   obtain ⟨o,es,ep,ho,r⟩ := hd
   exact ⟨o,es,ep,keep1 d o hdi ho,r⟩
  refine wpAny_bind (wpAny_holding ?_)
  refine wpAny_bind (wpAny_tryCatch ?_)
  unfold Builtin.Dict.pairItems
  refine wpAny_bind (wpAny_typeOf (T := "tuple") ⟨_,pe1,pc⟩ ?_)
  rw [if_pos (by decide)]
  refine wpAny_bind (wpAny_seqItems pe1 pd ?_)
  refine wpAny_pure ?_
  show wpAny _ _ (holding [key,kv.2] (dictSet d key kv.2)) _ _ _
  refine wpAny_holding (wpAny_dictSet_pairs (s := { s with heap := h1 }) hkey hd1 (fun h2 hd2 sb2 => ?_) (by lia))
  refine wpAny_pure ⟨plainId_quiet F.plain_dict_update_loop _,?_⟩
  have keep2 : ∀ b o,b ≠ d → b ≠ it → s.heap.get? b = some o → h2.get? b = some o := fun b o hb hb' z => (sb2.2 b hb).trans (keep1 b o hb' z)
  have hlen : (stored acc kv.1 kv.2).length ≤ i + 1 := by have := stored_length_le acc kv.1 kv.2; lia
  have ht2 : h2.IsTuple t items := by
   obtain ⟨o,ho,r⟩ := ht
   exact ⟨o,keep2 t o hdt hit ho,r⟩
  have hs2 : h2.IsTupleIter it t (i + 1) := by
   obtain ⟨o,ho,r⟩ := hs1
   exact ⟨o,(sb2.2 it (Ne.symm hdi)).trans ho,r⟩
  have e : rawInt ((i : Int) + 1) = rawInt ((i + 1 : Nat) : Int) := by rw [Int.natCast_add]; rfl
  show codeAny _ _ (.builtin "dict.update.loop" ⟨[.ref d,.ref it,rawInt ((i : Int) + 1),.none],[]⟩) _ _
  rw [e]
  refine ih (i + 1) { s with heap := h2,toks := s.toks + 1 } (stored acc kv.1 kv.2) (by lia) hlt hlen ht2 (hp.stay fun j b o z z2 => keep2 b o (hav j b z).1 (hav j b z).2 z2) hs2 hd2 fun h' tk hd' k' => ?_
  have q := hR h' tk (by
   have z : kvs.drop i = kv :: kvs.drop (i + 1) := by
    rw [List.drop_eq_getElem_cons hlt]
    rw [List.getElem?_eq_getElem hlt] at hkv
    rw [Option.some.inj hkv]
   rw [z]
   exact hd') fun b o hb hb' z => k' b o hb hb' (keep2 b o hb hb' z)
  exact q
theorem call_dict_pairs {s : Shared} {t : Addr} {o : Obj} {items : Array Value} {n : Nat} {kvs : List (K × Value)} {Q : Value → Shared → Prop} (hh : A.handled = none) (ho : s.heap.get? t = some o) (hc : o.cls = .type "tuple") (hdat : o.data = .seq items n) (hd : o.dict = none)
  (hp : s.heap.PairItems knd items kvs) (hsz : kvs.length + kvs.length ≤ sizeLine)
  (h : ∀ h' tk,h'.DictOf knd s.heap.objs.size (merged [] kvs) → (∀ b o,s.heap.get? b = some o → h'.get? b = some o) → Q (.ref s.heap.objs.size) { s with heap := h',toks := tk }) :
  wpAny (model prog w) A (call (.type "dict") [.ref t]) Q E s := by
 refine callType_codes (Q₁ := fun obj s₁ => obj = .ref s.heap.objs.size ∧ s₁ = { s with heap := s.heap.push { cls := .type "dict",data := .dict #[] } }) F.kt_called_dict (F.kt_typeCall_dict_1 _) F.entry_dict_init (kt_code_dict_new _ ⟨rfl,rfl⟩) ?_
 rintro obj s₁ ⟨rfl,rfl⟩
 have hnew : (s.heap.push { cls := .type "dict",data := .dict #[] }).DictOf knd s.heap.objs.size [] := Heap.DictOf.new s.heap
 have ho1 : (s.heap.push { cls := .type "dict",data := .dict #[] }).get? t = some o := Heap.get?_push_of_some _ ho
 have htl : t < s.heap.objs.size := Heap.lt_size ho
 refine ⟨hnew.typeIs,F.args_dict_init_2 _ _,?_⟩
 unfold Builtin.«dict.__init__»
 refine wpAny_bind ?_
 unfold Builtin.Dict.selfAndRest
 refine wpAny_bind (wpAny_notOrdered_dict hnew.typeIs ?_)
 show wpAny _ _ (pure (s.heap.objs.size,[Value.ref t])) _ _ _
 refine wpAny_pure ?_
 show wpAny _ _ (Builtin.Dict.updateFrom "dict.__init__" s.heap.objs.size (.ref t) [] .none) _ _ _
 unfold Builtin.Dict.updateFrom
 refine wpAny_bind (wpAny_typeOf (T := "tuple") ⟨_,ho1,hc⟩ ?_)
 rw [if_pos (by decide)]
 refine wpAny_bind (keys_none_tuple ho1 hc hdat hd (by first | exact hh | simpa using hh) fun h1 tk1 e hx => ?_)
 rw [if_pos (by rfl)]
 refine wpAny_bind (wpAny_rule ?_)
 have kp1 : ∀ b o,(s.heap.push { cls := .type "dict",data := .dict #[] }).get? b = some o → h1.get? b = some o := fun b o z => hx.keeps b o z
 have ht1 : h1.IsTuple t items := ⟨o,kp1 t o ho1,hc,n,hdat⟩
 refine wpAny_bind (wpAny_pyIter_tuple ht1 ?_)
 have hit : s.heap.objs.size < h1.objs.size := by
  obtain ⟨o2,es,ep,ho2,_⟩ := hnew
  exact Heap.lt_size (kp1 _ _ ho2)
 have kp0 : ∀ b o,s.heap.get? b = some o → h1.get? b = some o := fun b o z => kp1 b o (Heap.get?_push_of_some _ z)
 refine wpAny_pure ⟨plainId_quiet F.plain_dict_update_loop _,?_⟩
 refine codeAny_dict_loop (knd := knd) (t := t) (items := items) (kvs := kvs) (by first | exact hh | simpa using hh) (Nat.ne_of_lt htl) (Nat.ne_of_lt (Nat.lt_trans htl hit)) (Nat.ne_of_lt hit) (fun i a z => ?_) hsz kvs.length 0 _ [] (by lia) (Nat.zero_le _) (Nat.le_refl _)
  ⟨o,Heap.get?_push_of_some _ (kp1 t o ho1),hc,n,hdat⟩ (hp.stay fun i a o2 _ z => Heap.get?_push_of_some _ (kp0 a o2 z)) ⟨_,Heap.get?_push_size _ rfl,rfl,rfl⟩ ?_ fun h' tk hd' k' => ⟨rfl,?_⟩
 ·have hi : i < kvs.length := by
   rw [← hp.1]
   exact (Array.getElem?_eq_some_iff.mp z).1
  obtain ⟨b,key,e1,⟨ob,e2,_⟩,_⟩ := hp.2 i _ (List.getElem?_eq_getElem hi)
  rw [z] at e1
  have e3 : a = b := by injection (Option.some.inj e1)
  subst e3
  have := Heap.lt_size e2
  exact ⟨Nat.ne_of_lt this,Nat.ne_of_lt (Nat.lt_trans this hit)⟩
 ·obtain ⟨o2,es,ep,ho2,r⟩ := hnew
  exact ⟨o2,es,ep,Heap.get?_push_of_some _ (kp1 _ _ ho2),r⟩
 ·refine h h' tk hd' fun b ob z => k' b ob (Nat.ne_of_lt (Heap.lt_size z)) (Nat.ne_of_lt (Nat.lt_trans (Heap.lt_size z) hit)) (Heap.get?_push_of_some _ (kp0 b ob z))
end
end PySem
set_option Elab.async false
set_option linter.all false
set_option maxRecDepth 100000
set_option maxHeartbeats 4000000
namespace L2
open PySem PySem.Spec PyProof.Rows
noncomputable def Pl (H : Hp) (a : Addr) : Prop := ∃ o u,H a = some (.frz o u) ∧ o.dict = none
mutual
inductive IsP (K : PySem.W.Frag) (H : Hp) : Dt → V → Prop
 | non : IsP K H .non .non
 | bl {b} : IsP K H (.bl b) (.bl b)
 | int {i} : IsP K H (.int i) (.int i)
 | str {z} : IsP K H (.str z) (.str z)
 | tup {l : List Dt} {a : Addr} {xs : List V} : SqT K H a xs → Pl H a → IsPs K H l xs → IsP K H (.tup l) (.ref a)
inductive IsPs (K : PySem.W.Frag) (H : Hp) : List Dt → List V → Prop
 | nil : IsPs K H [] []
 | cons {d : Dt} {l : List Dt} {x : V} {xs : List V} : IsP K H d x → IsPs K H l xs → IsPs K H (d :: l) (x :: xs)
end
section
variable {K : PySem.W.Frag} {H H' : Hp}
mutual
theorem IsP.d : ∀ {d : Dt} {v : V},IsP K H d v → IsD K H d v
 | _,_,.non => .non
 | _,_,.bl => .bl
 | _,_,.int => .int
 | _,_,.str => .str
 | _,_,.tup h _ r => .tup h (IsPs.d r)
theorem IsPs.d : ∀ {l : List Dt} {xs : List V},IsPs K H l xs → IsDs K H l xs
 | _,_,.nil => .nil
 | _,_,.cons h r => .cons (IsP.d h) (IsPs.d r)
end
theorem Pl.same {a : Addr} (g : Same H H') (h : Pl H a) : Pl H' a := by
 obtain ⟨o,u,e,d⟩ := h
 exact ⟨o,u,g _ _ e,d⟩
theorem Pl.but {a r : Addr} {ys : List V} (hr : H r = some (.lst ys)) (g : But r H H') (h : Pl H a) : Pl H' a := by
 obtain ⟨o,u,e,d⟩ := h
 exact ⟨o,u,g _ _ (ne_of e hr (by intro z; cases z)) e,d⟩
mutual
theorem IsP.same (g : Same H H') : ∀ {d : Dt} {v : V},IsP K H d v → IsP K H' d v
 | _,_,.non => .non
 | _,_,.bl => .bl
 | _,_,.int => .int
 | _,_,.str => .str
 | _,_,.tup h p r => .tup (g.tup h) (p.same g) (IsPs.same g r)
theorem IsPs.same (g : Same H H') : ∀ {l : List Dt} {xs : List V},IsPs K H l xs → IsPs K H' l xs
 | _,_,.nil => .nil
 | _,_,.cons h r => .cons (IsP.same g h) (IsPs.same g r)
end
mutual
theorem IsP.but {r : Addr} {ys : List V} (hr : H r = some (.lst ys)) (g : But r H H') : ∀ {d : Dt} {v : V},IsP K H d v → IsP K H' d v
 | _,_,.non => .non
 | _,_,.bl => .bl
 | _,_,.int => .int
 | _,_,.str => .str
 | _,_,.tup h p q => .tup (by
   rcases sqT_ne hr h with n | n
   ·exact g.tup n h
   ·exact n _) (p.but hr g) (IsPs.but hr g q)
theorem IsPs.but {r : Addr} {ys : List V} (hr : H r = some (.lst ys)) (g : But r H H') : ∀ {l : List Dt} {xs : List V},IsPs K H l xs → IsPs K H' l xs
 | _,_,.nil => .nil
 | _,_,.cons h q => .cons (IsP.but hr g h) (IsPs.but hr g q)
end
theorem IsPs.length {l : List Dt} {xs : List V} (h : IsPs K H l xs) : l.length = xs.length := h.d.length
theorem IsPs.get {l : List Dt} {xs : List V} (h : IsPs K H l xs) {i : Nat} {d : Dt} (e : l[i]? = some d) : ∃ x,xs[i]? = some x ∧ IsP K H d x := by
 induction l generalizing xs i with
 | nil => simp at e
 | cons c l ih =>
  cases h with
  | cons h r =>
   cases i with
   | zero => simp at e; subst e; exact ⟨_,rfl,h⟩
   | succ i => exact ih r (by simpa using e)
theorem IsPs.get' {l : List Dt} {xs : List V} (h : IsPs K H l xs) {i : Nat} {x : V} (e : xs[i]? = some x) : ∃ d,l[i]? = some d ∧ IsP K H d x := by
 induction l generalizing xs i with
 | nil => cases h; simp at e
 | cons c l ih =>
  cases h with
  | cons h r =>
   cases i with
   | zero => simp at e; subst e; exact ⟨_,rfl,h⟩
   | succ i => exact ih r (by simpa using e)
theorem IsPs.append {l m : List Dt} {xs ys : List V} (h : IsPs K H l xs) (h' : IsPs K H m ys) : IsPs K H (l ++ m) (xs ++ ys) := by
 induction l generalizing xs with
 | nil => cases h; exact h'
 | cons d l ih => cases h with | cons h r => exact .cons h (ih r)
theorem IsPs.drop : ∀ {l : List Dt} {xs : List V} (n : Nat),IsPs K H l xs → IsPs K H (l.drop n) (xs.drop n)
 | _,_,0,h => h
 | _,_,_ + 1,.nil => .nil
 | _,_,n + 1,.cons _ r => IsPs.drop n r
theorem IsPs.take : ∀ {l : List Dt} {xs : List V} (n : Nat),IsPs K H l xs → IsPs K H (l.take n) (xs.take n)
 | _,_,0,_ => .nil
 | _,_,_ + 1,.nil => .nil
 | _,_,n + 1,.cons h r => .cons h (IsPs.take n r)
theorem IsP.unref {l : List Dt} {v : V} (h : IsP K H (.tup l) v) : ∃ a xs,v = .ref a ∧ SqT K H a xs ∧ Pl H a ∧ IsPs K H l xs := by
 cases h with
 | tup h p r => exact ⟨_,_,rfl,h,p,r⟩
end
noncomputable def plO (xs : List V) (us : List Value) : HO := .frz { cls := .type "tuple",data := .seq us.toArray } (.tup xs)
section
variable {X : Cx} {pins : List (Addr × Obj)} {σ : St} {H : Hp} {s : Shared}
theorem Inv.plain {xs : List V} {us : List Value} {t' : Nat} (I : Inv X pins σ H s) (r : Vals xs us) (z : xs.length ≤ sizeLine) :
  Inv X pins σ (upd H s.heap.objs.size (plO xs us)) { s with heap := s.heap.push { cls := .type "tuple",data := .seq us.toArray },toks := t' } ∧ H s.heap.objs.size = none :=
 ⟨I.laid (t' := t') (fun b ob q => Heap.get?_push_of_some _ q) (Nat.le_refl _) ⟨Heap.get?_push_size _ rfl,z,us,r,IsTup.new _ _⟩,I.hok.fresh (Nat.le_refl _)⟩
theorem plain_is {p : Addr} {l : List Dt} {xs : List V} {us : List Value} (hf : H p = none) (d : IsPs X.K H l xs) : Same H (upd H p (plO xs us)) ∧ IsP X.K (upd H p (plO xs us)) (.tup l) (.ref p) :=
 ⟨same_new hf _,.tup (.inl (.inr ⟨_,upd_same⟩)) ⟨_,_,upd_same,rfl⟩ (d.same (same_new hf _))⟩
variable {e : Expr} {es : List Expr} {t : TA} {pos : Pos}
inductive ITup (K : PySem.W.Frag) (xs : List V) (H1 : Hp) (Q : VK) : Prop
 | mk (l : List Dt) : (IsPs K H1 l xs) → (xs.length ≤ sizeLine) → (∀ v H',Same H1 H' → IsP K H' (.tup l) v → Q v H') → ITup K xs H1 Q
noncomputable def tTupP (K : PySem.W.Frag) (t : TA) : TE := fun σ H Q => t σ H fun xs H1 => ITup K xs H1 Q
theorem pe_tupP {x1} (h : PA X es t) : PE X (.Tuple es x1 pos) (tTupP X.K t) := by
 intro pins s σ H Q I hq
 refine wpAny_Tuple_spliced (thn (h pos pins s σ H _ I hq) fun us s1 ⟨xs,H1,I1,r,l,d,z,q⟩ => ⟨by rw [← r.length]; exact z,?_⟩)
 obtain ⟨I2,hf⟩ := I1.plain (t' := s1.toks) r z
 obtain ⟨g,dp⟩ := plain_is (X := X) (us := us) hf d
 exact ⟨.ref s1.heap.objs.size,_,I2,rfl,q _ _ g dp⟩
theorem call_tupleP : CallR X (.type "tuple") (fun xs H Q => ∃ p ys l,xs = [.ref p] ∧ SqL X.K H p ys ∧ IsPs X.K H l ys ∧ ∀ v H',Same H H' → IsP X.K H' (.tup l) v → Q v H') := by
 intro pins s σ H xs us Q I r h
 obtain ⟨p,ys,l,rfl,hq,d,q⟩ := h
 obtain ⟨u,rfl,rx⟩ := vals1 r
 cases rx
 obtain ⟨its,r',pl,hz⟩ := I.list hq
 have hlen := r'.length
 refine call_tuple_list pl.isList (fun h' kp => ?_) (by simp only [List.size_toArray] <;> lia)
 have I1 : Inv X pins σ H { s with heap := h' } := I.kept (t' := s.toks) kp
 obtain ⟨I2,hf⟩ := I1.plain (t' := s.toks) r' hz
 obtain ⟨g,dp⟩ := plain_is (X := X) (us := its) hf d
 exact ⟨.ref h'.objs.size,_,I2,rfl,q _ _ g dp⟩
theorem op_catP : OpR X (binaryOp .Add) (fun x y H Q => ∃ l m,IsP X.K H (.tup l) x ∧ IsP X.K H (.tup m) y ∧ l.length + m.length ≤ sizeLine ∧ ∀ v H',Same H H' → IsP X.K H' (.tup (l ++ m)) v → Q v H') := by
 intro pins s σ H x y v u Q I rx ry h
 obtain ⟨l,m,dx,dy,hz,q⟩ := h
 obtain ⟨a,xs,rfl,ha,pa,ra⟩ := dx.unref
 obtain ⟨b,ys,rfl,hb,pb,rb⟩ := dy.unref
 cases rx
 cases ry
 obtain ⟨its,r1,p1,_⟩ := I.tuple ha
 obtain ⟨its2,r2,p2,_⟩ := I.tuple hb
 have e1 := ra.length
 have e2 := rb.length
 by_cases hx : xs = []
 ·subst hx
  have hi : its = [] := r1.nil_iff.mpr rfl
  subst hi
  have hl : l = [] := List.length_eq_zero_iff.mp (by rw [e1]; rfl)
  subst hl
  exact HT.cat_nil p1 p2 ⟨.ref b,H,I,rfl,q _ H (Same.refl H) dy⟩
 ·refine HT.cat_tup p1 p2 (fun z => hx (r1.nil_iff.mp z)) (fun z => ?_) (fun z => ?_) (by rw [← r1.length,← r2.length,← e1,← e2]; exact hz)
  ·have hy := r2.nil_iff.mp z
   subst hy
   have hm : m = [] := List.length_eq_zero_iff.mp (by rw [e2]; rfl)
   subst hm
   exact ⟨.ref a,H,I,rfl,q _ H (Same.refl H) (by rw [List.append_nil]; exact dx)⟩
  ·obtain ⟨I2,hf⟩ := I.plain (t' := s.toks) (r1.append r2) (by rw [List.length_append,← e1,← e2]; exact hz)
   obtain ⟨g,dp⟩ := plain_is (X := X) (us := its ++ its2) hf (ra.append rb)
   exact ⟨.ref s.heap.objs.size,_,I2,rfl,q _ _ g dp⟩
theorem sl_tupP : SlR X (fun x lo hi H Q => ∃ l,IsP X.K H (.tup l) x ∧ ∀ v H',Same H H' → IsP X.K H' (.tup (cutD l lo hi)) v → Q v H') := by
 intro pins s σ H x v vl vu lo hi sl Q I rx hs pl pu h
 obtain ⟨l,dx,q⟩ := h
 obtain ⟨a,xs,rfl,hx,pa,ra⟩ := id dx.unref
 cases rx
 have e1 := ra.length
 obtain ⟨its,r,ht,hz⟩ := I.tuple hx
 have hlen : its.toArray.size = xs.length := by rw [List.size_toArray]; exact r.length.symm
 refine ⟨"tuple",_,PyProof.Rows.slot_tuple_getitem.lookup,ht.typeIs,?_⟩
 by_cases hw : HT.sIx xs.length 0 lo = 0 ∧ HT.sIx xs.length xs.length hi = xs.length
 ·refine HT.getItem_tuple_all ht hs pl pu (by rw [hlen]; exact hw.1) (by rw [hlen]; exact hw.2) ⟨.ref a,H,I,rfl,q _ H (Same.refl H) ?_⟩
  have e : cutD l lo hi = l := by
   unfold cutD
   rw [e1,hw.1,hw.2,List.drop_zero,Nat.sub_zero,← e1,List.take_length]
  rw [e]
  exact dx
 ·refine HT.getItem_tuple_cut ht hs pl pu (by rw [hlen]; exact hw) ?_ (by rw [hlen]; exact hz)
  rw [hlen]
  obtain ⟨I2,hf⟩ := I.plain (t' := s.toks) ((r.drop (HT.sIx xs.length 0 lo)).take (HT.sIx xs.length xs.length hi - HT.sIx xs.length 0 lo)) (Nat.le_trans (cutV_length xs lo hi) hz)
  have d2 : IsPs X.K H (cutD l lo hi) (cutV xs lo hi) := by
   unfold cutD cutV
   rw [e1]
   exact (ra.drop _).take _
  obtain ⟨g,dp⟩ := plain_is (X := X) (us := (its.drop (HT.sIx xs.length 0 lo)).take (HT.sIx xs.length xs.length hi - HT.sIx xs.length 0 lo)) hf d2
  exact ⟨.ref s.heap.objs.size,_,I2,rfl,q _ _ g dp⟩
theorem ix_tupP : IxR X (fun x y H Q => ∃ l i d,IsP X.K H (.tup l) x ∧ y = .int i ∧ atI l i = some d ∧ ∀ v,IsP X.K H d v → Q v H) := by
 intro value slice pins s σ H x y v u Q I rx ry h hs
 obtain ⟨l,i,d,dx,rfl,ha,q⟩ := h
 obtain ⟨a,xs,rfl,hx,pa,ra⟩ := id dx.unref
 obtain ⟨j,hj,hd,_⟩ := atI_get ha
 have e1 := ra.length
 obtain ⟨w',hw,dw⟩ := ra.get hd
 have hat : atI xs i = some w' := by
  unfold atI at ha ⊢
  rw [← e1]
  cases z : ixN l.length i with
  | none => rw [z] at ha; cases ha
  | some j' =>
   rw [z] at ha
   have ha' : l[j']? = some d := ha
   obtain ⟨w2,hw2,dw2⟩ := ra.get ha'
   have z2 := ixN_seq z
   rw [hj] at z2
   have : j = j' := Option.some.inj z2.1
   subst this
   exact hw
 exact ix_tup value slice pins s σ H (.ref a) (.int i) v u Q I rx ry ⟨a,xs,i,w',rfl,rfl,hx,hat,q w' dw⟩ hs
theorem op_mulB : OpR X (binaryOp .Mult) (rI IntMulOk fun i j => .int (i * j)) := opI fun _ _ _ _ _ _ _ hc q => mul_int q hc
end
end L2
set_option Elab.async false
set_option linter.all false
set_option maxRecDepth 100000
set_option maxHeartbeats 4000000
namespace L2
open PySem PySem.Spec PyProof.Rows
noncomputable def lookS (fs : List (Str × Dt)) (z : Str) : Option Dt := (fs.find? fun p => decide (p.1 = z)).map (·.2)
noncomputable abbrev prD (p : Str × Dt) : Dt := .tup [.str p.1,p.2]
noncomputable def DicP (K : PySem.W.Frag) (H : Hp) (p : Addr) (fs : List (Str × Dt)) : Prop :=
 ∃ kvs,H p = some (.dK kvs) ∧ ∀ z,(lookS fs z = none → valV kvs (Sum.inr z : Key) = none) ∧ ∀ d,lookS fs z = some d → ∃ v,valV kvs (Sum.inr z : Key) = some v ∧ IsP K H d v
section
variable {X : Cx} {pins : List (Addr × Obj)} {σ : St} {H : Hp} {s : Shared}
theorem pairs_of (I : Inv X pins σ H s) : ∀ {fs : List (Str × Dt)} {xs : List V} {its : List Value},IsPs X.K H (fs.map prD) xs → Vals xs its →
  ∃ (kvs : List (Key × V)) (vs : List (Key × Value)),KV kvs vs ∧ kvs.map (·.1) = fs.map (fun p => Sum.inr p.1) ∧ kvs.length = fs.length ∧
   (∀ z,(lookS fs z = none → valV kvs (Sum.inr z : Key) = none) ∧ ∀ d,lookS fs z = some d → ∃ v,valV kvs (Sum.inr z : Key) = some v ∧ IsP X.K H d v) ∧
   its.length = vs.length ∧ ∀ (i : Nat) (kv : Key × Value),vs[i]? = some kv → ∃ (a : Addr) (key : Value),its[i]? = some (.ref a) ∧ s.heap.IsTuple a #[key,kv.2] ∧ (mixKind X.prog X.w).is kv.1 key = true := by
 intro fs
 induction fs with
 | nil =>
  intro xs its h r
  cases h
  cases r
  exact ⟨[],[],.nil,rfl,rfl,fun z => ⟨fun _ => rfl,fun d q => by cases q⟩,rfl,fun i kv q => by simp at q⟩
 | cons f fs ih =>
  intro xs its h r
  cases h with
  | cons h1 h2 =>
   cases r with
   | cons r1 r2 =>
    obtain ⟨kvs,vs,e1,e2,e3,e4,e5,e6⟩ := ih h2 r2
    obtain ⟨a,ys,rfl,ha,pa,ra⟩ := h1.unref
    cases r1
    obtain ⟨its',r',p',_⟩ := I.tuple ha
    cases ra with
    | cons d1 ra =>
     cases ra with
     | @cons _ _ v _ d2 ra =>
      cases ra
      cases d1
      cases r' with
      | cons q1 r' =>
       cases r' with
       | @cons _ u _ _ q2 r' =>
        cases r'
        obtain ⟨tk,rfl⟩ := q1
        refine ⟨(Sum.inr f.1,v) :: kvs,(Sum.inr f.1,u) :: vs,.cons ⟨rfl,q2⟩ e1,by simp [e2],by simp [e3],fun z => ?_,by simp [e5],fun i kv q => ?_⟩
        ·by_cases hz : f.1 = z
         ·subst hz
          have l1 : lookS (f :: fs) f.1 = some f.2 := by simp [lookS]
          have l2 : valV ((Sum.inr f.1,v) :: kvs) (Sum.inr f.1 : Key) = some v := by simp [valV]
          exact ⟨fun q => (by rw [l1] at q; cases q),fun d q => (by rw [l1] at q; cases q; exact ⟨v,l2,d2⟩)⟩
         ·have l1 : lookS (f :: fs) z = lookS fs z := by simp [lookS,hz]
          have l2 : valV ((Sum.inr f.1,v) :: kvs) (Sum.inr z : Key) = valV kvs (Sum.inr z : Key) := by simp [valV,hz]
          rw [l1,l2]
          exact e4 z
        ·cases i with
         | zero =>
          simp at q
          subst q
          exact ⟨a,_,rfl,p',kV_is (k := Sum.inr f.1) ⟨tk,rfl⟩⟩
         | succ i => exact e6 i kv (by simpa using q)
end
end L2
set_option Elab.async false
set_option linter.all false
set_option maxRecDepth 100000
set_option maxHeartbeats 4000000
namespace PySem
open Sem (wp)
open Builtin
theorem noFill_tuple_mul : fillsNumberSlot (.type "tuple") "mul" = pure false :=
 fillsNumberSlot_seq (id := "tuple.__mul__") (r := some (.builtin "tuple.__rmul__")) F.slot_tuple_mul.lookup (by decide +kernel) F.slot_tuple_rmul.lookup (by decide +kernel)
theorem repeat_tuple : seqRepeat? (.type "tuple") = pure (some (.builtin "tuple.__mul__")) := by
 unfold seqRepeat?
 rw [seqSlot_of (T := "tuple") (name := "__mul__") (id := "tuple.__mul__") F.slot_tuple_mul.lookup (by decide +kernel),seqSlot_of (T := "tuple") (name := "__rmul__") (id := "tuple.__rmul__") F.slot_tuple_rmul.lookup (by decide +kernel)]
 rfl
theorem int___rmul___int_tuple (a : Int) (t : Tok) (l : Addr) (items : Array Value) (n : Nat) (dct : Option Addr) (sl : Array (Option Value)) :
  Meets (Builtin.«int.__rmul__» ⟨[.int a t,.ref l],[]⟩) (fun _ R s => s.heap.get? l = some { cls := .type "tuple",dict := dct,data := .seq items n,slots := sl } ∧ R (.ok (.ret Value.notImplemented)) s) :=
 .of_wp fun prog w A R s h => by obtain ⟨hp,g,d,tk,os⟩ := s; obtain ⟨hl,h⟩ := h; wp_walk; exact ⟨_,rfl,h⟩
section
variable {prog : Program} {w : World} {A : Around} {E : Value → Shared → Prop} {s : Shared}
theorem mul_tup {l : Addr} {items : Array Value} {x : Int} {u : Tok} {Q : Value → Shared → Prop} (ht : s.heap.IsTuple l items) (hne : items.isEmpty = false) (h1 : 1 < x) (h2 : x ≤ 30) (hz : items.size ≤ 30)
  (h : Q (.ref s.heap.objs.size) { s with heap := s.heap.push { cls := .type "tuple",data := .seq ((List.replicate x.toNat items).foldl (· ++ ·) #[]) } }) :
  wpAny (model prog w) A (binaryOp .Mult (.ref l) (.int x u)) Q E s := by
 obtain ⟨⟨cls,dct,dat,sl⟩,ho,hc,n,hd⟩ := ht
 simp only at hc hd
 subst hc hd
 have hT : s.TypeIs (.ref l) "tuple" := ⟨_,ho,rfl⟩
 refine wpAny_binaryOp_repeat_ref (T := "tuple") (U := "int") (by decide) hT (fun s' => typeIs_int s' x u) noFill_tuple_mul F.fills_int_mul F.slot_int_rmul repeat_tuple F.slot_int_index.lookup ?_
 refine call_meets F.slot_int_rmul (typeIs_int s x u) F.entry_int_rmul (F.args_int_rmul_2 _ _) (int___rmul___int_tuple x u l items n dct sl) ⟨ho,rfl,hT,?_⟩
 refine wpAny_call_entry F.slot_tuple_mul hT F.entry_tuple_mul ?_ (F.args_tuple_mul_2 _ _)
 have g1 : (decide (x < -(2 ^ 63)) || decide (x ≥ 2 ^ 63)) = false := by simp; lia
 have g2 : (items.isEmpty || x == 1) = false := by rw [hne]; simp; lia
 have g3 : (decide (x ≤ 0) || items.isEmpty) = false := by rw [hne]; simp; lia
 have g4 : ¬ ((items.size : Int) * x > (2 ^ 63 - 1) / 8) := by
  have q : (items.size : Int) * x ≤ 30 * 30 := Int.mul_le_mul (by lia) h2 (by lia) (by lia)
  lia
 have g5 : Builtin.Tuple.tupleTooMany ((items.size : Int) * x) = false := by
  have q : (items.size : Int) * x ≤ 30 * 30 := Int.mul_le_mul (by lia) h2 (by lia) (by lia)
  have q2 : (900 : Int) ≤ (sizeLine : Int) := by decide
  unfold Builtin.Tuple.tupleTooMany
  simp
  lia
 obtain ⟨hp,g,d,tk,os⟩ := s
 unfold Builtin.«tuple.__mul__»
 repeat (any_goals (first | assumption | wp_step))
 rw [if_neg (by rw [g1]; decide)]
 show wpAny _ _ (Builtin.Tuple.tupleItemsOf (.ref l) >>= _) _ _ _
 refine wpAny_bind ?_
 unfold Builtin.Tuple.tupleItemsOf
 repeat (any_goals (first | assumption | wp_step))
 rw [if_neg (by rw [g2]; decide)]
 show wpAny _ _ (if (decide (x ≤ 0) || items.isEmpty) = true then _ else _) _ _ _
 rw [if_neg (by rw [g3]; decide)]
 show wpAny _ _ (if (items.size : Int) * x > (2 ^ 63 - 1) / 8 then _ else _) _ _ _
 rw [if_neg g4]
 show wpAny _ _ (if Builtin.Tuple.tupleTooMany ((items.size : Int) * x) = true then _ else _) _ _ _
 rw [if_neg (by rw [g5]; decide)]
 have htake : ((List.replicate x.toNat items).foldl (· ++ ·) #[]).size ≤ sizeLine := by
  have q : ((List.replicate x.toNat items).foldl (· ++ ·) #[]).size = x.toNat * items.size := by
   have gen : ∀ (k : Nat) (acc : Array Value),((List.replicate k items).foldl (· ++ ·) acc).size = acc.size + k * items.size := by
    intro k
    induction k with
    | zero => intro acc; simp
    | succ k ih => intro acc; rw [List.replicate_succ,List.foldl_cons,ih,Array.size_append,Nat.succ_mul]; lia
   simpa using gen x.toNat #[]
  rw [q]
  exact Nat.le_trans (Nat.mul_le_mul (show x.toNat ≤ 30 by lia) hz) (by decide)
 first
  | exact wpAny_bind (m := Builtin.Tuple.tupleExact _) (wpAny_newObj_type (wpAny_pure ⟨_,rfl,h⟩) htake)
  | exact wpAny_bind (m := Builtin.Tuple.tupleExact _) (wpAny_newObj_type (wpAny_bind (wpAny_pure (wpAny_pure ⟨_,rfl,h⟩))) htake)
  | exact wpAny_bind (wpAny_bind (m := Builtin.Tuple.tupleExact _) (wpAny_newObj_type (wpAny_pure (wpAny_pure ⟨_,rfl,h⟩)) htake))
end
end PySem
namespace L2
open PySem PySem.Spec PyProof.Rows
section
variable {X : Cx}
theorem foldl_one (u : Value) : ∀ (k : Nat) (acc : Array Value),((List.replicate k #[u]).foldl (· ++ ·) acc) = acc ++ (List.replicate k u).toArray := by
 intro k
 induction k with
 | zero => intro acc; simp
 | succ k ih =>
  intro acc
  rw [List.replicate_succ,List.foldl_cons,ih,List.replicate_succ]
  apply Array.ext'
  simp
theorem rep_V {x : V} {u : Value} (h : RelV x u) : ∀ k : Nat,Vals (List.replicate k x) (List.replicate k u)
 | 0 => .nil
 | k + 1 => .cons h (rep_V h k)
variable {tg : Expr}
end
end L2
set_option Elab.async false
set_option linter.all false
set_option maxRecDepth 100000
set_option maxHeartbeats 4000000
namespace L2
open PySem PySem.Spec PyProof.Rows
theorem u1 {A : Around} (h : A.units + 64 < cLine) : A.units + 1 < cLine := by lia
theorem fn_none {P : Program} {w : World} {K : PySem.W.Frag} {mg : Str → Option Value} {base : Heap} {CX : CXT} {k : Nat} {f : Addr} {fd : FuncData} {ps : List Str} {sp : Sp} (h : ∀ vs H Q E,¬ sp vs H Q E) : FnOk P w K mg base CX k f fd ps sp :=
 ⟨fun vs H Q E z => (h vs H Q E z).elim,fun A outer s H args us vs Q E hr e0 hb r z => (h vs H Q E z).elim⟩
end L2
set_option Elab.async false
set_option linter.all false
set_option maxRecDepth 100000
namespace L2
open PySem PySem.Spec PyProof.Rows
theorem call_isxH {X : Cx} {K : PySem.W.Frag} (hK : X.K = K) : CallR X (.builtin "isinstance") (fun xs H Q => ∃ a C D b,xs = [.ref a,.ref D] ∧ H a = some (xO a C) ∧ PySem.W.ExcK K C ∧ PySem.W.kitOne K (.ref C) (.ref D) = some b ∧ Q (.bl b) H) := by
 subst hK
 exact call_isx
theorem call_isxTH {X : Cx} {K : PySem.W.Frag} (hK : X.K = K) : CallR X (.builtin "isinstance") (fun xs H Q => ∃ a C T b,xs = [.ref a,.ty T] ∧ H a = some (xO a C) ∧ PySem.W.ExcK K C ∧ PySem.W.kitOne K (.ref C) (.type T) = some b ∧ Q (.bl b) H) := by
 subst hK
 exact call_isxT
end L2
set_option Elab.async false
set_option linter.all false
set_option maxRecDepth 100000
namespace L2
open PySem PySem.Spec PyProof.Rows
section
variable {X : Cx}
theorem op_fdivB : OpR X (binaryOp .FloorDiv) (rI (fun _ j => 0 < j ∧ j < 10000000000000000000000000000000000000000000000000000000000000) fun i j => .int (i / j)) := opI fun i j _ _ _ _ _ hc q => by
 have h1 : (0 : Int) < j := hc.1
 have h2 : j < 10000000000000000000000000000000000000000000000000000000000000 := hc.2
 refine floordiv_int (by lia) (by rw [Int.fdiv_eq_ediv_of_nonneg i (by lia)]; exact q) (.inl (PyProof.noPylong_of_log2 ?_))
 have h3 : j.natAbs < 2 ^ 9000 := Nat.lt_of_lt_of_le (show j.natAbs < 10000000000000000000000000000000000000000000000000000000000000 by lia) (by decide +kernel)
 exact (Nat.log2_lt (by lia)).mpr h3
inductive ICatS (K : PySem.W.Frag) (x y : V) (H : Hp) (Q : VK) : Prop
 | mk (l b : Addr) (xs zs : List V) : (x = .ref l) → (y = .ref b) → (SqL K H l xs) → (SqL K H b zs) → (xs.length + zs.length ≤ sizeLine) → (∀ p,H p = none → Q (.ref p) (upd H p (.lst (xs ++ zs)))) → ICatS K x y H Q
noncomputable def rCatS (K : PySem.W.Frag) : R2 := fun x y H Q => ICatS K x y H Q
theorem op_catS : OpR X (binaryOp .Add) (rCatS X.K) := by
 intro pins s σ H x y v u Q I rx ry h
 obtain ⟨l,b,xs,zs,rfl,rfl,hH,hB,hz,q⟩ := h
 cases rx
 cases ry
 obtain ⟨its,r,pl,z⟩ := I.list hH
 obtain ⟨its2,r2,pl2,z2⟩ := I.list hB
 obtain ⟨⟨cls,dd,data,sl⟩,ho,hc,n,hd⟩ := pl.isList
 obtain ⟨⟨cls2,dd2,data2,sl2⟩,ho2,hc2,n2,hd2⟩ := pl2.isList
 simp only at hc hd hc2 hd2
 subst hc hd hc2 hd2
 have l1 := r.length
 have l2 := r2.length
 have ea : its.toArray ++ its2.toArray = (its ++ its2).toArray := by simp
 refine concat_meets ⟨_,ho,rfl⟩ ⟨_,ho2,rfl⟩ noFill_list_add seq_list_add PySem.F.slot_list_add PySem.F.entry_list_add (PySem.F.args_list_add_2 _ _) (list_addW l b its.toArray its2.toArray n n2 dd dd2 sl sl2 (by simp only [List.size_toArray]; lia)) ⟨ho,ho2,?_⟩
 rw [ea]
 exact ⟨.ref _,_,I.lnew (t' := s.toks) (r.append r2) (by rw [List.length_append]; lia),rfl,q _ I.fresh⟩
end
open PySem.NumText
noncomputable def dg (m : Nat) : List Nat := (Nat.toDigits 10 m).map Char.toNat
theorem dig_code : ∀ d : Nat,d < 10 → (Nat.digitChar d).toNat = 48 + d := by decide
theorem dg_small {m : Nat} (h : m < 10) : dg m = [48 + m] := by
 unfold dg
 rw [Nat.toDigits_of_lt_base h]
 show [(Nat.digitChar m).toNat] = _
 rw [dig_code m h]
theorem dg_step {m : Nat} (h : 10 ≤ m) : dg m = dg (m / 10) ++ [48 + m % 10] := by
 have hm : m % 10 < 10 := Nat.mod_lt m (by decide)
 have t : Nat.toDigits 10 (m / 10) ++ Nat.toDigits 10 (m % 10) = Nat.toDigits 10 (10 * (m / 10) + m % 10) := Nat.toDigits_append_toDigits (by decide) (by lia) hm
 rw [Nat.div_add_mod] at t
 unfold dg
 rw [← t,List.map_append]
 congr 1
 exact dg_small hm
theorem dg_len : ∀ (k m : Nat),m < 10 ^ (k + 1) → (dg m).length ≤ k + 1
 | 0,m,h => by rw [dg_small (by simpa using h)]; exact Nat.le_refl 1
 | k + 1,m,h => by
  by_cases h1 : m < 10
  ·rw [dg_small h1]; exact Nat.succ_le_succ (Nat.zero_le _)
  ·rw [dg_step (by lia),List.length_append,List.length_singleton]
   have : m / 10 < 10 ^ (k + 1) := by
    rw [Nat.pow_succ] at h
    exact Nat.div_lt_of_lt_mul (by rw [Nat.mul_comm]; exact h)
   have := dg_len k (m / 10) this
   lia
noncomputable def strI (n : Int) : List Nat := if n < 0 then 45 :: dg n.natAbs else dg n.natAbs
theorem str_int (n : Int) : (Str.ofString (toString n)).cps.toList = strI n := by
 rw [signs_ofString]
 cases n with
 | ofNat m =>
  have : ¬ (Int.ofNat m < 0) := by simp
  unfold strI
  rw [if_neg this]
  show (Nat.repr m).toList.map Char.toNat = _
  rw [Nat.toList_repr]
  rfl
 | negSucc m =>
  have : Int.negSucc m < 0 := Int.negSucc_lt_zero m
  unfold strI
  rw [if_pos this]
  show ("-" ++ Nat.repr (m + 1)).toList.map Char.toNat = _
  rw [String.toList_append,List.map_append,Nat.toList_repr]
  rfl
end L2
set_option Elab.async false
set_option linter.all false
set_option maxRecDepth 100000
namespace L2
open PySem PySem.Spec PyProof.Rows
section
variable {X : Cx} {pins : List (Addr × Obj)} {σ : St} {H : Hp} {s : Shared} {h' : Heap}
theorem Inv.turnedT {t' : Nat} {wr : List Addr} {T : Addr} {o : HO} (I : Inv X pins σ H s) (k : ∀ b u,b ∉ wr → s.heap.get? b = some u → h'.get? b = some u) (f : ∀ b ∈ wr,FpOk X pins H b)
  (hT : s.heap.objs.size ≤ T) (new : ObjOk X.prog X.w (upd H T o) h' T o) : Inv X pins σ (upd H T o) { s with heap := h',toks := t' } := by
 have nT : ∀ b u,s.heap.get? b = some u → b ≠ T := fun b u e z => absurd (Nat.lt_of_lt_of_le (Heap.lt_size e) (z ▸ hT)) (Nat.lt_irrefl _)
 have nH : ∀ b u,H b = some u → b ≠ T := fun b u e z => absurd (Nat.lt_of_lt_of_le (I.hok.lt e) (z ▸ hT)) (Nat.lt_irrefl _)
 have nw : ∀ b u,H b = some u → b ∉ wr := fun b u e z => by rw [(f b z).1] at e; cases e
 refine I.step (g' := s.gens) (d' := s.drawn) (ch := wr) (fun b hb => ?_) (fun b u _ _ hc e _ => k b u hc e) (fun b u _ _ hc e _ => ⟨u.slots,k b u hc e⟩) (fun b u _ e n => by rw [upd_ne (nT b u e)]; exact n)
  (fun b u hc e => ⟨u,k b u hc e⟩) (fun b xs e => by rw [upd_ne (nH b _ e)]; exact e) (fun b u v e => by rw [upd_ne (nH b _ e)]; exact e) (fun b ps e => ⟨#[],by rw [upd_ne (nH b _ e),e]; simp⟩) (fun m hm => ?_) (fun b u e => ?_) I.bare
 ·obtain ⟨f0,f1,f2,f3,f4,f5⟩ := f b hb
  exact ⟨f3,f1,f4,f5⟩
 ·obtain ⟨u,es,ep,ho,r⟩ := hm
  exact ⟨u,es,ep,k _ u (fun z => (f _ z).2.1 rfl) ho,r⟩
 ·by_cases hb : b = T
  ·subst hb
   rw [upd_same] at e
   cases e
   exact new
  ·rw [upd_ne hb] at e
   refine (I.hok b u e).stay (fun c v hc q => k c v ?_ q) (fun c q => ?_) fun c xs q => by rw [upd_ne (nH c _ q)]; exact q
   ·rcases hc with z | z
    ·rw [z]; exact nw b u e
    ·exact nw c _ z
   ·rw [upd_ne (nH c _ q)]; exact q
theorem Inv.turnedL {t' : Nat} {wr : List Addr} (I : Inv X pins σ H s) (k : ∀ b u,b ∉ wr → s.heap.get? b = some u → h'.get? b = some u) (f : ∀ b ∈ wr,FpOk X pins H b) : Inv X pins σ H { s with heap := h',toks := t' } := by
 have nw : ∀ b u,H b = some u → b ∉ wr := fun b u e z => by rw [(f b z).1] at e; cases e
 refine I.step (g' := s.gens) (d' := s.drawn) (ch := wr) (fun b hb => ?_) (fun b u _ _ hc e _ => k b u hc e) (fun b u _ _ hc e _ => ⟨u.slots,k b u hc e⟩) (fun _ _ _ _ n => n)
  (fun b u hc e => ⟨u,k b u hc e⟩) (fun _ _ e => e) (fun _ _ _ e => e) (fun b ps e => ⟨#[],by rw [e]; simp⟩) (fun m hm => ?_) (fun b u e => ?_) I.bare
 ·obtain ⟨f0,f1,f2,f3,f4,f5⟩ := f b hb
  exact ⟨f3,f1,f4,f5⟩
 ·obtain ⟨u,es,ep,ho,r⟩ := hm
  exact ⟨u,es,ep,k _ u (fun z => (f _ z).2.1 rfl) ho,r⟩
 ·refine (I.hok b u e).stay (fun c v hc q => k c v ?_ q) (fun _ q => q) fun _ _ q => q
  rcases hc with z | z
  ·rw [z]; exact nw b u e
  ·exact nw c _ z
end
noncomputable def Itz (K : PySem.W.Frag) (a b : Addr) : It :=
 ⟨fun i H => ∃ xs ys x y,SqL K H a xs ∧ SqL K H b ys ∧ xs[i]? = some x ∧ ys[i]? = some y,
  fun i H v H' => ∃ T x y,v = .ref T ∧ H T = none ∧ H' = upd H T (.tup [x,y]) ∧ (∀ xs,SqL K H a xs → xs[i]? = some x) ∧ (∀ ys,SqL K H b ys → ys[i]? = some y),
  fun i H => ∃ xs ys,SqL K H a xs ∧ SqL K H b ys ∧ min xs.length ys.length = i⟩
noncomputable def zipTn (z TI TO i1 i2 l1 l2 : Addr) (i : Nat) (h : Heap) : Prop := IsZip h z TI TO .none ∧ IsPair h TI (.ref i1) (.ref i2) ∧ (∃ a b,IsPair h TO a b) ∧ h.IsListIter i1 l1 i ∧ h.IsListIter i2 l2 i
theorem turn_zip {P : Program} {w : World} {K : PySem.W.Frag} {elts : List Expr} {k : Nat} {pos : Pos} (z TI TO i1 i2 l1 l2 : Addr) (D : ZipApart z TI TO i1 i2 l1 l2) :
  Turn P w K (.Tuple elts k pos) (Itz K l1 l2) [z,TI,TO,i1,i2] z (zipTn z TI TO i1 i2 l1 l2) where
 mem := by simp
 obj := fun i h st b hb => by
  obtain ⟨hz,hTI,⟨a,c,hTO⟩,⟨o1,e1,c1,d1⟩,⟨o2,e2,c2,d2⟩⟩ := st
  simp only [List.mem_cons,List.not_mem_nil,or_false] at hb
  rcases hb with rfl | rfl | rfl | rfl | rfl
  ·exact ⟨_,hz,fun v q => by cases q⟩
  ·exact ⟨_,hTI,fun v q => by cases q⟩
  ·exact ⟨_,hTO,fun v q => by cases q⟩
  ·exact ⟨o1,e1,fun v q => by rw [d1] at q; cases q⟩
  ·exact ⟨o2,e2,fun v q => by rw [d2] at q; cases q⟩
 keep := fun i h h' st kk => by
  obtain ⟨hz,hTI,⟨a,c,hTO⟩,h1,h2⟩ := st
  exact ⟨kk z (by simp) _ hz,kk TI (by simp) _ hTI,⟨a,c,kk TO (by simp) _ hTO⟩,h1.at fun o e => kk i1 (by simp) o e,h2.at fun o e => kk i2 (by simp) o e⟩
 item := by
  intro X hP hw hK hc i pins s σ H E I hf st hg
  subst hP hw hK
  obtain ⟨xs,ys,x,y,hx,hy,ex,ey⟩ := hg
  obtain ⟨its,rv,p,hz⟩ := I.list hx
  obtain ⟨its2,rv2,p2,hz2⟩ := I.list hy
  obtain ⟨s1,s2,s3,s4,s5⟩ := st
  have W := WalksT.zip2 (prog := X.prog) (w := X.w) (I.ok.hd hc) z TI TO i1 i2 l1 l2 D its.toArray its2.toArray
  have li : i < xs.length := (List.getElem?_eq_some_iff.mp ex).1
  have li2 : i < ys.length := (List.getElem?_eq_some_iff.mp ey).1
  have el := rv.length
  have el2 := rv2.length
  have wsub : ∀ b ∈ [z,TO,i1,i2],b ∈ [z,TI,TO,i1,i2] := fun b hb => by
   simp only [List.mem_cons,List.not_mem_nil,or_false] at hb ⊢
   rcases hb with rfl | rfl | rfl | rfl <;> simp
  refine W.item i s _ _ (by simp only [List.size_toArray]; lia) ⟨s1,s2,s3,s4,s5,p.isList,p2.isList⟩ fun T vals h' tk hv hT hTup hm hk => ?_
  obtain ⟨u,v,eu,ev,rfl⟩ := hv
  obtain ⟨u',eu',ru⟩ := rv.get ex
  obtain ⟨v',ev',rv'⟩ := rv2.get ey
  have e1 : u = u' := by
   have : its[i]? = some u := by simpa using eu
   rw [eu'] at this
   exact (Option.some.inj this).symm
  have e2 : v = v' := by
   have : its2[i]? = some v := by simpa using ev
   rw [ev'] at this
   exact (Option.some.inj this).symm
  subst e1 e2
  have hTn : H T = none := I.hok.fresh hT
  have I1 : Inv X pins σ (upd H T (.tup [x,y])) { s with heap := h',toks := tk } := I.turnedT hk (fun b hb => hf b (wsub b hb)) hT ⟨by show 2 ≤ sizeLine; decide,[u,v],.cons ru (.cons rv' .nil),hTup⟩
  have ap := W.apart i T h' hm
  have f1 : ∀ b ∈ [z,TO,i1,i2],FpOk X pins (upd H T (.tup [x,y])) b := fun b hb => by
   obtain ⟨f0,f1⟩ := hf b (wsub b hb)
   exact ⟨by rw [upd_ne (fun e : b = T => ap (by rw [← e]; exact hb))]; exact f0,f1⟩
  refine ⟨_,rfl,W.go elts k pos i T _ _ _ hm fun h'' st2 hk2 => ?_⟩
  obtain ⟨t1,t2,t3,t4,t5,_,_⟩ := st2
  refine ⟨.ref T,_,Inv.turnedL (s := { s with heap := h',toks := tk }) (t' := tk) I1 hk2 f1,rfl,⟨T,x,y,rfl,hTn,rfl,fun zs q => by rw [I.list_inj q hx]; exact ex,fun zs q => by rw [I.list_inj q hy]; exact ey⟩,⟨t1,t2,t3,t4,t5⟩,fun b hb => ?_⟩
  have fb := (hf b hb).1
  by_cases e : b = T
  ·subst e
   have lti : s.heap.objs.size > TI := Heap.lt_size s2
   simp only [List.mem_cons,List.not_mem_nil,or_false] at hb
   rcases hb with rfl | rfl | rfl | rfl | rfl
   ·exact absurd (by simp) ap
   ·exact absurd lti (Nat.not_lt.mpr hT)
   ·exact absurd (by simp) ap
   ·exact absurd (by simp) ap
   ·exact absurd (by simp) ap
  ·rw [upd_ne e]; exact fb
 done := by
  intro X hP hw hK hc i pins s σ H E I hf st hg
  subst hP hw hK
  obtain ⟨xs,ys,hx,hy,hi⟩ := hg
  obtain ⟨its,rv,p,hz⟩ := I.list hx
  obtain ⟨its2,rv2,p2,hz2⟩ := I.list hy
  obtain ⟨s1,s2,s3,s4,s5⟩ := st
  have W := WalksT.zip2 (prog := X.prog) (w := X.w) (I.ok.hd hc) z TI TO i1 i2 l1 l2 D its.toArray its2.toArray
  have el := rv.length
  have el2 := rv2.length
  have en : min its.toArray.size its2.toArray.size = i := by simp only [List.size_toArray]; lia
  have wsub : ∀ b ∈ [z,TO,i1,i2],b ∈ [z,TI,TO,i1,i2] := fun b hb => by
   simp only [List.mem_cons,List.not_mem_nil,or_false] at hb ⊢
   rcases hb with rfl | rfl | rfl | rfl <;> simp
  refine W.done s _ _ ?_ fun h' tk hk => ⟨rfl,I.turnedL hk fun b hb => hf b (wsub b hb)⟩
  rw [en]
  exact ⟨s1,s2,s3,s4,s5,p.isList,p2.isList⟩
 self := fun _ _ _ _ _ st h => wpAny_pyIter_zip st.1 h
section
variable {X : Cx} {elts : List Expr} {k : Nat} {tpos : Pos}
noncomputable def iZip (K : PySem.W.Frag) (ta : TA) : TI := fun σ H R => ta σ H fun vs H1 => ∃ a b,vs = [.ref a,.ref b] ∧ (∃ xs,SqL K H1 a xs) ∧ (∃ ys,SqL K H1 b ys) ∧ R (Itz K a b) H1
theorem pi_zip {a b : Expr} {ta : TA} {p pos : Pos} (hg : Gl X "zip") (hm : X.mg "zip" = none) (ha : PA X [a,b] ta) (hs : starEach [a,b] X.env = [(false,eval a X.env),(false,eval b X.env)] := by rfl) (hs2 : starEach [b] X.env = [(false,eval b X.env)] := by rfl) :
  PI X (.Tuple elts k tpos) (.Call (.Name "zip" p) [a,b] [] pos) (iZip X.K ta) := by
 intro pins s σ H R I h
 refine Call_ (ld_blt I hg hm boot_zip (PyProof.Rows.callWith_type1 (thn (ha pos pins s σ H _ I h) fun us s1 ⟨vs,H1,I1,r1,q1⟩ => ?_) (by rw [hs,hs2]) (by rw [hs2]; rfl)))
 obtain ⟨l1,l2,e,⟨xs,hx⟩,⟨ys,hy⟩,q⟩ := q1
 subst e
 obtain ⟨u,v,rfl,ru,rv⟩ := r1.two
 cases ru
 cases rv
 obtain ⟨its,rr,pl,hz⟩ := I1.list hx
 obtain ⟨its2,rr2,pl2,hz2⟩ := I1.list hy
 have lt1 : l1 < s1.heap.objs.size := by obtain ⟨o,e,_⟩ := pl.isList; exact Heap.lt_size e
 have lt2 : l2 < s1.heap.objs.size := by obtain ⟨o,e,_⟩ := pl2.isList; exact Heap.lt_size e
 refine call_zip_2 pl.isList pl2.isList fun h' z1 z2 z3 z4 z5 zs kk => ?_
 have I2 : Inv X pins σ H1 { s1 with heap := h' } := I1.kept (t' := s1.toks) kk
 refine wpAny_pyIter_zip z1 ?_
 refine ⟨_,_,_,_,H1,rfl,I2,turn_zip _ _ _ _ _ l1 l2 ?_,⟨z1,z2,⟨_,_,z3⟩,z4,z5⟩,fun b hb => ?_,q⟩
 ·have lt1' : s1.heap.objs.size > l1 := lt1
  have lt2' : s1.heap.objs.size > l2 := lt2
  constructor <;> (show ¬ (@Eq Nat _ _)) <;> lia
 ·have : s1.heap.objs.size ≤ b := by
   simp only [List.mem_cons,List.not_mem_nil,or_false] at hb
   rcases hb with rfl | rfl | rfl | rfl | rfl <;> lia
  exact I1.fpOk this (I1.hok.fresh this)
end
theorem comp_zip {K : PySem.W.Frag} {a b l : Addr} {xs ys : List V} {g : TG} {tb : List V → Addr → St → Hp → (List V → St → Hp → Prop) → Prop} {Q : VK} {σ0 : St} {H0 : Hp} (Pv : Nat → List V → St → Hp → Prop) (h0 : Pv 0 [] σ0 H0)
  (hla : ∀ i us σ H,Pv i us σ H → SqL K H a xs ∧ SqL K H b ys)
  (hs : ∀ i x y T us σ H (N : List V → St → Hp → Prop),xs[i]? = some x → ys[i]? = some y → H T = none → Pv i us σ H → (∀ us' σ' H',Pv (i + 1) us' σ' H' → N us' σ' H') → g (.ref T) σ (upd H T (.tup [x,y])) fun σ2 H2 => tb us l σ2 H2 N)
  (hd : ∀ us σ H,Pv (min xs.length ys.length) us σ H → Q (.ref l) H) :
  ∃ W : Nat → Nat → List V → St → Hp → Prop,(∃ m,W 0 m [] σ0 H0) ∧ ∀ i m us σ' H',W i m us σ' H' → ((Itz K a b).stop i H' ∧ Q (.ref l) H') ∨
   ((Itz K a b).go i H' ∧ ∀ x H'',(Itz K a b).yld i H' x H'' → g x σ' H'' fun σ2 H2 => tb us l σ2 H2 fun us' σ3 H3 => ∃ m',m' < m ∧ W (i + 1) m' us' σ3 H3) := by
 refine ⟨fun i m us σ H => m = min xs.length ys.length - i ∧ i ≤ min xs.length ys.length ∧ Pv i us σ H,⟨_,rfl,Nat.zero_le _,h0⟩,?_⟩
 rintro i m us σ H ⟨rfl,hi,p⟩
 obtain ⟨sa,sb⟩ := hla i us σ H p
 by_cases hlt : i < min xs.length ys.length
 ·obtain ⟨x,ex⟩ : ∃ x,xs[i]? = some x := ⟨_,List.getElem?_eq_getElem (by lia)⟩
  obtain ⟨y,ey⟩ : ∃ y,ys[i]? = some y := ⟨_,List.getElem?_eq_getElem (by lia)⟩
  refine .inr ⟨⟨xs,ys,x,y,sa,sb,ex,ey⟩,fun v H' q => ?_⟩
  obtain ⟨T,x',y',rfl,hT,rfl,q1,q2⟩ := q
  have e1 := q1 xs sa
  have e2 := q2 ys sb
  exact hs i x' y' T us σ H _ e1 e2 hT p fun us' σ' H' w => ⟨_,by lia,rfl,hlt,w⟩
 ·have e : i = min xs.length ys.length := by lia
  subst e
  exact .inl ⟨⟨xs,ys,sa,sb,rfl⟩,hd us σ H p⟩
end L2
set_option Elab.async false
set_option linter.all false
set_option maxRecDepth 100000
namespace L2
open PySem PySem.Spec PyProof.Rows
noncomputable def met : List Key → List Key
 | [] => []
 | k :: r => if r.any (fun j => decide (j = k)) then met r else k :: met r
section
variable {P : Program} {w : World} {A : Around} {R : Result → Shared → Prop} {it : Addr} {fp wr : List Addr} {G : Array GenState → Array GenState → Prop} {n : Nat} {Pt : Nat → Value → Prop} {St : Nat → Shared → Prop}
noncomputable abbrev SetK (P : Program) (w : World) (h : Heap) (a : Addr) (l : List Key) : Prop := h.SetOf (mixKind P w) a (fun k => l.any fun j => decide (j = k)) l.length
end
section
variable {P : Program} {w : World} {A : Around} {E : Value → Shared → Prop} {s : Shared}
end
end L2
set_option Elab.async false
set_option linter.all false
set_option maxRecDepth 100000
namespace L2
open PySem PySem.Spec PyProof.Rows
section
variable {X : Cx}
end
end L2
set_option Elab.async false
set_option linter.all false
set_option maxRecDepth 100000
namespace L2
open PySem PySem.Spec PyProof.Rows
section
variable {K : PySem.W.Frag} {a b l : Addr} {xs ys : List V} {g : TG} {tb : List V → Addr → St → Hp → (List V → St → Hp → Prop) → Prop} {R : Hp → Prop} {σ0 : St} {H0 : Hp}
theorem comp_tupR (Pv : Nat → List V → St → Hp → Prop) (h0 : Pv 0 [] σ0 H0) (hl : ∀ i ys σ H,i ≤ xs.length → Pv i ys σ H → SqT K H a xs)
  (hs : ∀ i x ys σ H (N : List V → St → Hp → Prop),xs[i]? = some x → Pv i ys σ H → (∀ ys' σ' H',Pv (i + 1) ys' σ' H' → N ys' σ' H') → g x σ H fun σ2 H2 => tb ys l σ2 H2 N)
  (hd : ∀ ys σ H,Pv xs.length ys σ H → R H) :
  ∃ W : Nat → Nat → List V → St → Hp → Prop,(∃ m,W 0 m [] σ0 H0) ∧ ∀ i m ys σ' H',W i m ys σ' H' → ((Itt K a).stop i H' ∧ R H') ∨
   ((Itt K a).go i H' ∧ ∀ x H'',(Itt K a).yld i H' x H'' → g x σ' H'' fun σ2 H2 => tb ys l σ2 H2 fun ys' σ3 H3 => ∃ m',m' < m ∧ W (i + 1) m' ys' σ3 H3) := comp_tup (Q := fun _ H => R H) Pv h0 hl hs hd
theorem comp_zipR (Pv : Nat → List V → St → Hp → Prop) (h0 : Pv 0 [] σ0 H0) (hla : ∀ i us σ H,Pv i us σ H → SqL K H a xs ∧ SqL K H b ys)
  (hs : ∀ i x y T us σ H (N : List V → St → Hp → Prop),xs[i]? = some x → ys[i]? = some y → H T = none → Pv i us σ H → (∀ us' σ' H',Pv (i + 1) us' σ' H' → N us' σ' H') → g (.ref T) σ (upd H T (.tup [x,y])) fun σ2 H2 => tb us l σ2 H2 N)
  (hd : ∀ us σ H,Pv (min xs.length ys.length) us σ H → R H) :
  ∃ W : Nat → Nat → List V → St → Hp → Prop,(∃ m,W 0 m [] σ0 H0) ∧ ∀ i m us σ' H',W i m us σ' H' → ((Itz K a b).stop i H' ∧ R H') ∨
   ((Itz K a b).go i H' ∧ ∀ x H'',(Itz K a b).yld i H' x H'' → g x σ' H'' fun σ2 H2 => tb us l σ2 H2 fun us' σ3 H3 => ∃ m',m' < m ∧ W (i + 1) m' us' σ3 H3) := comp_zip (Q := fun _ H => R H) Pv h0 hla hs hd
end
theorem pg_tupK {X : Cx} {K : PySem.W.Frag} {es : List Expr} {k : Nat} {pos : Pos} {t : TGs} {n : Nat} (hK : X.K = K) (hc : X.calm = true) (h : PGs X es t)
  (hn : (assignEach es X.env).length = n := by rfl) (hst : (assignEach es X.env).findIdx? (·.1) = none := by rfl) : PG X (.Tuple es k pos) (gTup K n t) := by
 subst hK
 exact pg_tup hc h hn hst
theorem same_upd {H H1 : Hp} {l : Addr} {o : HO} (hl : H l = none) (g : Same H H1) : Same H (upd H1 l o) := fun b u e => by rw [upd_ne (ne_of_none e hl)]; exact g b u e
end L2
set_option Elab.async false
set_option linter.all false
set_option maxRecDepth 100000
set_option maxHeartbeats 4000000
namespace L2
open PySem PySem.Spec PyProof.Rows
section
variable {X : Cx}
theorem ps_compG {elt tgt iter : Expr} {ifs : List Expr} {scope : Scope} {pos spos py : Pos} {NL N' : List Str} {ρ : List Nat} {wi : TI} {g : TG} {tb : List V → Addr → St → Hp → (List V → St → Hp → Prop) → Prop} {body : Value → Env → Sem Unit} {j : Nat} {y : Str}
  (hN : X.N.Nodup) (hj : X.N[j]? = some y) (hy : Loc X.env.scope y) (hfn : X.fn y = true ∨ X.env.scope.names.lookup y = some .local)
  (hsw : swapsWith (.ListComp elt [⟨tgt,iter,ifs,0⟩] scope pos) (some (.Name y py)) spos.line X.env = pure true)
  (hc : X.calm = true) (S : CScope X scope NL ρ N') (hi : PI X tgt iter wi)
  (hg : ∀ C s₀ H₀ fp,PG (ccx X scope C N' s₀ H₀ fp) tgt g) (hb : ∀ C s₀ H₀ fp,PB (ccx X scope C N' s₀ H₀ fp) (fun acc => body acc (ccx X scope C N' s₀ H₀ fp).env) tb)
  (he : ∀ (it acc : Value) (env : Env),compTurn (.ListComp elt [⟨tgt,iter,ifs,0⟩] scope pos) 0 it acc env = (standAt iter.pos >>= fun _ => pyNext it >>= fun r => match r with
   | none => pure (.done .next)
   | some v => letOwnedTupleGo tgt it v >>= fun _ => assign tgt env v >>= fun _ => body acc env >>= fun _ => again (.compLoop (.ListComp elt [⟨tgt,iter,ifs,0⟩] scope pos) 0 it acc env)))
  (hs : ∀ x,foldedSetIterable iter X.env x = pure x := by intro _; rfl) : PS X (.Assign [.Name y py] (.ListComp elt [⟨tgt,iter,ifs,0⟩] scope pos) spos) (tAsg (tComp NL.length ρ wi g tb) (gName j)) := by
 intro pins s σ H D0 I h
 have free_in : ∀ x ∈ scope.names,x.2 = .free → ∃ c,X.env.cells.lookup x.1 = some c := fun x hx hk => I.ok.has x.1 (S.frees x hx hk)
 rw [exec_Assign_Name_used _ _ _ _ hsw]
 refine wpAny_bind (wpAny_standAt (wpAny_bind ?_))
 rw [arm_evalThenUse_ListComp]
 refine wpAny_bind (thn (Q := fun _ s' => SP X pins D0 .next s') ?_ fun _ s' q0 => wpAny_pure (wpAny_pure q0))
 refine wpAny_comprehension_free (use := some (assign (.Name y py) X.env)) (Q := fun _ s' => SP X pins D0 .next s') rfl hs (closure_is free_in) S.kind S.locs ?_
 refine thn (hi pins s σ H _ I h) fun v s1 h1 => thn h1 fun itv s2 h2 => ?_
 obtain ⟨it,fp,tn,J,H2,e,I2,T,st2,f2,w⟩ := h2
 subst e
 refine wpAny_newObj_type (wpAny_newFunctionEnv S.nocell (by intro y hy; simp at hy) (fun h₁ hns₁ hsb₁ => ?_) S.kind)
 dsimp only at hns₁ hsb₁ ⊢
 generalize hH2 : s2.heap.push { cls := .type "list",dict := none,data := .seq ([] : List Value).toArray } = h2' at hns₁ hsb₁ ⊢
 have hCs : h2'.objs.size = s2.heap.objs.size + 1 := by rw [← hH2,Heap.size_push]
 have hDC : s2.heap.objs.size ≠ h2'.objs.size := by rw [hCs]; exact Nat.ne_of_lt (Nat.lt_succ_self _)
 have hC : s2.heap.objs.size ≤ h2'.objs.size := by rw [hCs]; exact Nat.le_succ _
 have old : ∀ b o,s2.heap.get? b = some o → h₁.get? b = some o := fun b o e => hsb₁.extBut b o (Nat.ne_of_lt (Nat.lt_of_lt_of_le (Heap.lt_size e) hC)) (Heap.get?_push_of_some _ (hH2 ▸ Heap.get?_push_of_some _ e))
 have hd : h₁.get? s2.heap.objs.size = some { cls := .type "list",data := .seq #[] 0 } := hsb₁.extBut _ _ hDC (Heap.get?_push_of_some _ (hH2 ▸ Heap.get?_push_size _ rfl))
 have hfo : ∀ b ∈ fp,∃ o,s2.heap.get? b = some o := fun b hb => let ⟨o,e,_⟩ := T.obj _ _ st2 b hb; ⟨o,e⟩
 have I4 : Inv (ccx X scope h2'.objs.size N' s2 H2 fp) (X.pn ++ pins) (cst NL.length ρ σ) (upd H2 s2.heap.objs.size (.lst [])) { s2 with heap := h₁,toks := s2.toks + ([] : List (Str × Value)).length } :=
  Inv.comp S I2 f2 hfo hC (Nat.le_refl _) hDC old hd (by simpa using hns₁)
 have hD0 : H2 s2.heap.objs.size = none := I2.hok.fresh (Nat.le_refl _)
 have nfp : s2.heap.objs.size ∉ fp := fun z => by
  obtain ⟨o,e⟩ := hfo _ z
  exact absurd (Heap.lt_size e) (Nat.lt_irrefl _)
 obtain ⟨W,⟨m0,w0⟩,turn⟩ := w s2.heap.objs.size hD0
 have stat : ∀ {H' : Hp},(∀ b ∈ fp,H' b = none) → ∀ b ∈ fp,FpOk (ccx X scope h2'.objs.size N' s2 H2 fp) (X.pn ++ pins) H' b := fun {H'} hn b hb => by
  obtain ⟨f0,f1,f2',f3,f4,f5⟩ := f2 b hb
  have ok := I4.ok
  refine ⟨hn b hb,(ok.exf b hb).1,ok.exfs b hb,.inl hb,(ok.exf b hb).2,fun p hp => f5 p hp⟩
 have loop : ∀ s₃ : Shared,s₃ = { s2 with heap := h₁,toks := s2.toks + ([] : List (Str × Value)).length } →
   codeAny (model X.prog X.w) X.A (.compLoop (.ListComp elt [⟨tgt,iter,ifs,0⟩] scope pos) 0 (.ref it) (.ref s2.heap.objs.size) (compEnvC scope (cloOf X.env scope.names []) h2'.objs.size X.env))
    (compPost (model X.prog X.w) X.A X.xe (some (assign (.Name y py) X.env)) (fun _ s' => SP X pins D0 .next s') (.ref s2.heap.objs.size) h2'.objs.size) s₃ := by
  rintro s₃ rfl
  refine codeAny_loop rfl (fun n s' => ∃ i ys σ' H',Inv (ccx X scope h2'.objs.size N' s2 H2 fp) (X.pn ++ pins) σ' H' s' ∧ tn i s'.heap ∧ (∀ b ∈ fp,H' b = none) ∧ W i n ys σ' H') (fun n s3 hI => ?_) m0
   ⟨0,[],_,_,I4,T.keep _ _ _ st2 (fun b _ o e => old b o e),fun b hb => ?_,w0⟩
  ·obtain ⟨i,ys,σ3,H3,I3,st3,fr3,w3⟩ := hI
   show wpAny _ _ ((compTurn (.ListComp elt [⟨tgt,iter,ifs,0⟩] scope pos) 0 (.ref it) (.ref s2.heap.objs.size) (compEnvC scope (cloOf X.env scope.names []) h2'.objs.size X.env)).onRaise (fun x => do noteFrame x _; theTreesLotGoes x)) _ _ s3
   refine wpAny_noted ?_
   rw [he]
   refine wpAny_bind (wpAny_standAt (wpAny_bind ?_))
   rcases turn i n ys σ3 H3 w3 with ⟨stop,qn⟩ | ⟨go,step⟩
   ·refine thn (T.done (ccx X scope h2'.objs.size N' s2 H2 fp) rfl rfl rfl hc i _ s3 σ3 H3 _ I3 (stat fr3) st3 stop) fun r s4 ⟨hr,I5⟩ => ?_
    subst hr
    refine wpAny_pure ?_
    obtain ⟨m,hm,_⟩ := id I5.loc
    have IX : Inv X pins σ H3 { s4 with heap := s4.heap } := Inv.compEnd I2 f2 hC I5 (Heap.SameBut.refl _ _)
    have cne : ∀ x c,X.env.cells.lookup x = some c → c ≠ h2'.objs.size := fun x c ec z => by
     obtain ⟨v0,oc,hoc,_⟩ := I2.cell x c ec
     exact absurd (Nat.lt_of_lt_of_le (Heap.lt_size hoc) hC) (by rw [z]; exact Nat.lt_irrefl _)
    have lne : h2'.objs.size ≠ X.env.locals := Nat.ne_of_gt (Nat.lt_of_lt_of_le I2.lt hC)
    refine wpAny_assign_Name (store_ok2 IX hN hj hy (v := .ref s2.heap.objs.size) rfl (fun s5 I6 ⟨a,sb,ha⟩ => ?_) hfn)
    have na : h2'.objs.size ≠ a := fun z => by
     rcases ha with e | e
     ·exact lne (z.trans e)
     ·exact cne _ _ e z.symm
    refine ⟨m,hm.at' fun o e => (sb.2 _ na).trans e,fun h' hs' => ⟨_,H3,?_,qn⟩⟩
    exact I6.turned (t' := s5.toks) (fun b o hb' e => (hs'.2 b hb').trans e) I5.free lne (.inr (Nat.le_trans I2.sz hC)) cne fun q hq z => by
     obtain ⟨e,_⟩ := I2.pin q hq
     exact absurd (Nat.lt_of_lt_of_le (Heap.lt_size e) hC) (by rw [z]; exact Nat.lt_irrefl _)
   ·refine thn (T.item (ccx X scope h2'.objs.size N' s2 H2 fp) rfl rfl rfl hc i _ s3 σ3 H3 _ I3 (stat fr3) st3 go) fun r s4 ⟨u,hr,h4⟩ => ?_
    subst hr
    refine wpAny_bind (thn h4 fun _ s5 ⟨x,H5,I5,r5,y5,st5,fr5⟩ => ?_)
    have I5' := I5.pinned (stat fr5) (T.obj _ _ st5)
    refine wpAny_bind (wpAny_mono (hg h2'.objs.size s2 H2 fp _ s5 σ3 H5 x u _ I5' r5 (step x H5 y5)) (fun _ s6 ⟨σ6,H6,I6,q6⟩ => ?_) fun _ _ z => z.elim)
    refine wpAny_bind (wpAny_mono (hb h2'.objs.size s2 H2 fp _ s6 σ6 H6 s2.heap.objs.size ys _ I6 q6) (fun _ s7 ⟨ys7,σ7,H7,I7,m',hm,w7⟩ => ?_) fun _ _ z => z.elim)
    refine wpAny_pure ⟨rfl,m',hm,i + 1,ys7,σ7,H7,I7.unpinned,T.keep _ _ _ st5 fun b hb o e => (I7.pin (b,o) (List.mem_append_right _ (List.mem_append_right _ (mem_pinsAt hb e)))).1,fun b hb => ?_,w7⟩
    obtain ⟨o,e,d⟩ := T.obj _ _ st5 b hb
    exact (I7.pin (b,o) (List.mem_append_right _ (List.mem_append_right _ (mem_pinsAt hb e)))).2.1
  ·rw [upd_ne (show b ≠ s2.heap.objs.size from fun z => nfp (by rw [← z]; exact hb))]
   exact (f2 b hb).1
 refine codeAny_compStart_list (loop _ rfl) (T.self _ 0 _ _ _ ?_ (loop _ rfl))
 exact T.keep _ _ _ st2 fun b _ o e => old b o e
theorem ps_setC {elt tgt iter : Expr} {scope : Scope} {pos spos py : Pos} {NL N' : List Str} {ρ : List Nat} {wi : TI} {g : TG} {te : TE} {j : Nat} {y : Str} (hN : X.N.Nodup) (hj : X.N[j]? = some y) (hy : Loc X.env.scope y)
  (hc : X.calm = true) (S : CScope X scope NL ρ N') (hi : PI X tgt iter wi) (hg : ∀ C s₀ H₀ fp,PG (ccx X scope C N' s₀ H₀ fp) tgt g) (he : ∀ C s₀ H₀ fp,PE (ccx X scope C N' s₀ H₀ fp) elt te)
  (hsw : swapsWith (.ListComp elt [⟨tgt,iter,[],0⟩] scope pos) (some (.Name y py)) spos.line X.env = pure true := by rfl) (hfn : X.fn y = true ∨ X.env.scope.names.lookup y = some .local := by first | exact .inl rfl | exact .inr rfl | assumption)
  (hs : ∀ x,foldedSetIterable iter X.env x = pure x := by intro _; rfl) : PS X (.Assign [.Name y py] (.ListComp elt [⟨tgt,iter,[],0⟩] scope pos) spos) (tAsg (tComp NL.length ρ wi g (cEl te)) (gName j)) :=
 ps_compG (body := fun acc env => do let x ← eval elt env; let _ ← call (.builtin "list.append") [acc,x]; pure ()) hN hj hy hfn hsw hc S hi hg (fun C s₀ H₀ fp => pb_el (he C s₀ H₀ fp)) (fun it acc env => turn_eq0 elt tgt iter scope pos it acc env) hs
end
end L2
set_option Elab.async false
set_option linter.all false
set_option maxRecDepth 100000
namespace L2
open PySem PySem.Spec PyProof.Rows
section
variable {X : Cx}
variable {K : PySem.W.Frag}
theorem pe_tupPK {es : List Expr} {x1 : Nat} {pos : Pos} {t : TA} (hK : X.K = K) (h : PA X es t) : PE X (.Tuple es x1 pos) (tTupP K t) := by subst hK; exact pe_tupP h
theorem ix_listK (hK : X.K = K) : IxR X (rIxL K) := by subst hK; exact ix_list
theorem op_eqDK (hK : X.K = K) (hu : X.A.units + 64 < cLine) : OpR X (compareOp .Eq) (rEqD K) := by subst hK; exact op_eqD hu
theorem op_in_seqK (hK : X.K = K) : OpR X (compareOp .In) (rIn K false) := by subst hK; exact op_in_seq
end
end L2
set_option Elab.async false
set_option linter.all false
set_option maxRecDepth 100000
set_option maxHeartbeats 4000000
namespace L2
open PySem PySem.Spec PyProof.Rows
section
variable {X : Cx}
end
end L2
set_option Elab.async false
set_option linter.all false
set_option maxRecDepth 100000
namespace L2
open PySem PySem.Spec PyProof.Rows
section
variable {X : Cx}
theorem strs_vals : ∀ {ss : List Str} {us : List Value},Vals (ss.map V.str) us → StrsAre us ss
 | [],us,h => by cases h; exact .nil
 | z :: ss,us,h => by
  cases h with
  | cons r rr =>
   obtain ⟨t,rfl⟩ := r
   exact .cons z t (strs_vals rr)
theorem vals_strs : ∀ {ss : List Str} {us : List Value},StrsAre us ss → Vals (ss.map V.str) us
 | _,_,.nil => .nil
 | _,_,.cons z t r => .cons ⟨t,rfl⟩ (vals_strs r)
theorem call_sortS : CallR X (.builtin "sorted") (fun xs H Q => ∃ (p : Addr) (ss : List Str),xs = [.ref p] ∧ SqL X.K H p (ss.map V.str) ∧ ss.length < 64 ∧ ∀ a ss',H a = none → ss'.Perm ss → sortedS ss' = true → Q (.ref a) (upd H a (.lst (ss'.map V.str)))) := by
 intro pins s σ H xs us Q I r h
 obtain ⟨p,ss,rfl,hp,hl,q⟩ := h
 obtain ⟨u,rfl,rx⟩ := vals1 r
 cases rx
 obtain ⟨its,rv,pl,hz⟩ := I.list hp
 have el := rv.length
 rw [List.length_map] at el
 refine sorted_strs pl.isList (strs_vals rv) (by lia) fun out ss' h1 h2 h3 => ?_
 obtain ⟨e,he⟩ := sortedAll_at s.heap its out
 have hn : H (s.heap.objs.size + 1) = none := I.hok.fresh (Nat.le_succ _)
 refine ⟨.ref (s.heap.objs.size + 1),_,I.laid (t' := s.toks) (o := .lst (ss'.map V.str)) (fun b o => sortedAll_old) (Nat.le_succ _) ?_,rfl,q _ _ hn h2 h3⟩
 have e2 : seqObj "list" out e = seqObj "list" out.toList.toArray e := by rw [Array.toArray_toList]
 refine ⟨?_,out.toList,e,vals_strs h1,?_⟩
 ·rw [List.length_map,h2.length_eq]
  exact Nat.le_of_lt (Nat.lt_trans hl (by decide))
 ·rw [he,e2]
end
end L2
set_option Elab.async false
set_option linter.all false
set_option maxRecDepth 100000
namespace L2
open PySem PySem.Spec PyProof.Rows
noncomputable abbrev two (v : Value) (c : Nat) : Obj := { cls := .type "list",dict := none,data := .seq #[v,v] c,slots := #[] }
section
variable {prog : Program} {w : World} {A : Around} {R : Result → Shared → Prop} {it : Addr} {fp wr : List Addr} {n : Nat} {P : Nat → Value → Prop} {St : Nat → Heap → Prop}
end
section
variable {prog : Program} {w : World} {A : Around} {E : Value → Shared → Prop} {s : Shared} {l : Addr} {zs : Array (Int × Tok)} {d : Value} {Q : Value → Shared → Prop}
end
section
variable {X : Cx}
end
end L2
namespace L2
open PySem PySem.Spec PyProof.Rows
section
variable {X : Cx} {K : PySem.W.Frag}
end
end L2
namespace L2
open PySem PySem.Spec PyProof.Rows
section
variable {l : Addr} {g : TG} {tb : List V → Addr → St → Hp → (List V → St → Hp → Prop) → Prop} {R : Hp → Prop} {σ0 : St} {H0 : Hp} {lo : Int} {n : Nat} {z : Str}
theorem comp_rangeR (Pv : Nat → List V → St → Hp → Prop) (h0 : Pv 0 [] σ0 H0) (hs : ∀ i ys σ H (N : List V → St → Hp → Prop),i < n → Pv i ys σ H → (∀ ys' σ' H',Pv (i + 1) ys' σ' H' → N ys' σ' H') → g (.int (lo + i)) σ H fun σ2 H2 => tb ys l σ2 H2 N) (hd : ∀ ys σ H,Pv n ys σ H → R H) :
  ∃ W : Nat → Nat → List V → St → Hp → Prop,(∃ m,W 0 m [] σ0 H0) ∧ ∀ i m ys σ' H',W i m ys σ' H' → ((Itr lo n).stop i H' ∧ R H') ∨ ((Itr lo n).go i H' ∧ ∀ x H'',(Itr lo n).yld i H' x H'' → g x σ' H'' fun σ2 H2 => tb ys l σ2 H2 fun ys' σ3 H3 => ∃ m',m' < m ∧ W (i + 1) m' ys' σ3 H3) := comp_range (Q := fun _ H => R H) Pv h0 hs hd
theorem comp_strR (Pv : Nat → List V → St → Hp → Prop) (h0 : Pv 0 [] σ0 H0) (hs : ∀ i c ys σ H (N : List V → St → Hp → Prop),z.cps[i]? = some c → Pv i ys σ H → (∀ ys' σ' H',Pv (i + 1) ys' σ' H' → N ys' σ' H') → g (.str ⟨#[c]⟩) σ H fun σ2 H2 => tb ys l σ2 H2 N) (hd : ∀ ys σ H,Pv z.cps.size ys σ H → R H) :
  ∃ W : Nat → Nat → List V → St → Hp → Prop,(∃ m,W 0 m [] σ0 H0) ∧ ∀ i m ys σ' H',W i m ys σ' H' → ((Its z).stop i H' ∧ R H') ∨ ((Its z).go i H' ∧ ∀ x H'',(Its z).yld i H' x H'' → g x σ' H'' fun σ2 H2 => tb ys l σ2 H2 fun ys' σ3 H3 => ∃ m',m' < m ∧ W (i + 1) m' ys' σ3 H3) := comp_str (Q := fun _ H => R H) Pv h0 hs hd
end
end L2
set_option Elab.async false
set_option linter.all false
set_option maxRecDepth 100000
namespace L2
open PySem PySem.Spec PyProof.Rows
section
variable {X : Cx} {K : PySem.W.Frag}
inductive JIxP (K : PySem.W.Frag) (x y : V) (H : Hp) (Q : VK) : Prop
 | mk (l : List Dt) (i : Int) (d : Dt) : (IsP K H (.tup l) x) → (y = .int i) → (atI l i = some d) → (∀ v,IsP K H d v → Q v H) → JIxP K x y H Q
noncomputable def nIxP (K : PySem.W.Frag) : R2 := fun x y H Q => JIxP K x y H Q
inductive JCatP (K : PySem.W.Frag) (x y : V) (H : Hp) (Q : VK) : Prop
 | mk (l m : List Dt) : (IsP K H (.tup l) x) → (IsP K H (.tup m) y) → (l.length + m.length ≤ sizeLine) → (∀ v H',Same H H' → IsP K H' (.tup (l ++ m)) v → Q v H') → JCatP K x y H Q
noncomputable def nCatP (K : PySem.W.Frag) : R2 := fun x y H Q => JCatP K x y H Q
inductive JLenD (K : PySem.W.Frag) (xs : List V) (H : Hp) (Q : VK) : Prop
 | mk (x : V) (l : List Dt) : (xs = [x]) → (IsD K H (.tup l) x) → (Q (.int l.length) H) → JLenD K xs H Q
noncomputable def nLenD (K : PySem.W.Frag) : List V → Hp → VK → Prop := fun xs H Q => JLenD K xs H Q
inductive JIsi (K : PySem.W.Frag) (xs : List V) (H : Hp) (Q : VK) : Prop
 | mk (x : V) (T : String) (b : Bool) : (xs = [x,.ty T]) → (IsiB K H x T b) → (Q (.bl b) H) → JIsi K xs H Q
noncomputable def nIsi (K : PySem.W.Frag) : List V → Hp → VK → Prop := fun xs H Q => JIsi K xs H Q
inductive JTupP (K : PySem.W.Frag) (xs : List V) (H : Hp) (Q : VK) : Prop
 | mk (p : Addr) (ys : List V) (l : List Dt) : (xs = [.ref p]) → (SqL K H p ys) → (IsPs K H l ys) → (∀ v H',Same H H' → IsP K H' (.tup l) v → Q v H') → JTupP K xs H Q
noncomputable def nTupP (K : PySem.W.Frag) : List V → Hp → VK → Prop := fun xs H Q => JTupP K xs H Q
theorem ix_tupPN (hK : X.K = K) : IxR X (nIxP K) := by
 subst hK
 intro e1 e2 pins s σ H x y v u Q I rx ry h hs
 obtain ⟨l,i,d,a,b,c,q⟩ := h
 exact ix_tupP _ _ _ _ _ _ _ _ _ _ _ I rx ry ⟨l,i,d,a,b,c,q⟩ hs
theorem op_catPN (hK : X.K = K) : OpR X (binaryOp .Add) (nCatP K) := by
 subst hK
 intro pins s σ H x y v u Q I rx ry h
 obtain ⟨l,m,a,b,c,q⟩ := h
 exact op_catP _ _ _ _ _ _ _ _ _ I rx ry ⟨l,m,a,b,c,q⟩
theorem call_lenDN (hK : X.K = K) : CallR X (.builtin "len") (nLenD K) := by
 subst hK
 intro pins s σ H xs us Q I r h
 obtain ⟨x,l,a,b,q⟩ := h
 exact call_lenD _ _ _ _ _ _ _ I r ⟨x,l,a,b,q⟩
theorem call_isiN' (hK : X.K = K) : CallR X (.builtin "isinstance") (nIsi K) := by
 subst hK
 intro pins s σ H xs us Q I r h
 obtain ⟨x,l,m,a,b,q⟩ := h
 exact call_isi _ _ _ _ _ _ _ I r ⟨x,l,m,a,b,q⟩
theorem call_tuplePN (hK : X.K = K) : CallR X (.type "tuple") (nTupP K) := by
 subst hK
 intro pins s σ H xs us Q I r h
 obtain ⟨x,l,m,a,b,c,q⟩ := h
 exact call_tupleP _ _ _ _ _ _ _ I r ⟨x,l,m,a,b,c,q⟩
theorem pi_tupN {tg l : Expr} {tl : TE} (hK : X.K = K) (hl : PE X l tl) : PI X tg l (iTup K tl) := by subst hK; exact pi_tup hl
theorem pi_listN {tg l : Expr} {tl : TE} (hK : X.K = K) (hl : PE X l tl) : PI X tg l (iList K tl) := by subst hK; exact pi_list hl
end
end L2
set_option Elab.async false
set_option linter.all false
set_option maxRecDepth 100000
namespace L2
open PySem PySem.Spec PyProof.Rows
end L2
set_option Elab.async false
set_option linter.all false
set_option maxRecDepth 100000
namespace L2
open PySem PySem.Spec PyProof.Rows
section
variable {prog : Program} {w : World} {A : Around} {E : Value → Shared → Prop} {s : Shared}
theorem nextT_item {b t : Addr} {k : Nat} {its : Array Value} {v : Value} {Q : Value → Shared → Prop} (hb : IsTupIter s.heap b t k) (ht : IsTup s.heap t its) (hv : its[k]? = some v)
  (q : ∀ h',IsTupIter h' b t (k + 1) → Heap.SameBut b s.heap h' → Q v { s with heap := h' }) : wpAny (model prog w) A (Builtin.SmallTypes.nextOf (.ref b)) Q E s := by
 obtain ⟨ob,gb,cb,db⟩ := id hb
 obtain ⟨ot,gt,_,nt,dt⟩ := ht
 unfold Builtin.SmallTypes.nextOf
 refine wpAny_bind (wpAny_callSpecial?_slot (name := Str.ofString "__next__") hb.typeIs slot_tupleiter_next (wpAny_call_entry slot_tupleiter_next hb.typeIs entry_tupleiter_next ?_ (args_tupleiter_next _)))
 refine show wpAny _ _ (field (.ref b) 0 >>= _) _ _ s from wpAny_bind (wpAny_field gb db (x := .ref t) rfl ?_)
 refine show wpAny _ _ (if (Value.ref t == Value.none) = true then _ else _) _ _ s from ?_
 rw [if_neg (by exact Bool.false_ne_true)]
 refine show wpAny _ _ (field (.ref b) 1 >>= _) _ _ s from wpAny_bind (wpAny_field gb db (x := .int k 0) rfl ?_)
 refine show wpAny _ _ (seqItems? (.ref t) >>= _) _ _ s from wpAny_bind (wpAny_seqItems gt dt ?_)
 simp only [hv,Int.toNat_natCast]
 refine wpAny_bind (wpAny_setField gb db (by simp) (wpAny_pure ⟨v,rfl,wpAny_pure (q _ ⟨_,Heap.get?_update_self _ gb (Obj.isFreed_of_fields (Obj.data_mapFields db _)),(Obj.cls_mapFields ..).trans cb,?_⟩ (Heap.SameBut.update ..))⟩))
 rw [Obj.data_mapFields db]
 simp [rawInt]
theorem nextT_end {b t : Addr} {k : Nat} {its : Array Value} {Q : Value → Shared → Prop} (hh : A.handled = none) (hb : IsTupIter s.heap b t k) (ht : IsTup s.heap t its) (hv : its[k]? = none)
  (q : ∀ h' e,Heap.ExtBut b s.heap h' → (∃ o,h'.get? e = some o ∧ o.cls = .type "StopIteration") → E (.ref e) { s with heap := h' }) : wpAny (model prog w) A (Builtin.SmallTypes.nextOf (.ref b)) Q E s := by
 obtain ⟨ob,gb,cb,db⟩ := id hb
 obtain ⟨ot,gt,_,nt,dt⟩ := ht
 unfold Builtin.SmallTypes.nextOf
 refine wpAny_bind (wpAny_callSpecial?_slot (name := Str.ofString "__next__") hb.typeIs slot_tupleiter_next (wpAny_call_entry slot_tupleiter_next hb.typeIs entry_tupleiter_next ?_ (args_tupleiter_next _)))
 refine show wpAny _ _ (field (.ref b) 0 >>= _) _ _ s from wpAny_bind (wpAny_field gb db (x := .ref t) rfl ?_)
 refine show wpAny _ _ (if (Value.ref t == Value.none) = true then _ else _) _ _ s from ?_
 rw [if_neg (by exact Bool.false_ne_true)]
 refine show wpAny _ _ (field (.ref b) 1 >>= _) _ _ s from wpAny_bind (wpAny_field gb db (x := .int k 0) rfl ?_)
 refine show wpAny _ _ (seqItems? (.ref t) >>= _) _ _ s from wpAny_bind (wpAny_seqItems gt dt ?_)
 simp only [hv,Int.toNat_natCast]
 refine wpAny_bind (wpAny_rule (wpAny_bind (wpAny_setField gb db (by simp) ?_)))
 refine show wpAny _ _ (newExc (.type "StopIteration") [] >>= _) _ _ _ from wpAny_bind ?_
 simp only [newTuple,newExc]
 refine wpAny_bind (wpAny_newObj_type (wpAny_bind (m := firstArgMember _ _) (wpAny_of_eq (a := Value.none) (by first | rfl | (simp only [firstArgMember]; rfl)) (wpAny_newObj_type ?_ (by size_fits)))) (by size_fits))
 simp only [raiseNew]
 refine wpAny_bind (wpAny_handled ?_)
 rw [show A.in1.handled = none from hh]
 exact wpAny_bind (wpAny_pure (wpAny_throw (q _ _ (((Heap.SameBut.update ..).extBut.push _).push _) ⟨_,Heap.get?_push_size _ rfl,rfl⟩)))
theorem zipT_item {z P0 P1 u v l m : Addr} {k : Nat} {xs ys : Array Value} {x y a b : Value} {Q : Option Value → Shared → Prop} (D : ZipApart z P0 P1 u v l m) (Z : IsZip s.heap z P0 P1 .none) (I0 : IsPair s.heap P0 (.ref u) (.ref v)) (I1 : IsPair s.heap P1 a b)
  (wu : IsTupIter s.heap u l k) (wv : IsTupIter s.heap v m k) (tl : IsTup s.heap l xs) (tm : IsTup s.heap m ys) (ex : xs[k]? = some x) (ey : ys[k]? = some y)
  (q : ∀ h',IsZip h' z P0 P1 (rawInt s.heap.objs.size) → IsPair h' P1 x y → IsTupIter h' u l (k + 1) → IsTupIter h' v m (k + 1) → IsPair h' s.heap.objs.size x y → h'.objs.size = s.heap.objs.size + 1 →
   (∀ c o,c ≠ z → c ≠ P1 → c ≠ u → c ≠ v → s.heap.get? c = some o → h'.get? c = some o) → Q (some (.ref s.heap.objs.size)) { s with heap := h' }) : wpAny (model prog w) A (pyNext (.ref z)) Q E s := by
 have hT : s.TypeIs (.ref z) "zip" := ⟨_,Z,rfl⟩
 unfold pyNext
 refine wpAny_bind (wpAny_attempt (wpAny_callSpecial?_slot (name := Str.ofString "__next__") hT F.slot_zip_next (wpAny_call_entry F.slot_zip_next hT F.entry_zip_next ?_ (F.args_zip_next_1 _))))
 refine show wpAny _ _ (field (.ref z) 2 >>= _) _ _ _ from wpAny_bind (wpAny_field Z rfl (x := .bool false) rfl ?_)
 refine show wpAny _ _ (field (.ref z) 3 >>= _) _ _ _ from wpAny_bind (wpAny_field Z rfl (x := .ref P0) rfl (wpAny_bind (wpAny_seqItems I0 rfl ?_)))
 refine show wpAny _ _ (Builtin.SmallTypes.ownedTupleIsFree (.ref z) >>= _) _ _ _ from wpAny_bind ?_
 unfold Builtin.SmallTypes.ownedTupleIsFree
 refine wpAny_bind (wpAny_field Z rfl (x := .none) rfl (wpAny_pure ?_))
 rw [if_pos rfl]
 refine wpAny_bind (wpAny_rule (wpAny_bind (wpAny_field Z rfl (x := .ref P1) rfl (wpAny_bind (wpAny_setField_rec Z (by simp) fun ha Za sa => ?_)))))
 replace Za : IsZip ha z P0 P1 .ellipsis := Za
 refine wpAny_bind ?_
 simp only [List.zipIdx_cons,List.forIn_cons,List.zipIdx_nil,List.forIn_nil]
 refine wpAny_bind (wpAny_bind (wpAny_onRaise ?_))
 refine show wpAny _ _ (Builtin.SmallTypes.nextOf (.ref u) >>= _) _ _ _ from wpAny_bind (nextT_item (wu.extBut sa.extBut D.i1z) (tl.extBut sa.extBut D.l1z) ex fun hb wb sb => wpAny_pure ?_)
 have Ib : IsPair hb P1 a b := sb.extBut _ _ D.TOi1 (sa.extBut _ _ D.TOz I1)
 refine wpAny_bind (wpAny_seqItems Ib rfl (wpAny_bind (wpAny_updateSeq_pair Ib fun hc Ic sc => wpAny_bind (wpAny_letGo (wpAny_pure ?_)))))
 replace Ic : IsPair hc P1 x b := Ic
 refine wpAny_bind (wpAny_bind (wpAny_onRaise ?_))
 refine show wpAny _ _ (Builtin.SmallTypes.nextOf (.ref v) >>= _) _ _ _ from wpAny_bind (nextT_item (((wv.extBut sa.extBut D.i2z).extBut sb.extBut D.i12.symm).extBut sc.extBut D.TOi2.symm) (((tm.extBut sa.extBut D.l2z).extBut sb.extBut D.l2i1).extBut sc.extBut D.l2TO) ey fun hd wd sd => wpAny_pure ?_)
 have Id : IsPair hd P1 x b := sd.extBut _ _ D.TOi2 Ic
 refine wpAny_bind (wpAny_seqItems Id rfl (wpAny_bind (wpAny_updateSeq_pair Id fun he Ie se => wpAny_bind (wpAny_letGo (wpAny_pure (wpAny_pure ?_))))))
 replace Ie : IsPair he P1 x y := Ie
 refine wpAny_bind (wpAny_seqItems Ie rfl (wpAny_bind (wpAny_newTuple ?_)))
 have size : he.objs.size = s.heap.objs.size := by rw [se.1,sd.1,sc.1,sb.1,sa.1]
 have Ze : IsZip he z P0 P1 .ellipsis := se.extBut _ _ D.TOz.symm (sd.extBut _ _ D.i2z.symm (sc.extBut _ _ D.TOz.symm (sb.extBut _ _ D.i1z.symm Za)))
 have keep : ∀ c o,c ≠ z → c ≠ P1 → c ≠ u → c ≠ v → s.heap.get? c = some o → he.get? c = some o := fun c o n1 n2 n3 n4 e => se.extBut _ _ n2 (sd.extBut _ _ n4 (sc.extBut _ _ n2 (sb.extBut _ _ n3 (sa.extBut _ _ n1 e))))
 have we : IsTupIter he u l (k + 1) := ((wb.extBut sc.extBut D.TOi1.symm).extBut sd.extBut D.i12).extBut se.extBut D.TOi1.symm
 have we' : IsTupIter he v m (k + 1) := wd.extBut se.extBut D.TOi2.symm
 have ltz : z < he.objs.size := Heap.lt_size Ze
 refine show wpAny _ _ (Builtin.SmallTypes.ownedTupleHandOut (.ref z) (.ref he.objs.size) >>= _) _ _ _ from wpAny_bind ?_
 unfold Builtin.SmallTypes.ownedTupleHandOut
 have Zf : IsZip (he.push { cls := .type "tuple",data := .seq #[x,y] }) z P0 P1 .ellipsis := Heap.get?_push_of_some _ Ze
 refine wpAny_bind (wpAny_setField_rec Zf (by simp) fun hg Zg sg => ?_)
 replace Zg : IsZip hg z P0 P1 (rawInt he.objs.size) := Zg
 refine wpAny_setField_rec Zg (by simp) fun hi Zi si => ?_
 replace Zi : IsZip hi z P0 P1 (rawInt he.objs.size) := Zi
 have up : ∀ c o,c ≠ z → he.get? c = some o → hi.get? c = some o := fun c o n e => si.extBut _ _ n (sg.extBut _ _ n (Heap.get?_push_of_some _ e))
 have Ti : IsPair hi he.objs.size x y := si.extBut _ _ (Nat.ne_of_gt ltz) (sg.extBut _ _ (Nat.ne_of_gt ltz) (Heap.get?_push_size _ rfl))
 have size' : hi.objs.size = he.objs.size + 1 := by rw [si.1,sg.1,Heap.size_push]
 refine wpAny_pure ⟨_,rfl,wpAny_pure ?_⟩
 rw [size] at Zi Ti size'
 have go := q hi Zi (up _ _ D.TOz Ie) (by obtain ⟨o,e,r⟩ := we; exact ⟨o,up _ o D.i1z e,r⟩) (by obtain ⟨o,e,r⟩ := we'; exact ⟨o,up _ o D.i2z e,r⟩) Ti size' fun c o n1 n2 n3 n4 e => up c o n1 (keep c o n1 n2 n3 n4 e)
 rw [← size] at go
 exact go
theorem zipT_end {z P0 P1 u v l m : Addr} {k : Nat} {xs ys : Array Value} {a b : Value} {Q : Option Value → Shared → Prop} (hh : A.handled = none) (D : ZipApart z P0 P1 u v l m) (Z : IsZip s.heap z P0 P1 .none) (I0 : IsPair s.heap P0 (.ref u) (.ref v)) (I1 : IsPair s.heap P1 a b)
  (wu : IsTupIter s.heap u l k) (wv : IsTupIter s.heap v m k) (tl : IsTup s.heap l xs) (tm : IsTup s.heap m ys) (no : xs[k]? = none ∨ ys[k]? = none)
  (q : ∀ h',(∀ c o,c ≠ z → c ≠ P1 → c ≠ u → c ≠ v → s.heap.get? c = some o → h'.get? c = some o) → Q none { s with heap := h' }) : wpAny (model prog w) A (pyNext (.ref z)) Q E s := by
 have hT : s.TypeIs (.ref z) "zip" := ⟨_,Z,rfl⟩
 unfold pyNext
 refine wpAny_bind (wpAny_attempt (wpAny_callSpecial?_slot (name := Str.ofString "__next__") hT F.slot_zip_next (wpAny_call_entry F.slot_zip_next hT F.entry_zip_next ?_ (F.args_zip_next_1 _))))
 refine show wpAny _ _ (field (.ref z) 2 >>= _) _ _ _ from wpAny_bind (wpAny_field Z rfl (x := .bool false) rfl ?_)
 refine show wpAny _ _ (field (.ref z) 3 >>= _) _ _ _ from wpAny_bind (wpAny_field Z rfl (x := .ref P0) rfl (wpAny_bind (wpAny_seqItems I0 rfl ?_)))
 refine show wpAny _ _ (Builtin.SmallTypes.ownedTupleIsFree (.ref z) >>= _) _ _ _ from wpAny_bind ?_
 unfold Builtin.SmallTypes.ownedTupleIsFree
 refine wpAny_bind (wpAny_field Z rfl (x := .none) rfl (wpAny_pure ?_))
 rw [if_pos rfl]
 refine wpAny_bind (wpAny_rule (wpAny_bind (wpAny_field Z rfl (x := .ref P1) rfl (wpAny_bind (wpAny_setField_rec Z (by simp) fun ha Za sa => ?_)))))
 replace Za : IsZip ha z P0 P1 .ellipsis := Za
 refine wpAny_bind ?_
 simp only [List.zipIdx_cons,List.forIn_cons,List.zipIdx_nil,List.forIn_nil]
 refine wpAny_bind (wpAny_bind (wpAny_onRaise ?_))
 have stop : ∀ {h' : Heap} {e : Addr},(∃ o,h'.get? e = some o ∧ o.cls = .type "StopIteration") → IsZip h' z P0 P1 .ellipsis → e ≠ z := fun he hz c => by
  obtain ⟨o,ho,hc⟩ := he
  subst c
  rw [hz] at ho
  cases ho
  simp at hc
 have fin : ∀ {h' : Heap} {e : Addr},(∃ o,h'.get? e = some o ∧ o.cls = .type "StopIteration") → (∀ c o,c ≠ z → c ≠ P1 → c ≠ u → c ≠ v → s.heap.get? c = some o → h'.get? c = some o) →
   wpAny (model prog w) A (do if (← isInstance (.ref e) (.type "StopIteration")) then pure none else throw (.ref e)) Q E { s with heap := h' } := fun {h' e} he hk => by
  obtain ⟨o,ho,hc⟩ := he
  exact wpAny_bind (wpAny_isInstance (T := "StopIteration") (b := true) ⟨o,ho,hc⟩ isSubtype_stop (wpAny_pure (q _ hk)))
 cases ex : xs[k]? with
 | none =>
  refine show wpAny _ _ (Builtin.SmallTypes.nextOf (.ref u) >>= _) _ _ _ from wpAny_bind (nextT_end hh (wu.extBut sa.extBut D.i1z) (tl.extBut sa.extBut D.l1z) ex fun hb e sb he => ?_)
  have Zb : IsZip hb z P0 P1 .ellipsis := sb _ _ D.i1z.symm Za
  have ne := stop he Zb
  obtain ⟨o,ho,hc⟩ := he
  exact wpAny_setField_rec Zb (by simp) fun hd _ sd => fin ⟨o,sd.extBut _ _ ne ho,hc⟩ fun c o n1 _ n3 _ e => sd.extBut _ _ n1 (sb _ _ n3 (sa.extBut _ _ n1 e))
 | some x =>
  have ey : ys[k]? = none := no.resolve_left (by rw [ex]; simp)
  refine show wpAny _ _ (Builtin.SmallTypes.nextOf (.ref u) >>= _) _ _ _ from wpAny_bind (nextT_item (wu.extBut sa.extBut D.i1z) (tl.extBut sa.extBut D.l1z) ex fun hb wb sb => wpAny_pure ?_)
  have Ib : IsPair hb P1 a b := sb.extBut _ _ D.TOi1 (sa.extBut _ _ D.TOz I1)
  refine wpAny_bind (wpAny_seqItems Ib rfl (wpAny_bind (wpAny_updateSeq_pair Ib fun hc Ic sc => wpAny_bind (wpAny_letGo (wpAny_pure (wpAny_bind (wpAny_bind (wpAny_onRaise ?_))))))))
  refine show wpAny _ _ (Builtin.SmallTypes.nextOf (.ref v) >>= _) _ _ _ from wpAny_bind (nextT_end hh (((wv.extBut sa.extBut D.i2z).extBut sb.extBut D.i12.symm).extBut sc.extBut D.TOi2.symm) (((tm.extBut sa.extBut D.l2z).extBut sb.extBut D.l2i1).extBut sc.extBut D.l2TO) ey fun hd e sd he => ?_)
  have Zd : IsZip hd z P0 P1 .ellipsis := sd _ _ D.i2z.symm (sc.extBut _ _ D.TOz.symm (sb.extBut _ _ D.i1z.symm Za))
  have ne := stop he Zd
  obtain ⟨o,ho,hcl⟩ := he
  exact wpAny_setField_rec Zd (by simp) fun hf _ sf => fin ⟨o,sf.extBut _ _ ne ho,hcl⟩ fun c o n1 n2 n3 n4 e => sf.extBut _ _ n1 (sd _ _ n4 (sc.extBut _ _ n2 (sb.extBut _ _ n3 (sa.extBut _ _ n1 e))))
theorem walkT (hh : A.handled = none) (z P0 P1 u v l m : Addr) (D : ZipApart z P0 P1 u v l m) (xs ys : Array Value) :
  WalksT prog w A z [z,P0,P1,u,v,l,m] [z,P1,u,v] (min xs.size ys.size) (fun i vals => ∃ x y,xs[i]? = some x ∧ ys[i]? = some y ∧ vals = #[x,y])
   (fun i h => IsZip h z P0 P1 .none ∧ IsPair h P0 (.ref u) (.ref v) ∧ (∃ a b,IsPair h P1 a b) ∧ IsTupIter h u l i ∧ IsTupIter h v m i ∧ IsTup h l xs ∧ IsTup h m ys)
   (fun i T h => IsZip h z P0 P1 (rawInt T) ∧ IsPair h P0 (.ref u) (.ref v) ∧ (∃ a b,IsPair h P1 a b) ∧ IsTupIter h u l (i + 1) ∧ IsTupIter h v m (i + 1) ∧ IsTup h l xs ∧ IsTup h m ys ∧ T ≠ z ∧ T ≠ P1 ∧ T ≠ u ∧ T ≠ v) where
 sub := fun c hc => by
  simp only [List.mem_cons,List.not_mem_nil,or_false] at hc ⊢
  rcases hc with h | h | h | h <;> simp [h]
 frame := fun i h h' st kk => by
  obtain ⟨Z,I0,⟨a,b,I1⟩,⟨o1,e1,r1⟩,⟨o2,e2,r2⟩,⟨o3,e3,r3⟩,⟨o4,e4,r4⟩⟩ := st
  exact ⟨kk z (by simp) _ Z,kk P0 (by simp) _ I0,⟨a,b,kk P1 (by simp) _ I1⟩,⟨o1,kk u (by simp) _ e1,r1⟩,⟨o2,kk v (by simp) _ e2,r2⟩,⟨o3,kk l (by simp) _ e3,r3⟩,⟨o4,kk m (by simp) _ e4,r4⟩⟩
 item := fun i s Q E hi st q => by
  obtain ⟨Z,I0,⟨a,b,I1⟩,wu,wv,tl,tm⟩ := st
  have h1 : i < xs.size := by lia
  have h2 : i < ys.size := by lia
  refine zipT_item D Z I0 I1 wu wv tl tm (Array.getElem?_eq_getElem h1) (Array.getElem?_eq_getElem h2) fun h' a1 a2 a3 a4 a5 a6 kk => ?_
  have far : ∀ {c o},s.heap.get? c = some o → s.heap.objs.size ≠ c := fun e => Nat.ne_of_gt (Heap.lt_size e)
  obtain ⟨o1,e1,_⟩ := wu
  obtain ⟨o2,e2,_⟩ := wv
  obtain ⟨o3,e3,r3⟩ := tl
  obtain ⟨o4,e4,r4⟩ := tm
  refine q s.heap.objs.size #[xs[i],ys[i]] h' s.toks ⟨_,_,Array.getElem?_eq_getElem h1,Array.getElem?_eq_getElem h2,rfl⟩ (Nat.le_refl _) ⟨_,a5,rfl,_,rfl⟩ ⟨a1,kk _ _ D.TIz D.TITO D.TIi1 D.TIi2 I0,⟨_,_,a2⟩,a3,a4,⟨o3,kk _ _ D.l1z D.l1TO D.l1i1 D.l1i2 e3,r3⟩,⟨o4,kk _ _ D.l2z D.l2TO D.l2i1 D.l2i2 e4,r4⟩,far Z,far I1,far e1,far e2⟩ fun c o hc e => ?_
  simp only [List.mem_cons,List.not_mem_nil,or_false,not_or] at hc
  exact kk c o hc.1 hc.2.1 hc.2.2.1 hc.2.2.2 e
 go := fun elts k pos i T s Q E st q => by
  obtain ⟨Z,I0,⟨a,b,I1⟩,wu,wv,tl,tm,_⟩ := st
  refine wpAny_letOwnedTupleGo_zip Z fun h' Z' s' => q h' ⟨Z',s'.extBut _ _ D.TIz I0,⟨a,b,s'.extBut _ _ D.TOz I1⟩,wu.extBut s'.extBut D.i1z,wv.extBut s'.extBut D.i2z,tl.extBut s'.extBut D.l1z,tm.extBut s'.extBut D.l2z⟩ fun c o hc e => ?_
  simp only [List.mem_cons,List.not_mem_nil,or_false,not_or] at hc
  exact s'.extBut _ _ hc.1 e
 apart := fun i T h st hT => by
  obtain ⟨_,_,_,_,_,_,_,n1,n2,n3,n4⟩ := st
  simp only [List.mem_cons,List.not_mem_nil,or_false] at hT
  rcases hT with h | h | h | h
  ·exact n1 h
  ·exact n2 h
  ·exact n3 h
  ·exact n4 h
 done := fun s Q E st q => by
  obtain ⟨Z,I0,⟨a,b,I1⟩,wu,wv,tl,tm⟩ := st
  have no : xs[min xs.size ys.size]? = none ∨ ys[min xs.size ys.size]? = none := by
   rcases Nat.le_total xs.size ys.size with h | h
   ·exact .inl (Array.getElem?_eq_none (by lia))
   ·exact .inr (Array.getElem?_eq_none (by lia))
  refine zipT_end hh D Z I0 I1 wu wv tl tm no fun h' kk => q h' s.toks fun c o hc e => ?_
  simp only [List.mem_cons,List.not_mem_nil,or_false,not_or] at hc
  exact kk c o hc.1 hc.2.1 hc.2.2.1 hc.2.2.2 e
 self := fun i s Q E st q => wpAny_pyIter_zip st.1 q
noncomputable abbrev zT1 (h : Heap) (l : Addr) : Heap := h.push { cls := .type "tuple_iterator",data := .fields #[.ref l,.int 0 0] }
noncomputable abbrev zT2 (h : Heap) (l m : Addr) : Heap := (zT1 h l).push { cls := .type "tuple_iterator",data := .fields #[.ref m,.int 0 0] }
noncomputable abbrev zT3 (h : Heap) (l m : Addr) : Heap := (zT2 h l m).push { cls := .type "tuple",data := .seq #[.ref h.objs.size,.ref (zT1 h l).objs.size] }
noncomputable abbrev zT4 (h : Heap) (l m : Addr) : Heap := (zT3 h l m).push { cls := .type "tuple",data := .seq #[.none,.none] }
noncomputable abbrev zT5 (h : Heap) (l m : Addr) : Heap := (zT4 h l m).push { cls := .type "zip",data := .fields #[.none,.bool false,.bool false,.ref (zT2 h l m).objs.size,.ref (zT3 h l m).objs.size] }
theorem meets_zipT (l m : Addr) (xs ys : Array Value) :
  Meets (Builtin.«zip.__new__» ⟨[.type "zip",.ref l,.ref m],[]⟩) (fun _ R s => IsTup s.heap l xs ∧ IsTup s.heap m ys ∧ R (.ok (.ret (.ref (zT4 s.heap l m).objs.size))) { s with heap := zT5 s.heap l m }) :=
 .of_wp fun prog w A R s h => by
  obtain ⟨hp,g,d,tk,os⟩ := s
  obtain ⟨tl,tm,h⟩ := h
  have sub := sub_zip
  have T1 : IsTup (Shared.heap ⟨hp,g,d,tk,os⟩) l xs := tl
  have T2 : IsTup (Shared.heap ⟨hp.push { cls := .type "tuple_iterator",data := .fields #[.ref l,.int 0 0] },g,d,tk,os⟩) m ys := IsTup.push tm _
  wp_walk using iter_tuple T1,iter_tuple T2
  exact ⟨_,rfl,h⟩
theorem call_zipT {l m : Addr} {xs ys : Array Value} {Q : Value → Shared → Prop} (tl : IsTup s.heap l xs) (tm : IsTup s.heap m ys)
  (q : ∀ h',IsZip h' (s.heap.objs.size + 4) (s.heap.objs.size + 2) (s.heap.objs.size + 3) .none → IsPair h' (s.heap.objs.size + 2) (.ref s.heap.objs.size) (.ref (s.heap.objs.size + 1)) → IsPair h' (s.heap.objs.size + 3) .none .none →
   IsTupIter h' s.heap.objs.size l 0 → IsTupIter h' (s.heap.objs.size + 1) m 0 → h'.objs.size = s.heap.objs.size + 5 → (∀ c o,s.heap.get? c = some o → h'.get? c = some o) → Q (.ref (s.heap.objs.size + 4)) { s with heap := h' }) :
  wpAny (model prog w) A (call (.type "zip") [.ref l,.ref m]) Q E s := by
 refine callType_new F.called_zip (by decide) (F.typeCall_zip_2 _ _) (F.newCall_zip_2 _ _) (fun obj => F.args_object_init_3 obj _ _) F.entry_zip_new (meets_zipT l m xs ys) ⟨tl,tm,?_⟩
 have n1 : (zT1 s.heap l).objs.size = s.heap.objs.size + 1 := Heap.size_push ..
 have n2 : (zT2 s.heap l m).objs.size = s.heap.objs.size + 2 := by rw [Heap.size_push,n1]
 have n3 : (zT3 s.heap l m).objs.size = s.heap.objs.size + 3 := by rw [Heap.size_push,n2]
 have n4 : (zT4 s.heap l m).objs.size = s.heap.objs.size + 4 := by rw [Heap.size_push,n3]
 have n5 : (zT5 s.heap l m).objs.size = s.heap.objs.size + 5 := by rw [Heap.size_push,n4]
 have e5 : (zT5 s.heap l m).get? (zT4 s.heap l m).objs.size = some _ := Heap.get?_push_size _ rfl
 have e4 : (zT5 s.heap l m).get? (zT3 s.heap l m).objs.size = some _ := Heap.get?_push_of_some _ (Heap.get?_push_size _ rfl)
 have e3 : (zT5 s.heap l m).get? (zT2 s.heap l m).objs.size = some _ := Heap.get?_push_of_some _ (Heap.get?_push_of_some _ (Heap.get?_push_size _ rfl))
 have e2 : (zT5 s.heap l m).get? (zT1 s.heap l).objs.size = some _ := Heap.get?_push_of_some _ (Heap.get?_push_of_some _ (Heap.get?_push_of_some _ (Heap.get?_push_size _ rfl)))
 have e1 : (zT5 s.heap l m).get? s.heap.objs.size = some _ := Heap.get?_push_of_some _ (Heap.get?_push_of_some _ (Heap.get?_push_of_some _ (Heap.get?_push_of_some _ (Heap.get?_push_size _ rfl))))
 refine show _ ∧ _ from ?_
 rw [n2,n3,n4] at e5
 rw [n1,n2] at e3
 rw [n3] at e4
 rw [n1] at e2
 rw [n4]
 exact ⟨⟨_,e5,rfl⟩,q _ e5 e3 e4 ⟨_,e1,rfl,rfl⟩ ⟨_,e2,rfl,rfl⟩ n5 fun c o x => Heap.get?_push_of_some _ (Heap.get?_push_of_some _ (Heap.get?_push_of_some _ (Heap.get?_push_of_some _ (Heap.get?_push_of_some _ x))))⟩
end
noncomputable def ItzT (K : PySem.W.Frag) (a b : Addr) : It :=
 ⟨fun i H => ∃ xs ys x y,SqT K H a xs ∧ SqT K H b ys ∧ xs[i]? = some x ∧ ys[i]? = some y,
  fun i H v H' => ∃ T x y,v = .ref T ∧ H T = none ∧ H' = upd H T (.tup [x,y]) ∧ (∀ xs,SqT K H a xs → xs[i]? = some x) ∧ (∀ ys,SqT K H b ys → ys[i]? = some y),
  fun i H => ∃ xs ys,SqT K H a xs ∧ SqT K H b ys ∧ min xs.length ys.length = i⟩
noncomputable def zipTnT (z TI TO i1 i2 l1 l2 : Addr) (i : Nat) (h : Heap) : Prop := IsZip h z TI TO .none ∧ IsPair h TI (.ref i1) (.ref i2) ∧ (∃ a b,IsPair h TO a b) ∧ IsTupIter h i1 l1 i ∧ IsTupIter h i2 l2 i
theorem turn_zipT {P : Program} {w : World} {K : PySem.W.Frag} {elts : List Expr} {k : Nat} {pos : Pos} (z TI TO i1 i2 l1 l2 : Addr) (D : ZipApart z TI TO i1 i2 l1 l2) :
  Turn P w K (.Tuple elts k pos) (ItzT K l1 l2) [z,TI,TO,i1,i2] z (zipTnT z TI TO i1 i2 l1 l2) where
 mem := by simp
 obj := fun i h st b hb => by
  obtain ⟨hz,hTI,⟨a,c,hTO⟩,⟨o1,e1,c1,d1⟩,⟨o2,e2,c2,d2⟩⟩ := st
  simp only [List.mem_cons,List.not_mem_nil,or_false] at hb
  rcases hb with rfl | rfl | rfl | rfl | rfl
  ·exact ⟨_,hz,fun v q => by cases q⟩
  ·exact ⟨_,hTI,fun v q => by cases q⟩
  ·exact ⟨_,hTO,fun v q => by cases q⟩
  ·exact ⟨o1,e1,fun v q => by rw [d1] at q; cases q⟩
  ·exact ⟨o2,e2,fun v q => by rw [d2] at q; cases q⟩
 keep := fun i h h' st kk => by
  obtain ⟨hz,hTI,⟨a,c,hTO⟩,⟨o1,e1,r1⟩,⟨o2,e2,r2⟩⟩ := st
  exact ⟨kk z (by simp) _ hz,kk TI (by simp) _ hTI,⟨a,c,kk TO (by simp) _ hTO⟩,⟨o1,kk i1 (by simp) _ e1,r1⟩,⟨o2,kk i2 (by simp) _ e2,r2⟩⟩
 item := by
  intro X hP hw hK hc i pins s σ H E I hf st hg
  subst hP hw hK
  obtain ⟨xs,ys,x,y,hx,hy,ex,ey⟩ := hg
  obtain ⟨its,rv,p,hz⟩ := I.tuple hx
  obtain ⟨its2,rv2,p2,hz2⟩ := I.tuple hy
  obtain ⟨s1,s2,s3,s4,s5⟩ := st
  have W := walkT (prog := X.prog) (w := X.w) (I.ok.hd hc) z TI TO i1 i2 l1 l2 D its.toArray its2.toArray
  have li : i < xs.length := (List.getElem?_eq_some_iff.mp ex).1
  have li2 : i < ys.length := (List.getElem?_eq_some_iff.mp ey).1
  have el := rv.length
  have el2 := rv2.length
  have wsub : ∀ b ∈ [z,TO,i1,i2],b ∈ [z,TI,TO,i1,i2] := fun b hb => by
   simp only [List.mem_cons,List.not_mem_nil,or_false] at hb ⊢
   rcases hb with rfl | rfl | rfl | rfl <;> simp
  refine W.item i s _ _ (by simp only [List.size_toArray]; lia) ⟨s1,s2,s3,s4,s5,p,p2⟩ fun T vals h' tk hv hT hTup hm hk => ?_
  obtain ⟨u,v,eu,ev,rfl⟩ := hv
  obtain ⟨u',eu',ru⟩ := rv.get ex
  obtain ⟨v',ev',rv'⟩ := rv2.get ey
  have e1 : u = u' := by
   have : its[i]? = some u := by simpa using eu
   rw [eu'] at this
   exact (Option.some.inj this).symm
  have e2 : v = v' := by
   have : its2[i]? = some v := by simpa using ev
   rw [ev'] at this
   exact (Option.some.inj this).symm
  subst e1 e2
  have hTn : H T = none := I.hok.fresh hT
  have I1 : Inv X pins σ (upd H T (.tup [x,y])) { s with heap := h',toks := tk } := I.turnedT hk (fun b hb => hf b (wsub b hb)) hT ⟨by show 2 ≤ sizeLine; decide,[u,v],.cons ru (.cons rv' .nil),hTup⟩
  have ap := W.apart i T h' hm
  have f1 : ∀ b ∈ [z,TO,i1,i2],FpOk X pins (upd H T (.tup [x,y])) b := fun b hb => by
   obtain ⟨f0,f1⟩ := hf b (wsub b hb)
   exact ⟨by rw [upd_ne (fun e : b = T => ap (by rw [← e]; exact hb))]; exact f0,f1⟩
  refine ⟨_,rfl,W.go elts k pos i T _ _ _ hm fun h'' st2 hk2 => ?_⟩
  obtain ⟨t1,t2,t3,t4,t5,_,_⟩ := st2
  refine ⟨.ref T,_,Inv.turnedL (s := { s with heap := h',toks := tk }) (t' := tk) I1 hk2 f1,rfl,⟨T,x,y,rfl,hTn,rfl,fun zs q => by rw [I.tuple_inj q hx]; exact ex,fun zs q => by rw [I.tuple_inj q hy]; exact ey⟩,⟨t1,t2,t3,t4,t5⟩,fun b hb => ?_⟩
  have fb := (hf b hb).1
  by_cases e : b = T
  ·subst e
   have lti : s.heap.objs.size > TI := Heap.lt_size s2
   simp only [List.mem_cons,List.not_mem_nil,or_false] at hb
   rcases hb with rfl | rfl | rfl | rfl | rfl
   ·exact absurd (by simp) ap
   ·exact absurd lti (Nat.not_lt.mpr hT)
   ·exact absurd (by simp) ap
   ·exact absurd (by simp) ap
   ·exact absurd (by simp) ap
  ·rw [upd_ne e]; exact fb
 done := by
  intro X hP hw hK hc i pins s σ H E I hf st hg
  subst hP hw hK
  obtain ⟨xs,ys,hx,hy,hi⟩ := hg
  obtain ⟨its,rv,p,hz⟩ := I.tuple hx
  obtain ⟨its2,rv2,p2,hz2⟩ := I.tuple hy
  obtain ⟨s1,s2,s3,s4,s5⟩ := st
  have W := walkT (prog := X.prog) (w := X.w) (I.ok.hd hc) z TI TO i1 i2 l1 l2 D its.toArray its2.toArray
  have el := rv.length
  have el2 := rv2.length
  have en : min its.toArray.size its2.toArray.size = i := by simp only [List.size_toArray]; lia
  have wsub : ∀ b ∈ [z,TO,i1,i2],b ∈ [z,TI,TO,i1,i2] := fun b hb => by
   simp only [List.mem_cons,List.not_mem_nil,or_false] at hb ⊢
   rcases hb with rfl | rfl | rfl | rfl <;> simp
  refine W.done s _ _ ?_ fun h' tk hk => ⟨rfl,I.turnedL hk fun b hb => hf b (wsub b hb)⟩
  rw [en]
  exact ⟨s1,s2,s3,s4,s5,p,p2⟩
 self := fun _ _ _ _ _ st h => wpAny_pyIter_zip st.1 h
section
variable {X : Cx} {elts : List Expr} {k : Nat} {tpos : Pos}
noncomputable def iZipT (K : PySem.W.Frag) (ta : TA) : TI := fun σ H R => ta σ H fun vs H1 => ∃ a b,vs = [.ref a,.ref b] ∧ (∃ xs,SqT K H1 a xs) ∧ (∃ ys,SqT K H1 b ys) ∧ R (ItzT K a b) H1
theorem pi_zipT {a b : Expr} {ta : TA} {p pos : Pos} (hg : Gl X "zip") (hm : X.mg "zip" = none) (ha : PA X [a,b] ta) (hs : starEach [a,b] X.env = [(false,eval a X.env),(false,eval b X.env)] := by rfl) (hs2 : starEach [b] X.env = [(false,eval b X.env)] := by rfl) :
  PI X (.Tuple elts k tpos) (.Call (.Name "zip" p) [a,b] [] pos) (iZipT X.K ta) := by
 intro pins s σ H R I h
 refine Call_ (ld_blt I hg hm boot_zip (PyProof.Rows.callWith_type1 (thn (ha pos pins s σ H _ I h) fun us s1 ⟨vs,H1,I1,r1,q1⟩ => ?_) (by rw [hs,hs2]) (by rw [hs2]; rfl)))
 obtain ⟨l1,l2,e,⟨xs,hx⟩,⟨ys,hy⟩,q⟩ := q1
 subst e
 obtain ⟨u,v,rfl,ru,rv⟩ := r1.two
 cases ru
 cases rv
 obtain ⟨its,rr,pl,hz⟩ := I1.tuple hx
 obtain ⟨its2,rr2,pl2,hz2⟩ := I1.tuple hy
 have lt1 : l1 < s1.heap.objs.size := by obtain ⟨o,e,_⟩ := pl; exact Heap.lt_size e
 have lt2 : l2 < s1.heap.objs.size := by obtain ⟨o,e,_⟩ := pl2; exact Heap.lt_size e
 refine call_zipT pl pl2 fun h' z1 z2 z3 z4 z5 zs kk => ?_
 have I2 : Inv X pins σ H1 { s1 with heap := h' } := I1.kept (t' := s1.toks) kk
 refine wpAny_pyIter_zip z1 ?_
 refine ⟨_,_,_,_,H1,rfl,I2,turn_zipT _ _ _ _ _ l1 l2 ?_,⟨z1,z2,⟨_,_,z3⟩,z4,z5⟩,fun b hb => ?_,q⟩
 ·have lt1' : s1.heap.objs.size > l1 := lt1
  have lt2' : s1.heap.objs.size > l2 := lt2
  constructor <;> (show ¬ (@Eq Nat _ _)) <;> lia
 ·have : s1.heap.objs.size ≤ b := by
   simp only [List.mem_cons,List.not_mem_nil,or_false] at hb
   rcases hb with rfl | rfl | rfl | rfl | rfl <;> lia
  exact I1.fpOk this (I1.hok.fresh this)
end
theorem comp_zipT {K : PySem.W.Frag} {a b l : Addr} {xs ys : List V} {g : TG} {tb : List V → Addr → St → Hp → (List V → St → Hp → Prop) → Prop} {Q : VK} {σ0 : St} {H0 : Hp} (Pv : Nat → List V → St → Hp → Prop) (h0 : Pv 0 [] σ0 H0)
  (hla : ∀ i us σ H,Pv i us σ H → SqT K H a xs ∧ SqT K H b ys)
  (hs : ∀ i x y T us σ H (N : List V → St → Hp → Prop),xs[i]? = some x → ys[i]? = some y → H T = none → Pv i us σ H → (∀ us' σ' H',Pv (i + 1) us' σ' H' → N us' σ' H') → g (.ref T) σ (upd H T (.tup [x,y])) fun σ2 H2 => tb us l σ2 H2 N)
  (hd : ∀ us σ H,Pv (min xs.length ys.length) us σ H → Q (.ref l) H) :
  ∃ W : Nat → Nat → List V → St → Hp → Prop,(∃ m,W 0 m [] σ0 H0) ∧ ∀ i m us σ' H',W i m us σ' H' → ((ItzT K a b).stop i H' ∧ Q (.ref l) H') ∨
   ((ItzT K a b).go i H' ∧ ∀ x H'',(ItzT K a b).yld i H' x H'' → g x σ' H'' fun σ2 H2 => tb us l σ2 H2 fun us' σ3 H3 => ∃ m',m' < m ∧ W (i + 1) m' us' σ3 H3) := by
 refine ⟨fun i m us σ H => m = min xs.length ys.length - i ∧ i ≤ min xs.length ys.length ∧ Pv i us σ H,⟨_,rfl,Nat.zero_le _,h0⟩,?_⟩
 rintro i m us σ H ⟨rfl,hi,p⟩
 obtain ⟨sa,sb⟩ := hla i us σ H p
 by_cases hlt : i < min xs.length ys.length
 ·obtain ⟨x,ex⟩ : ∃ x,xs[i]? = some x := ⟨_,List.getElem?_eq_getElem (by lia)⟩
  obtain ⟨y,ey⟩ : ∃ y,ys[i]? = some y := ⟨_,List.getElem?_eq_getElem (by lia)⟩
  refine .inr ⟨⟨xs,ys,x,y,sa,sb,ex,ey⟩,fun v H' q => ?_⟩
  obtain ⟨T,x',y',rfl,hT,rfl,q1,q2⟩ := q
  have e1 := q1 xs sa
  have e2 := q2 ys sb
  exact hs i x' y' T us σ H _ e1 e2 hT p fun us' σ' H' w => ⟨_,by lia,rfl,hlt,w⟩
 ·have e : i = min xs.length ys.length := by lia
  subst e
  exact .inl ⟨⟨xs,ys,sa,sb,rfl⟩,hd us σ H p⟩
end L2
set_option Elab.async false
set_option linter.all false
set_option maxRecDepth 100000
namespace L2
open PySem PySem.Spec PyProof.Rows
section
variable {X : Cx} {K : PySem.W.Frag}
theorem op_le_str : OpR X (compareOp .LtE) (fun x y H Q => ∃ i j,x = .str i ∧ y = .str j ∧ Q (.bl (!decide (j.cps.toList < i.cps.toList))) H) := by
 intro pins s σ H x y v u Q I rx ry h
 obtain ⟨i,j,rfl,rfl,q⟩ := h
 obtain ⟨t,rfl⟩ := rx
 obtain ⟨t',rfl⟩ := ry
 exact PySem.P.le_str (fin_bl I q rfl)
theorem carried_strs : ∀ {zs : List Str} {us : List Value},Vals (zs.map V.str) us → CarriedAll us (zs.map fun z => PyData.str (id z))
 | [],us,h => by cases h; exact .nil
 | z :: zs,us,h => by
  cases h with
  | cons r rr =>
   obtain ⟨t,rfl⟩ := r
   exact .cons (.str z t) (carried_strs rr)
theorem mt_join1 : MtM X "str.join" (fun x vs H Q => ∃ (p : Addr) (zs : List Str),x = .str "" ∧ vs = [.ref p] ∧ SqL X.K H p (zs.map V.str) ∧ (∀ z ∈ zs,z.length = 1) ∧ zs.length ≤ 1000 ∧ Q (.str (Txt.join (Str.ofString "") zs)) H) := by
 intro pins s σ H x vs v us Q I rx rv h
 obtain ⟨p,zs,rfl,rfl,hp,h1,hz,q⟩ := h
 obtain ⟨t,rfl⟩ := rx
 obtain ⟨u,rfl,e⟩ := rv.one
 cases e
 obtain ⟨its,rr,pl,_⟩ := I.list hp
 refine PySem.W.KT.join_1 (l := zs) (g := id) pl.isList (carried_strs rr) h1 (by lia) fun t' k _ => ?_
 rw [List.map_id]
 exact ⟨.str _,H,I.kept (t' := k) (fun _ _ e => e),⟨t',rfl⟩,q⟩
end
end L2
set_option Elab.async false
set_option linter.all false
set_option maxRecDepth 100000
namespace L2
open PySem PySem.Spec PyProof.Rows
section
variable {prog : Program} {w : World} {A : Around} {E : Value → Shared → Prop} {s : Shared}
theorem dict_len_slot : typeLookup (.type "dict") "__len__" = pure (some (.builtin "dict.__len__")) := by rw [typeLookup_type,builtinLookup_eq_fast]; kernel_rfl
theorem collectD {d : Addr} {kvs : List (Key × Value)} {Q : List Value → Shared → Prop} (hh : A.handled = none) (hd : (d == sysModules) = false) (hm : s.heap.DictOf (mixKind prog w) d kvs) (hn : kvs.length ≤ sizeLine)
  (q : ∀ s' acc,(∀ b o,s.heap.get? b = some o → s'.heap.get? b = some o) → s.heap.objs.size < s'.heap.objs.size → s'.gens = s.gens → s'.drawn = s.drawn → s'.os = s.os → ItemsOf (fun i v => ∃ k x,kvs[i]? = some (k,x) ∧ (mixKind prog w).is k v = true) acc kvs.length → Q acc.toList s') :
  wpAny (model prog w) A (collect (.ref d)) Q E s := by
 obtain ⟨ep,at0⟩ := hm.dictAt
 have hdT : s.TypeIs (.ref d) "dict" := hm.typeIs
 unfold collect
 refine wpAny_bind (wpAny_runValue (codeAny_builtin F.entry_proto_collect ?_))
 rw [Around.under_plainId F.plain_proto_collect _]
 refine show wpAny _ A.in1 (newList [] >>= fun l => again (.builtin "list.__iadd__" ⟨[l,.ref d],[]⟩)) _ _ s from wpAny_bind (wpAny_newObj_type ?_)
 refine wpAny_pure ⟨plainId_quiet F.plain_list_iadd _,codeAny_builtin F.entry_list_iadd ?_⟩
 rw [Around.under_plainId F.plain_list_iadd _]
 have ltd : d < s.heap.objs.size := at0.lt_size
 have at1 := at0.push { cls := .type "list",data := .seq ([] : List Value).toArray }
 generalize hH : s.heap.push { cls := .type "list",data := .seq ([] : List Value).toArray } = G at at1 ⊢
 have hT1 : Shared.TypeIs { s with heap := G } (.ref d) "dict" := at1.dictOf.typeIs
 refine show wpAny _ A.in1 (Builtin.List.listExtendWith (.ref s.heap.objs.size) (.ref d) (.ref s.heap.objs.size)) _ _ _ from ?_
 unfold Builtin.List.listExtendWith
 refine wpAny_bind (wpAny_typeOf hT1 ?_)
 have n1 : Builtin.List.listSameRef (.ref s.heap.objs.size) (.ref d) = false := by simp [Builtin.List.listSameRef]; exact Nat.ne_of_gt ltd
 simp only [n1,show (Value.type "dict" == Value.type "list") = false by decide,show (Value.type "dict" == Value.type "tuple") = false by decide,Bool.or_false,Bool.false_eq_true,if_false]
 refine wpAny_bind (wpAny_pyIter_dict hd at1 ?_)
 refine wpAny_bind (wpAny_holding ?_)
 have at2 := at1.push { cls := .type "dict_keyiterator",data := .fields #[.ref d,.int 0 0,.int kvs.length 0,.int ep 0] }
 have k2 : Heap.IsKeyIter (G.push { cls := .type "dict_keyiterator",data := .fields #[.ref d,.int 0 0,.int kvs.length 0,.int ep 0] }) G.objs.size d 0 kvs.length ep := ⟨_,Heap.get?_push_size _ rfl,rfl,rfl⟩
 have S2 : (G.push { cls := .type "dict_keyiterator",data := .fields #[.ref d,.int 0 0,.int kvs.length 0,.int ep 0] }).get? s.heap.objs.size = some { cls := .type "list",data := .seq ([] : List Value).toArray } := Heap.get?_push_of_some _ (hH ▸ Heap.get?_push_size _ rfl)
 have keep2 : ∀ b o,s.heap.get? b = some o → (G.push { cls := .type "dict_keyiterator",data := .fields #[.ref d,.int 0 0,.int kvs.length 0,.int ep 0] }).get? b = some o := fun b o e => Heap.get?_push_of_some _ (hH ▸ Heap.get?_push_of_some _ e)
 have sizeG : G.objs.size = s.heap.objs.size + 1 := by rw [← hH,Heap.size_push]
 generalize G.push { cls := .type "dict_keyiterator",data := .fields #[.ref d,.int 0 0,.int kvs.length 0,.int ep 0] } = G2 at at2 k2 S2 keep2 ⊢
 have hT2 : Shared.TypeIs { s with heap := G2 } (.ref d) "dict" := at2.dictOf.typeIs
 unfold Builtin.List.listLengthHint
 refine wpAny_bind (wpAny_specialOf hT2 dict_len_slot ?_)
 wp_delta
 refine wpAny_bind (wpAny_isInstance (b := true) hT2 (by rw [isSubtype_type]; kernel_rfl) ?_)
 refine show wpAny _ A.in1 (typeOf (Value.ref d) >>= _) _ _ _ from wpAny_bind (wpAny_typeOf hT2 (wpAny_pure ?_))
 rw [if_pos (by decide)]
 refine wpAny_bind (wpAny_rule (wpAny_bind ?_))
 refine show wpAny _ A.in1 (updateSeq s.heap.objs.size (·.push .none) >>= fun _ => updateSeq s.heap.objs.size (·.pop)) _ _ _ from wpAny_bind (wpAny_updateSeq S2 rfl ?_)
 have S3 := Heap.get?_update_self (Obj.mapSeq (·.push Value.none)) S2 rfl
 refine wpAny_updateSeq (hz := by seq_fits) S3 rfl ?_
 have S4 := Heap.get?_update_self (Obj.mapSeq (·.pop)) S3 rfl
 have oth : ∀ b o,b ≠ s.heap.objs.size → G2.get? b = some o → ((G2.update s.heap.objs.size (Obj.mapSeq (·.push Value.none))).update s.heap.objs.size (Obj.mapSeq (·.pop))).get? b = some o := fun b o n e => (Heap.get?_update_other _ _ (Ne.symm n)).trans ((Heap.get?_update_other _ _ (Ne.symm n)).trans e)
 have nG : G.objs.size ≠ s.heap.objs.size := by rw [sizeG]; exact Nat.succ_ne_self _
 have nd : d ≠ G.objs.size := by rw [sizeG]; exact Nat.ne_of_lt (Nat.lt_succ_of_lt ltd)
 have Wk := Walks.dictKeys (prog := prog) (w := w) (A := A.in1) (knd := mixKind prog w) hh G.objs.size d nd kvs ep
 have hSf : s.heap.objs.size ∉ [G.objs.size,d] := by
  simp only [List.mem_cons,List.not_mem_nil,or_false,not_or]
  exact ⟨nG.symm,Nat.ne_of_gt ltd⟩
 refine wpAny_pure ⟨plainId_quiet F.plain_extend_loop _,codeAny_extend_loopS Wk.toS hn _ hSf _ kvs.length 0 _ _ _ rfl (Nat.zero_le _) ⟨k2.at fun o e => oth _ o nG e,at2.at' fun o e => oth _ o (Nat.ne_of_lt ltd) e⟩ S4 (ItemsOf.nil _) fun s' acc' c' hmv S5 hacc => ?_⟩
 refine show wpAny _ A (load s.heap.objs.size >>= _) _ _ s' from wpAny_bind (wpAny_load S5 (wpAny_pure (q s' acc' (fun b o e => hmv.heap b o (fun hb => ?_) (oth b o (Nat.ne_of_lt (Heap.lt_size e)) (keep2 b o e))) (Heap.lt_size S5) hmv.gens hmv.drawn hmv.os hacc)))
 have hlt := Heap.lt_size e
 simp only [List.mem_cons,List.not_mem_nil,or_false] at hb
 rcases hb with h | h
 ·exact absurd hlt (h ▸ Nat.lt_irrefl _)
 ·rw [h,sizeG] at hlt
  exact absurd hlt (Nat.not_lt.mpr (Nat.le_succ _))
theorem key_str {P : Program} {w : World} {z : Str} {v : Value} (h : (mixKind P w).is (Sum.inr z) v = true) : ∃ t,v = .str z t := by
 rcases keyIs_shape (show keyIs (Sum.inr z) v = true from h) with ⟨i,t,e,_⟩ | ⟨x,t,e,rfl⟩
 ·cases e
 ·cases e
  exact ⟨t,rfl⟩
theorem keys_strs {P : Program} {w : World} : ∀ {ss : List Str} {us : List Value},us.length = ss.length → (∀ (j : Nat) (v : Value),us[j]? = some v → ∃ z,ss[j]? = some z ∧ (mixKind P w).is (Sum.inr z) v = true) → StrsAre us ss
 | [],us,hl,_ => by
  cases us with
  | nil => exact .nil
  | cons u us => cases hl
 | z :: ss,us,hl,h => by
  cases us with
  | nil => cases hl
  | cons u us =>
   obtain ⟨z',e,hz⟩ := h 0 u rfl
   obtain rfl : z = z' := Option.some.inj e
   obtain ⟨t,rfl⟩ := key_str hz
   exact .cons z t (keys_strs (Nat.succ.inj hl) fun j v hj => by simpa using h (j + 1) v (by simpa using hj))
theorem sortedD {d : Addr} {kvs : List (Key × Value)} {ss : List Str} {Q : Value → Shared → Prop} (hh : A.handled = none) (hd : (d == sysModules) = false) (hm : s.heap.DictOf (mixKind prog w) d kvs) (names : kvs.map (·.1) = ss.map Sum.inr) (h64 : ss.length < 64)
  (q : ∀ (h' : Heap) (t' : Nat) (a : Addr) (out : Array Value) (ss' : List Str) (n : Nat),(∀ b o,s.heap.get? b = some o → h'.get? b = some o) → s.heap.objs.size ≤ a → h'.get? a = some (seqObj "list" out n) → StrsAre out.toList ss' → ss'.Perm ss → sortedS ss' = true → Q (.ref a) { s with heap := h',toks := t' }) :
  wpAny (model prog w) A (call (.builtin "sorted") [.ref d]) Q E s := by
 have lk : kvs.length = ss.length := by have := congrArg List.length names; simpa using this
 refine Calls.call_function_entry kind_sorted plain_sorted entry_sorted (args_sorted1 _) ?_
 unfold Builtin.«sorted»
 refine wpAny_bind (m := checkCount "sorted" 1 1 _) (wpAny_pure (wpAny_bind (collectD hh hd hm (by rw [lk]; exact Nat.le_of_lt (Nat.lt_trans h64 (by decide))) fun s1 acc kk low g1 d1 o1 items => ?_)))
 have hS : StrsAre acc.toList ss := keys_strs (P := prog) (w := w) (by rw [Array.length_toList,items.1,lk]) fun j v hj => by
  obtain ⟨k,x,e,hk⟩ := items.2 j v (by simpa using hj)
  have e2 : (kvs.map (·.1))[j]? = some k := by rw [List.getElem?_map,e]; rfl
  rw [names,List.getElem?_map] at e2
  obtain ⟨z,hz,rfl⟩ := Option.map_eq_some_iff.mp e2
  exact ⟨z,hz,hk⟩
 have lacc : acc.toList.length < 64 := by
  have := items.1
  simp only [Array.length_toList]
  lia
 refine wpAny_bind (wpAny_newList ?_)
 have hoL : (s1.heap.push (seqObj "list" acc.toList.toArray 0)).get? s1.heap.objs.size = some (seqObj "list" acc.toList.toArray 0) := Heap.get?_push_size _ rfl
 refine wpAny_bind (wpAny_holding (wpAny_call_entry slot_list_sort ⟨_,hoL,rfl⟩ entry_list_sort (list_sort_treeK strKind_oneLt hoL hS.keysOf (fun v₁ v₂ rest e => keyKind_strs (by rw [← e]; exact hS)) lacc fun st' hp hs => ⟨_,rfl,?_⟩) (args_list_sort _)))
 obtain ⟨ss',h1,h2,h3⟩ := sorted_out_str hS hp hs
 obtain ⟨e,he⟩ := sortedHeap_at (out := (arrOf st').map (·.2)) hoL
 obtain ⟨hp1,g',d',tk',os'⟩ := s1
 have e1 : g' = s.gens := g1
 have e2 : d' = s.drawn := d1
 have e3 : os' = s.os := o1
 subst e1 e2 e3
 refine wpAny_pure ⟨_,rfl,q _ tk' _ _ ss' e (fun b o eb => ?_) (Nat.le_of_lt low) he h1 h2 h3⟩
 have lt := Heap.lt_size (kk b o eb)
 rw [sortedHeap_old (Nat.ne_of_lt lt) (by rw [Heap.size_push]; exact Nat.lt_succ_of_lt lt)]
 exact Heap.get?_push_of_some _ (kk b o eb)
end
section
variable {X : Cx}
noncomputable def DicQ (K : PySem.W.Frag) (H : Hp) (p : Addr) (fs : List (Str × Dt)) : Prop :=
 ∃ kvs,H p = some (.dK kvs) ∧ kvs.map (·.1) = fs.map (fun p => (Sum.inr p.1 : Key)) ∧ ∀ z,(lookS fs z = none → valV kvs (Sum.inr z : Key) = none) ∧ ∀ d,lookS fs z = some d → ∃ v,valV kvs (Sum.inr z : Key) = some v ∧ IsP K H d v
end
end L2
set_option Elab.async false
set_option linter.all false
set_option maxRecDepth 100000
namespace L2
open PySem PySem.Spec PyProof.Rows
section
variable {prog : Program} {w : World} {A : Around} {E : Value → Shared → Prop} {s : Shared}
end
end L2
set_option Elab.async false
set_option linter.all false
set_option maxRecDepth 100000
namespace L2
open PySem PySem.Spec PyProof.Rows
section
variable {prog : Program} {w : World} {A : Around} {E : Value → Shared → Prop} {s : Shared}
end
end L2
set_option Elab.async false
set_option linter.all false
set_option maxRecDepth 100000
namespace L2
open PySem PySem.Spec PyProof.Rows
section
variable {X : Cx} {pins : List (Addr × Obj)} {σ : St} {H H' : Hp} {s : Shared} {h' : Heap}
end
noncomputable abbrev pairO (j tk : Nat) (x : Value) : Obj := { cls := .type "tuple",data := .seq #[.int j tk,x] }
inductive Rws (h : Heap) (lo : Nat) : Nat → List V → List (Addr × HO) → Prop
 | nil {j : Nat} : Rws h lo j [] []
 | cons {j T tk : Nat} {x : Value} {v : V} {vs : List V} {r : List (Addr × HO)} : lo < T → RelV v x → h.get? T = some (pairO j tk x) → Rws h lo (j + 1) vs r → Rws h lo j (v :: vs) ((T,plO [.int j,v] [.int j tk,x]) :: r)
section
variable {X : Cx}
end
end L2
set_option Elab.async false
set_option linter.all false
set_option maxRecDepth 100000
namespace L2
open PySem PySem.Spec PyProof.Rows
section
variable {prog : Program} {w : World} {A : Around} {E : Value → Shared → Prop} {s : Shared}
end
section
variable {X : Cx}
end
end L2
set_option Elab.async false
set_option linter.all false
set_option maxRecDepth 100000
set_option maxHeartbeats 4000000
namespace L2
open PySem PySem.Spec PyProof.Rows
noncomputable def Itd (a : Addr) (ob : Obj) (kvs : List (Key × V)) : It where
 go i H := H a = some (.frz ob (.dK kvs)) ∧ i < kvs.length
 yld i H x H' := H' = H ∧ ∀ p,kvs[i]? = some p → x = kV p.1
 stop i H := H a = some (.frz ob (.dK kvs)) ∧ kvs.length ≤ i
theorem key_rel {P : Program} {w : World} {k : Key} {v : Value} (h : (mixKind P w).is k v = true) : RelV (kV k) v := by
 rcases keyIs_shape (show keyIs k v = true from h) with ⟨i,t,rfl,rfl⟩ | ⟨x,t,rfl,rfl⟩
 ·exact ⟨t,rfl⟩
 ·exact ⟨t,rfl⟩
theorem frz_at {X : Cx} {pins : List (Addr × Obj)} {σ : St} {H : Hp} {s : Shared} {a : Addr} {ob : Obj} {kvs : List (Key × V)} {es : Array DictEntry} {ep : Nat} (I : Inv X pins σ H s) (ha : H a = some (.frz ob (.dK kvs))) (hep : ob.data = .dict es ep) :
  ∃ vs,KV kvs vs ∧ s.heap.DictAt (mixKind X.prog X.w) a vs ep ∧ (a == sysModules) = false := by
 obtain ⟨ho,_,hs,vs,r,o,es',ep',h1,h2,h3,h4⟩ := (show ObjOk X.prog X.w H s.heap a (.frz ob (.dK kvs)) from I.hok a _ ha)
 rw [ho] at h1
 obtain rfl := Option.some.inj h1
 have h3' := h3
 rw [hep] at h3'
 injection h3' with e1 e2
 subst e1 e2
 exact ⟨vs,r,⟨ob,es,ho,h2,hep,h4⟩,hs⟩
theorem turn_dict {P : Program} {w : World} {K : PySem.W.Frag} {tg : Expr} (a it : Addr) (ob : Obj) (kvs : List (Key × V)) (es : Array DictEntry) (ep : Nat) (hep : ob.data = .dict es ep) :
  Turn P w K tg (Itd a ob kvs) [it] it (fun i h => h.IsKeyIter it a i kvs.length ep) where
 mem := by simp
 obj := fun i h st b hb => by
  have e : b = it := by simpa using hb
  subst e
  obtain ⟨o,e,c,d⟩ := st
  exact ⟨o,e,fun v z => by rw [d] at z; cases z⟩
 keep := fun i h h' st k => st.at fun o e => k it (by simp) o e
 item := by
  intro X hP hw hK hc i pins s σ H E I hf st hg
  subst hP hw hK
  obtain ⟨ha,hi⟩ := hg
  obtain ⟨vs,r,at0,_⟩ := frz_at I ha hep
  have hl := r.length
  obtain ⟨⟨k,v⟩,hk⟩ : ∃ p,vs[i]? = some p := ⟨_,List.getElem?_eq_getElem (by lia)⟩
  have hk' : (kvs.map (·.1))[i]? = some k := by rw [r.keys,List.getElem?_map,hk]; rfl
  obtain ⟨f0,f1,f2,f3,f4,f5⟩ := hf it (by simp)
  refine wpAny_pyNext_dict_item (knd := mixKind X.prog X.w) (show s.heap.IsKeyIter it a i vs.length ep by rw [← hl]; exact st) at0 hk fun key h' hkey st' sb => ?_
  have I1 : Inv X pins σ H { s with heap := h' } := I.turned (t' := s.toks) (fun b o hb e => (sb.2 b hb).trans e) f0 f1 f3 f4 f5
  rw [← hl] at st'
  obtain ⟨o,e,c,d⟩ := id st'
  refine ⟨key,rfl,go_of (s := { s with heap := h' }) e c d (by decide) ⟨kV k,H,I1,key_rel hkey,⟨rfl,fun p hp => ?_⟩,st',fun b hb => (hf b hb).1⟩⟩
  rw [List.getElem?_map,hp] at hk'
  exact congrArg kV (Option.some.inj hk').symm
 done := by
  intro X hP hw hK hc i pins s σ H E I hf st hg
  subst hP hw hK
  obtain ⟨ha,hi⟩ := hg
  obtain ⟨vs,r,at0,_⟩ := frz_at I ha hep
  have hl := r.length
  obtain ⟨f0,f1,f2,f3,f4,f5⟩ := hf it (by simp)
  exact wpAny_pyNext_dict_end (knd := mixKind X.prog X.w) (I.ok.hd hc) (show s.heap.IsKeyIter it a i vs.length ep by rw [← hl]; exact st) at0 (List.getElem?_eq_none (by lia)) fun h' eb => ⟨rfl,I.turned (t' := s.toks) (fun b o hb e => eb b o hb e) f0 f1 f3 f4 f5⟩
 self := fun _ _ _ _ _ st h => wpAny_pyIter_keyiter st h
section
variable {X : Cx} {tg : Expr} {pins : List (Addr × Obj)} {σ : St} {H : Hp} {s : Shared}
theorem Inv.freeze {a : Addr} {ob : Obj} {kvs : List (Key × V)} (I : Inv X pins σ H s) (ha : H a = some (.dK kvs)) (ho : s.heap.get? a = some ob) : Inv X pins σ (upd H a (.frz ob (.dK kvs))) s := by
 refine I.step (h' := s.heap) (g' := s.gens) (d' := s.drawn) (t' := s.toks) (ch := []) (fun _ z => nomatch z) (fun b o _ _ _ e _ => e) (fun b o _ _ _ e _ => ⟨o.slots,e⟩) (fun b o _ e n => ?_) (fun b o _ e => ⟨o,e⟩) (fun b xs e => ?_) (fun b o u e => ?_) (fun b ps e => ?_) (fun m e => e) (fun b u e => ?_) I.bare
 ·rw [upd_ne (fun z => by rw [z,ha] at n; cases n)]
  exact n
 ·rw [upd_ne (fun z => by rw [z,ha] at e; cases e)]
  exact e
 ·rw [upd_ne (fun z => by rw [z,ha] at e; cases e)]
  exact e
 ·refine ⟨#[],?_⟩
  rw [upd_ne (fun z => by rw [z,ha] at e; cases e),Array.append_empty]
  exact e
 ·have st : ∀ {u : HO},ObjOk X.prog X.w H s.heap b u → ObjOk X.prog X.w (upd H a (.frz ob (.dK kvs))) s.heap b u := fun q => q.stay (fun _ _ _ e => e) (fun c r => by rw [upd_ne (fun z => by rw [z,ha] at r; cases r)]; exact r) fun c xs r => by rw [upd_ne (fun z => by rw [z,ha] at r; cases r)]; exact r
  by_cases hb : b = a
  ·subst hb
   rw [upd_same] at e
   obtain rfl := Option.some.inj e
   exact ⟨ho,st (I.hok b _ ha)⟩
  ·rw [upd_ne hb] at e
   exact st (I.hok b _ e)
noncomputable def iDict (te : TE) : TI := fun σ H R => te σ H fun x H1 => ∃ a kvs,x = .ref a ∧ H1 a = some (.dK kvs) ∧ ∀ ob,R (Itd a ob kvs) (upd H1 a (.frz ob (.dK kvs)))
theorem pi_dict {l : Expr} {tl : TE} (hl : PE X l tl) : PI X tg l (iDict tl) := by
 intro pins s σ H R I h
 refine thn (hl pins s σ H _ I h) fun v s1 ⟨x,H1,I1,r1,q1⟩ => ?_
 obtain ⟨a,kvs,e,ha,q⟩ := q1
 subst e
 cases r1
 obtain ⟨_,hs,vs,r,o,es,ep,h1,h2,h3,h4⟩ := (show ObjOk X.prog X.w H1 s1.heap a (.dK kvs) from I1.hok a _ ha)
 have I2 := I1.freeze ha h1
 have at0 : s1.heap.DictAt (mixKind X.prog X.w) a vs ep := ⟨o,es,h1,h2,h3,h4⟩
 refine wpAny_pyIter_dict hs at0 ?_
 refine ⟨s1.heap.objs.size,[s1.heap.objs.size],_,_,_,rfl,I2.kept (t' := s1.toks) fun b o e => Heap.get?_push_of_some _ e,turn_dict a _ o kvs es ep h3,?_,fun b hb => ?_,q o⟩
 ·rw [r.length]
  exact ⟨_,Heap.get?_push_size _ rfl,rfl,rfl⟩
 ·have e : b = s1.heap.objs.size := by simpa using hb
  subst e
  exact I2.fpOk (Nat.le_refl _) (I2.hok.fresh (Nat.le_refl _))
end
section
variable {X : Cx}
theorem call_dictF (hc : X.calm = true) : CallR X (.type "dict") (fun xs H Q => ∃ x fs,xs = [x] ∧ IsP X.K H (.tup (fs.map prD)) x ∧ (fs.map (·.1)).Nodup ∧ fs.length ≤ 1000 ∧ ∀ p H',H p = none → Same H H' → DicQ X.K H' p fs → Q (.ref p) H') := by
 intro pins s σ H xs us Q I r h
 obtain ⟨x,fs,rfl,dx,nd,hz,q⟩ := h
 obtain ⟨u,rfl,rx⟩ := vals1 r
 obtain ⟨a,ys,rfl,ha,⟨o,ho,eo,dn⟩,ra⟩ := dx.unref
 cases rx
 obtain ⟨its,r',⟨o',e',c',n',d'⟩,_⟩ := I.tuple ha
 have e0 : s.heap.get? a = some o := (I.hok a _ eo).1
 rw [e0] at e'
 obtain rfl := Option.some.inj e'
 obtain ⟨kvs,vs,k1,k2,k3,k4,k5,k6⟩ := pairs_of I ra r'
 have hl : vs.length = fs.length := by rw [← k1.length,k3]
 have big := I.big
 refine call_dict_pairs (knd := mixKind X.prog X.w) (kvs := vs) (I.ok.hd hc) e0 c' d' dn ⟨by rw [List.size_toArray]; exact k5,fun i kv z => ?_⟩ (Nat.le_trans (Nat.add_le_add (hl ▸ hz) (hl ▸ hz)) (by decide)) fun h' tk dd kp => ?_
 ·obtain ⟨b,key,z1,z2,z3⟩ := k6 i kv z
  exact ⟨b,key,by simpa using z1,z2,z3⟩
 ·have ndv : (vs.map (·.1)).Nodup := by
   rw [← k1.keys,k2]
   have z : fs.map (fun p => (Sum.inr p.1 : Key)) = (fs.map (·.1)).map Sum.inr := by rw [List.map_map]; rfl
   rw [z]
   exact List.Pairwise.map _ (fun a b n q => n (Sum.inr.inj q)) nd
  rw [merged_nil_of_nodup vs ndv] at dd
  have hf := I.hok.fresh (Nat.le_refl s.heap.objs.size)
  have I2 : Inv X pins σ (upd H s.heap.objs.size (.dK kvs)) { s with heap := h',toks := tk } := I.laid (t' := tk) kp (Nat.le_refl _)
   (dk_new (by rw [k3]; exact Nat.le_of_lt (small1000 hz)) (by simp; exact Nat.ne_of_gt big) k1 dd)
  refine ⟨.ref s.heap.objs.size,_,I2,rfl,q _ _ hf (same_new hf _) ⟨kvs,upd_same,k2,fun z => ⟨(k4 z).1,fun d l => ?_⟩⟩⟩
  obtain ⟨v,l1,l2⟩ := (k4 z).2 d l
  exact ⟨v,l1,l2.same (same_new hf _)⟩
theorem call_sortDR (hc : X.calm = true) : CallR X (.builtin "sorted") (fun xs H Q => ∃ (p : Addr) (kvs : List (Key × V)) (ss : List Str),xs = [.ref p] ∧ Rd H p (.dK kvs) ∧ kvs.map (·.1) = ss.map Sum.inr ∧ ss.length < 64 ∧ ∀ (a : Addr) (ss' : List Str),H a = none → ss'.Perm ss → sortedS ss' = true → Q (.ref a) (upd H a (.lst (ss'.map V.str)))) := by
 intro pins s σ H xs us Q I r h
 obtain ⟨p,kvs,ss,rfl,hp,names,hl,q⟩ := h
 obtain ⟨u,rfl,rx⟩ := vals1 r
 cases rx
 obtain ⟨hz,hd,vs,kv,dof⟩ := dk_rd I.hok hp
 refine sortedD (ss := ss) (I.ok.hd hc) hd dof (by rw [← kv.keys]; exact names) hl fun h' t' a out ss' n kk low ea h1 h2 h3 => ?_
 have hn : H a = none := I.hok.fresh low
 refine ⟨.ref a,_,I.laid (t' := t') (o := .lst (ss'.map V.str)) kk low ?_,rfl,q a ss' hn h2 h3⟩
 have e2 : seqObj "list" out n = seqObj "list" out.toList.toArray n := by rw [Array.toArray_toList]
 refine ⟨?_,out.toList,n,vals_strs h1,?_⟩
 ·rw [List.length_map,h2.length_eq]
  exact Nat.le_of_lt (Nat.lt_trans hl (by decide))
 ·rw [ea,e2]
end
section
variable {a : Addr} {ob : Obj} {kvs : List (Key × V)} {g : TG} {l : Addr} {σ0 : St} {H0 : Hp} {R : Hp → Prop} {tb : List V → Addr → St → Hp → (List V → St → Hp → Prop) → Prop}
theorem comp_dictR (Pv : Nat → List V → St → Hp → Prop) (h0 : Pv 0 [] σ0 H0) (hl : ∀ i ys σ H,i ≤ kvs.length → Pv i ys σ H → H a = some (.frz ob (.dK kvs)))
  (hs : ∀ i p ys σ H (N : List V → St → Hp → Prop),kvs[i]? = some p → Pv i ys σ H → (∀ ys' σ' H',Pv (i + 1) ys' σ' H' → N ys' σ' H') → g (kV p.1) σ H fun σ2 H2 => tb ys l σ2 H2 N)
  (hd : ∀ ys σ H,Pv kvs.length ys σ H → R H) :
  ∃ W : Nat → Nat → List V → St → Hp → Prop,(∃ m,W 0 m [] σ0 H0) ∧ ∀ i m ys σ' H',W i m ys σ' H' → ((Itd a ob kvs).stop i H' ∧ R H') ∨
   ((Itd a ob kvs).go i H' ∧ ∀ x H'',(Itd a ob kvs).yld i H' x H'' → g x σ' H'' fun σ2 H2 => tb ys l σ2 H2 fun ys' σ3 H3 => ∃ m',m' < m ∧ W (i + 1) m' ys' σ3 H3) := by
 refine ⟨fun i m ys σ H => m = kvs.length - i ∧ i ≤ kvs.length ∧ Pv i ys σ H,⟨kvs.length,by simp,Nat.zero_le _,h0⟩,?_⟩
 rintro i m ys σ H ⟨rfl,hi,p⟩
 by_cases hlt : i < kvs.length
 ·refine .inr ⟨⟨hl i ys σ H hi p,hlt⟩,fun x H'' hy => ?_⟩
  obtain ⟨rfl,hx⟩ := hy
  obtain ⟨q,hq⟩ : ∃ q,kvs[i]? = some q := ⟨_,List.getElem?_eq_getElem hlt⟩
  rw [hx q hq]
  exact hs i q ys σ H'' _ hq p fun ys' σ' H' p' => ⟨kvs.length - (i + 1),by lia,rfl,hlt,p'⟩
 ·have e : i = kvs.length := Nat.le_antisymm hi (Nat.not_lt.mp hlt)
  subst e
  exact .inl ⟨⟨hl _ ys σ H (Nat.le_refl _) p,Nat.le_refl _⟩,hd ys σ H p⟩
end
end L2
set_option Elab.async false
set_option linter.all false
set_option maxRecDepth 100000
set_option maxHeartbeats 4000000
namespace L2
open PySem PySem.Spec PyProof.Rows
theorem rv_init : Slot "reversed" "__init__" "object.__init__" :=
 .of (owner := "object") (n := "__init__") (by rw [typeLookup_type,builtinLookup_eq_fast]; kernel_rfl) (by decide +kernel) (by decide +kernel) (by decide +kernel)
  (by first | exact .inl (by decide +kernel) | exact .inr (by decide +kernel)) (by rw [isSubtype_type]; kernel_rfl)
theorem rv_next : Slot "reversed" "__next__" "reversed.__next__" :=
 .of (owner := "reversed") (n := "__next__") (by rw [typeLookup_type,builtinLookup_eq_fast]; kernel_rfl) (by decide +kernel) (by decide +kernel) (by decide +kernel)
  (by first | exact .inl (by decide +kernel) | exact .inr (by decide +kernel)) (by rw [isSubtype_type]; kernel_rfl)
theorem rv_iter : Slot "reversed" "__iter__" "reversed.__iter__" :=
 .of (owner := "reversed") (n := "__iter__") (by rw [typeLookup_type,builtinLookup_eq_fast]; kernel_rfl) (by decide +kernel) (by decide +kernel) (by decide +kernel)
  (by first | exact .inl (by decide +kernel) | exact .inr (by decide +kernel)) (by rw [isSubtype_type]; kernel_rfl)
theorem rv_hint : Slot "reversed" "__length_hint__" "reversed.__length_hint__" :=
 .of (owner := "reversed") (n := "__length_hint__") (by rw [typeLookup_type,builtinLookup_eq_fast]; kernel_rfl) (by decide +kernel) (by decide +kernel) (by decide +kernel)
  (by first | exact .inl (by decide +kernel) | exact .inr (by decide +kernel)) (by rw [isSubtype_type]; kernel_rfl)
theorem rv_no_len : typeLookup (.type "reversed") "__len__" = pure none := by rw [typeLookup_type,builtinLookup_eq_fast]; kernel_rfl
theorem rv_entry_next : entryFor table "reversed.__next__" = some Builtin.«reversed.__next__» := entryFor_of_tree (by kernel_rfl)
theorem rv_entry_hint : entryFor table "reversed.__length_hint__" = some Builtin.«reversed.__length_hint__» := entryFor_of_tree (by kernel_rfl)
theorem rv_entry_iter : entryFor table "reversed.__iter__" = some Builtin.«dict_keyiterator.__iter__» :=
 entryFor_alias (id' := "dict_keyiterator.__iter__") (by kernel_rfl) (by first | rfl | decide +kernel | (unfold String.splitOn; simp +decide [String.splitOnAux])) (by decide +kernel) (by kernel_rfl)
theorem rv_mro : mroOf (.type "reversed") = pure [.type "reversed",.type "object"] := by rw [mroOf_type]; kernel_rfl
theorem rv_new : typeLookup (.type "reversed") "__new__" = pure (some (.builtin "reversed.__new__")) := by rw [typeLookup_type,builtinLookup_eq_fast]; kernel_rfl
theorem rv_called : TypeCalled "reversed" "reversed.__new__" "object.__init__" :=
 ⟨by decide +kernel,by decide +kernel,⟨_,_,rv_mro⟩,madeBy_type rv_mro rv_new (by decide +kernel),by decide +kernel,by rw [isSubtype_type]; kernel_rfl,rv_init⟩
theorem rv_typeCall (a : Value) : checkTypeCall "reversed" ⟨[a],[]⟩ = pure () := by kernel_rfl
theorem rv_newCall (a : Value) : checkBuiltinCall "reversed.__new__" ⟨[.type "reversed",a],[]⟩ = pure () := by kernel_rfl
theorem rv_entry_new : entryFor table "reversed.__new__" = some Builtin.«reversed.__new__» := entryFor_of_tree (by kernel_rfl)
theorem tup_no_rev : typeLookup (.type "tuple") "__reversed__" = pure none := by rw [typeLookup_type,builtinLookup_eq_fast]; kernel_rfl
theorem rv_owner : Manifest.owners.lookup (String.ofList ['d','e','s','r','e','v','e','r'].reverse) = some Manifest.sig_reversed := by kernel_rfl
theorem rv_args_next (a : Value) : argsOk "reversed.__next__" ⟨[a],[]⟩ := by
 unfold argsOk; rw [signature?_of (id := "reversed.__next__") (n := ['_','_','t','x','e','n','_','_']) (o := ['d','e','s','r','e','v','e','r']) (by kernel_rfl) rv_owner]; kernel_rfl
theorem rv_args_iter (a : Value) : argsOk "reversed.__iter__" ⟨[a],[]⟩ := by
 unfold argsOk; rw [signature?_of (id := "reversed.__iter__") (n := ['_','_','r','e','t','i','_','_']) (o := ['d','e','s','r','e','v','e','r']) (by kernel_rfl) rv_owner]; kernel_rfl
theorem rv_args_hint (a : Value) : argsOk "reversed.__length_hint__" ⟨[a],[]⟩ := by
 unfold argsOk; rw [signature?_of (id := "reversed.__length_hint__") (n := "__length_hint__".toList.reverse) (o := ['d','e','s','r','e','v','e','r']) (by kernel_rfl) rv_owner]; kernel_rfl
theorem newClass_rv (a : Value) : Builtin.SmallTypes.newClass "reversed" ⟨[.type "reversed",a],[]⟩ = pure (.type "reversed",[a]) := by
 unfold Builtin.SmallTypes.newClass
 simp only [isType,F.sub_reversed_self,pure_bind,Bool.not_true,Bool.false_eq_true,if_false]
noncomputable abbrev rvObj (t : Addr) (i : Int) : Obj := { cls := .type "reversed",data := .fields #[.ref t,rawInt i] }
theorem meets_revT (t : Addr) (xs : Array Value) :
  Meets (Builtin.«reversed.__new__» ⟨[.type "reversed",.ref t],[]⟩) (fun _ R s => IsTup s.heap t xs ∧ xs.size < 2 ^ 62 ∧ ∀ k,R (.ok (.ret (.ref s.heap.objs.size))) { s with heap := s.heap.push (rvObj t ((xs.size : Int) - 1)),toks := k }) :=
 .of_wp fun prog w A R s h => by
  obtain ⟨hp,g,d,tk,os⟩ := s
  obtain ⟨tl,hsz,h⟩ := h
  have T1 : IsTup (Shared.heap ⟨hp,g,d,tk,os⟩) t xs := tl
  unfold Builtin.«reversed.__new__»
  refine wpAny_bind (wpAny_of_eq (newClass_rv _) ?_)
  try dsimp only
  refine wpAny_bind (wpAny_of_eq (a := ()) (by first | rfl | kernel_rfl) ?_)
  refine wpAny_bind (wpAny_of_eq (a := ()) (by first | rfl | kernel_rfl) ?_)
  try dsimp only
  refine wpAny_bind (wpAny_specialOf T1.typeIs tup_no_rev ?_)
  try dsimp only
  refine wpAny_bind ?_
  wp_delta
  refine wpAny_bind (wpAny_isInstance (b := false) T1.typeIs (by rw [isSubtype_type]; kernel_rfl) ?_)
  refine wpAny_bind (wpAny_specialOf T1.typeIs slot_tuple_getitem.lookup ?_)
  refine show wpAny _ _ (pure true) _ _ _ from wpAny_pure ?_
  refine show wpAny _ _ (call (Value.builtin "len") [Value.ref t] >>= _) _ _ _ from wpAny_bind (len_tuple T1 (by lia) ?_)
  refine wpAny_bind (wpAny_of_eq (a := some ((xs.size : Int))) rfl ?_)
  refine show wpAny _ _ (Builtin.SmallTypes.newRecord (Value.type "reversed") [Value.ref t,rawInt ((xs.size : Int) - 1)] >>= _) _ _ _ from wpAny_bind ?_
  unfold Builtin.SmallTypes.newRecord
  refine wpAny_newObj_type (wpAny_pure ⟨_,rfl,h _⟩)
theorem rv_iterSelf {prog : Program} {w : World} {A : Around} {E : Value → Shared → Prop} {s : Shared} {a t : Addr} {i : Int} {Q : Value → Shared → Prop} (ha : s.heap.get? a = some (rvObj t i)) (h : Q (.ref a) s) : wpAny (model prog w) A (pyIter (.ref a)) Q E s := by
 have hT : s.TypeIs (.ref a) "reversed" := ⟨_,ha,rfl⟩
 refine wpAny_pyIter_slot hT rv_iter (wpAny_call_entry rv_iter hT rv_entry_iter ?_ (rv_args_iter _))
 show wpAny _ _ (ret (.ref a)) _ _ s
 exact wpAny_pure ⟨_,rfl,"reversed",_,hT,rv_next.lookup,h⟩
section
variable {prog : Program} {w : World} {A : Around} {E : Value → Shared → Prop} {s : Shared}
theorem rv_item {a t : Addr} {i : Nat} {its : Array Value} {x : Value} {Q : Option Value → Shared → Prop} (ha : s.heap.get? a = some (rvObj t (i : Int))) (ht : IsTup s.heap t its) (hx : its[i]? = some x) (hi : i < 2 ^ 62)
  (hQ : ∀ h' k,h'.get? a = some (rvObj t ((i : Int) - 1)) → Heap.SameBut a s.heap h' → Q (some x) { s with heap := h',toks := k }) : wpAny (model prog w) A (pyNext (.ref a)) Q E s := by
 have hT : s.TypeIs (.ref a) "reversed" := ⟨_,ha,rfl⟩
 unfold pyNext
 refine wpAny_bind (wpAny_attempt (wpAny_callSpecial?_slot (name := Str.ofString "__next__") hT rv_next
  (wpAny_call_entry rv_next hT rv_entry_next ?_ (rv_args_next _))))
 unfold Builtin.«reversed.__next__»
 refine wpAny_bind (wpAny_of_eq (a := (Value.ref a,[])) rfl ?_)
 try dsimp only
 refine wpAny_bind (wpAny_field ha rfl (x := .ref t) rfl ?_)
 refine wpAny_bind (wpAny_field ha rfl (x := rawInt (i : Int)) rfl ?_)
 show wpAny _ _ (if (i : Int) < 0 then _ else _) _ _ s
 rw [if_neg (by lia)]
 refine show wpAny _ _ (specialOf (.ref t) "__getitem__" >>= _) _ _ _ from wpAny_bind (wpAny_specialOf ht.typeIs slot_tuple_getitem.lookup ?_)
 rw [if_neg (by decide)]
 have hlt : i < its.size := (Array.getElem?_eq_some_iff.mp hx).1
 refine wpAny_bind (wpAny_mkInt ?_)
 refine wpAny_bind (wpAny_attempt (getItem_tuple (t := t) (items := its) ht (by lia) (by lia) (j := i) (StrLaws.seqIndex_nonneg (by lia) (by lia)) hx ?_))
 refine wpAny_bind (wpAny_field ha rfl (x := rawInt (i : Int)) rfl ?_)
 refine wpAny_bind (wpAny_setField ha rfl (by simp) ?_)
 refine wpAny_pure ⟨x,rfl,wpAny_pure (hQ _ _ ?_ (Heap.SameBut.update ..))⟩
 exact Heap.get?_update_self _ ha rfl
theorem rv_done {a t : Addr} {Q : Option Value → Shared → Prop} (hh : A.handled = none) (ha : s.heap.get? a = some (rvObj t (-1)))
  (hQ : ∀ h',Heap.ExtBut a s.heap h' → Q none { s with heap := h' }) : wpAny (model prog w) A (pyNext (.ref a)) Q E s := by
 have hT : s.TypeIs (.ref a) "reversed" := ⟨_,ha,rfl⟩
 unfold pyNext
 refine wpAny_bind (wpAny_attempt (wpAny_callSpecial?_slot (name := Str.ofString "__next__") hT rv_next
  (wpAny_call_entry rv_next hT rv_entry_next ?_ (rv_args_next _))))
 unfold Builtin.«reversed.__next__»
 refine wpAny_bind (wpAny_of_eq (a := (Value.ref a,[])) rfl ?_)
 try dsimp only
 refine wpAny_bind (wpAny_field ha rfl (x := .ref t) rfl ?_)
 refine wpAny_bind (wpAny_field ha rfl (x := rawInt (-1)) rfl ?_)
 show wpAny _ _ (if (-1 : Int) < 0 then _ else _) _ _ s
 rw [if_pos (by decide)]
 refine wpAny_bind (wpAny_rule ?_)
 refine wpAny_bind ?_
 wp_delta
 refine wpAny_bind (wpAny_setField ha rfl (by simp) ?_)
 have a1 := Heap.get?_update_self (Obj.mapFields (·.setIfInBounds 1 (rawInt (-1)))) ha rfl
 refine wpAny_setField a1 rfl (by simp) ?_
 have ext : Heap.ExtBut a s.heap ((s.heap.update a (Obj.mapFields (·.setIfInBounds 1 (rawInt (-1))))).update a (Obj.mapFields (·.setIfInBounds 0 Value.none))) := fun b o n e => (Heap.get?_update_other _ _ (Ne.symm n)).trans ((Heap.get?_update_other _ _ (Ne.symm n)).trans e)
 generalize (s.heap.update a (Obj.mapFields (·.setIfInBounds 1 (rawInt (-1))))).update a (Obj.mapFields (·.setIfInBounds 0 Value.none)) = G at ext ⊢
 refine wpAny_bind ?_
 refine show wpAny _ _ (newExc (.type "StopIteration") [] >>= _) _ _ _ from wpAny_bind ?_
 simp only [newExc,newTuple]
 refine wpAny_bind (wpAny_newObj_type ?_ (by size_fits))
 refine wpAny_bind (m := firstArgMember _ _) (wpAny_of_eq (a := Value.none) (by first | rfl | (simp only [firstArgMember]; rfl)) ?_)
 refine wpAny_newObj_type ?_ (by size_fits)
 simp only [raiseNew]
 refine wpAny_bind (wpAny_handled ?_)
 first | rw [show A.in1.handled = none from hh] | rw [hh]
 refine wpAny_bind (wpAny_pure (wpAny_throw ?_))
 refine wpAny_bind (wpAny_isInstance (T := "StopIteration") (b := true) ⟨_,Heap.get?_push_size _ rfl,rfl⟩ isSubtype_stop ?_)
 exact wpAny_pure (hQ _ ((ext.push _).push _))
theorem Walks.tupRev (hh : A.handled = none) (I t : Addr) (hne : t ≠ I) (its : Array Value) (hsz : its.size < 2 ^ 62) :
  Walks prog w A I [I,t] [I] its.size (fun i v => its[its.size - 1 - i]? = some v) (fun i h => i ≤ its.size ∧ h.get? I = some (rvObj t ((its.size : Int) - 1 - (i : Int))) ∧ IsTup h t its) where
 sub := fun b hb => by simp at hb; simp [hb]
 frame := fun _ _ _ x hk => ⟨x.1,hk I (by simp) _ x.2.1,by
  obtain ⟨o,ho,r⟩ := x.2.2
  exact ⟨o,hk t (by simp) o ho,r⟩⟩
 item := fun i s Q E hi x hQ => by
  have e : (its.size : Int) - 1 - (i : Int) = ((its.size - 1 - i : Nat) : Int) := by lia
  have hit := x.2.1
  rw [e] at hit
  have hx : its[its.size - 1 - i]? = some (its[its.size - 1 - i]'(by lia)) := Array.getElem?_eq_getElem (by lia)
  refine rv_item hit x.2.2 hx (by lia) fun h' k hit' hs' => ?_
  have e2 : ((its.size - 1 - i : Nat) : Int) - 1 = (its.size : Int) - 1 - ((i + 1 : Nat) : Int) := by lia
  rw [e2] at hit'
  refine hQ _ h' k hx ⟨hi,hit',?_⟩ fun b o hb eo => hs'.extBut b o (fun h => hb (by simp [h])) eo
  obtain ⟨o,ho,r⟩ := x.2.2
  exact ⟨o,(hs'.2 t hne).trans ho,r⟩
 done := fun s Q E x hQ => by
  have e : (its.size : Int) - 1 - (its.size : Int) = -1 := by lia
  have hit := x.2.1
  rw [e] at hit
  exact rv_done hh hit fun h' he' => hQ h' s.toks fun b o hb eo => he' b o (fun h => hb (by simp [h])) eo
 self := fun _ _ _ _ x hQ => rv_iterSelf x.2.1 hQ
theorem hintR {a t : Addr} {its : Array Value} {Q : Bool → Shared → Prop} (ha : s.heap.get? a = some (rvObj t ((its.size : Int) - 1))) (ht : IsTup s.heap t its) (hn : its.size ≤ 1000) (h1 : 1 ≤ its.size) (hq : ∀ k,Q true { s with toks := k }) :
  wpAny (model prog w) A (Builtin.List.listLengthHint (.ref a)) Q E s := by
 have hT : s.TypeIs (.ref a) "reversed" := ⟨_,ha,rfl⟩
 unfold Builtin.List.listLengthHint
 refine wpAny_bind (wpAny_specialOf hT rv_no_len ?_)
 refine show wpAny _ _ (specialOf (Value.ref a) (Str.ofString "__length_hint__") >>= _) _ _ _ from wpAny_bind (wpAny_specialOf hT rv_hint.lookup ?_)
 wp_delta
 refine wpAny_bind (wpAny_isInstance (b := true) hT (by rw [isSubtype_type]; kernel_rfl) ?_)
 refine show wpAny _ _ (rule "list.length-hint.hint" >>= _) _ _ _ from wpAny_bind (wpAny_rule ?_)
 refine wpAny_bind (wpAny_of_eq (rv_hint.bind _) ?_)
 refine wpAny_bind (wpAny_attempt (wpAny_call_entry rv_hint hT rv_entry_hint ?_ (rv_args_hint _)))
 unfold Builtin.«reversed.__length_hint__»
 refine wpAny_bind (wpAny_of_eq (a := Value.ref a) rfl ?_)
 refine wpAny_bind (wpAny_field ha rfl (x := .ref t) rfl ?_)
 refine show wpAny _ _ (call (Value.builtin "len") [Value.ref t] >>= _) _ _ _ from wpAny_bind (len_tuple ht (by lia) ?_)
 refine wpAny_bind (wpAny_of_eq (a := some ((its.size : Int))) rfl ?_)
 refine wpAny_bind (wpAny_field ha rfl (x := rawInt ((its.size : Int) - 1)) rfl ?_)
 refine show wpAny _ _ (if (its.size : Int) < (its.size : Int) - 1 + 1 then _ else _) _ _ _ from ?_
 rw [if_neg (by lia),show (its.size : Int) - 1 + 1 = (its.size : Int) by lia]
 have f0 : Builtin.List.listFitsIndex (its.size : Int) = true := by
  show (decide (-(2 ^ 63 : Int) ≤ (its.size : Int)) && decide ((its.size : Int) < 2 ^ 63)) = true
  rw [decide_eq_true (by lia),decide_eq_true (by lia)]
  rfl
 have f2 : Builtin.List.listTooLong (its.size : Int).toNat = false := decide_eq_false (Nat.not_lt.mpr (Nat.le_of_lt (small1000 (by lia))))
 have f3 : ((its.size : Int) != 0) = true := by
  rw [bne_iff_ne]
  lia
 unfold retInt
 refine wpAny_bind (wpAny_mkInt (wpAny_pure ⟨_,rfl,?_⟩))
 simp only [asInt?,pure_bind,f0,f2,f3,Bool.not_true,Bool.false_eq_true,if_false,if_neg (show ¬ (its.size : Int) < 0 by lia)]
 exact wpAny_pure (hq _)
theorem collectR {a t : Addr} {its : Array Value} {Q : List Value → Shared → Prop} (hh : A.handled = none) (ha : s.heap.get? a = some (rvObj t ((its.size : Int) - 1))) (ht : IsTup s.heap t its) (hne : t ≠ a) (hn : its.size ≤ 1000) (h1 : 1 ≤ its.size)
  (q : ∀ s' acc,(∀ b o,b ≠ a → s.heap.get? b = some o → s'.heap.get? b = some o) → s.heap.objs.size < s'.heap.objs.size → s'.gens = s.gens → s'.drawn = s.drawn → s'.os = s.os → ItemsOf (fun i v => its[its.size - 1 - i]? = some v) acc its.size → Q acc.toList s') :
  wpAny (model prog w) A (collect (.ref a)) Q E s := by
 have hT : s.TypeIs (.ref a) "reversed" := ⟨_,ha,rfl⟩
 unfold collect
 refine wpAny_bind (wpAny_runValue (codeAny_builtin F.entry_proto_collect ?_))
 rw [Around.under_plainId F.plain_proto_collect _]
 refine show wpAny _ A.in1 (newList [] >>= fun l => again (.builtin "list.__iadd__" ⟨[l,.ref a],[]⟩)) _ _ s from wpAny_bind (wpAny_newObj_type ?_)
 refine wpAny_pure ⟨plainId_quiet F.plain_list_iadd _,codeAny_builtin F.entry_list_iadd ?_⟩
 rw [Around.under_plainId F.plain_list_iadd _]
 have lta : a < s.heap.objs.size := Heap.lt_size ha
 have ltt : t < s.heap.objs.size := by obtain ⟨o,ho,_⟩ := ht; exact Heap.lt_size ho
 have keep : ∀ b o,s.heap.get? b = some o → (s.heap.push { cls := .type "list",data := .seq ([] : List Value).toArray }).get? b = some o := fun b o e => Heap.get?_push_of_some _ e
 have S1 : (s.heap.push { cls := .type "list",data := .seq ([] : List Value).toArray }).get? s.heap.objs.size = some { cls := .type "list",data := .seq ([] : List Value).toArray } := Heap.get?_push_size _ rfl
 have z1 : (s.heap.push { cls := .type "list",data := .seq ([] : List Value).toArray }).objs.size = s.heap.objs.size + 1 := Heap.size_push ..
 generalize s.heap.push { cls := .type "list",data := .seq ([] : List Value).toArray } = G at keep S1 z1 ⊢
 have aG := keep _ _ ha
 have hT1 : Shared.TypeIs { s with heap := G } (.ref a) "reversed" := ⟨_,aG,rfl⟩
 have tG : IsTup G t its := by obtain ⟨o,ho,r⟩ := ht; exact ⟨o,keep t o ho,r⟩
 refine show wpAny _ A.in1 (Builtin.List.listExtendWith (.ref s.heap.objs.size) (.ref a) (.ref s.heap.objs.size)) _ _ _ from ?_
 unfold Builtin.List.listExtendWith
 refine wpAny_bind (wpAny_typeOf hT1 ?_)
 have n1 : Builtin.List.listSameRef (.ref s.heap.objs.size) (.ref a) = false := by simp [Builtin.List.listSameRef]; exact Nat.ne_of_gt lta
 simp only [n1,show (Value.type "reversed" == Value.type "list") = false by decide,show (Value.type "reversed" == Value.type "tuple") = false by decide,Bool.or_false,Bool.false_eq_true,if_false]
 refine wpAny_bind (rv_iterSelf (t := t) aG ?_)
 refine wpAny_bind (wpAny_holding ?_)
 refine hintR (s := { s with heap := G }) (t := t) aG tG hn h1 fun k => ?_
 refine show wpAny _ _ (rule "list.extend.makes-room" >>= fun _ => Builtin.List.listTouch (.ref s.heap.objs.size) >>= fun _ => again (.builtin "list.extend.loop" ⟨[.ref s.heap.objs.size,.ref a,.ref s.heap.objs.size],[]⟩)) _ _ _ from wpAny_bind (wpAny_rule (wpAny_bind ?_))
 refine show wpAny _ _ (updateSeq s.heap.objs.size (·.push .none) >>= fun _ => updateSeq s.heap.objs.size (·.pop)) _ _ _ from wpAny_bind (wpAny_updateSeq S1 rfl ?_)
 have S3 := Heap.get?_update_self (Obj.mapSeq (·.push Value.none)) S1 rfl
 refine wpAny_updateSeq (hz := by seq_fits) S3 rfl ?_
 have S4 := Heap.get?_update_self (Obj.mapSeq (·.pop)) S3 rfl
 have oth : ∀ b o,b ≠ s.heap.objs.size → G.get? b = some o → ((G.update s.heap.objs.size (Obj.mapSeq (·.push Value.none))).update s.heap.objs.size (Obj.mapSeq (·.pop))).get? b = some o := fun b o n e => (Heap.get?_update_other _ _ (Ne.symm n)).trans ((Heap.get?_update_other _ _ (Ne.symm n)).trans e)
 have Wk := Walks.tupRev (prog := prog) (w := w) (A := A.in1) hh a t hne its (by lia)
 have hSf : s.heap.objs.size ∉ [a,t] := by
  simp only [List.mem_cons,List.not_mem_nil,or_false,not_or]
  exact ⟨Nat.ne_of_gt lta,Nat.ne_of_gt ltt⟩
 refine wpAny_pure ⟨plainId_quiet F.plain_extend_loop _,codeAny_extend_loopS Wk.toS (Nat.le_of_lt (small1000 hn)) _ hSf _ its.size 0 _ _ _ rfl (Nat.zero_le _) ⟨Nat.zero_le _,?_,?_⟩ S4 (ItemsOf.nil _) fun s' acc' c' hmv S5 hacc => ?_⟩
 ·rw [show ((its.size : Int) - 1 - ((0 : Nat) : Int)) = (its.size : Int) - 1 by lia]
  exact oth _ _ (Nat.ne_of_lt lta) aG
 ·obtain ⟨o,ho,r⟩ := tG
  exact ⟨o,oth _ _ (Nat.ne_of_lt ltt) ho,r⟩
 ·refine show wpAny _ A (load s.heap.objs.size >>= _) _ _ s' from wpAny_bind (wpAny_load S5 (wpAny_pure (q s' acc' (fun b o nb e => hmv.heap b o (fun hb => by
   have hb' : b = s.heap.objs.size ∨ b = a := by simpa using hb
   rcases hb' with hb' | hb'
   ·exact absurd (Heap.lt_size e) (hb' ▸ Nat.lt_irrefl _)
   ·exact nb hb') (oth b o (Nat.ne_of_lt (Heap.lt_size e)) (keep b o e))) (Heap.lt_size S5) hmv.gens hmv.drawn hmv.os hacc)))
theorem call_revT {t : Addr} {xs : Array Value} {Q : Value → Shared → Prop} (ht : IsTup s.heap t xs) (hn : xs.size ≤ 1000)
  (q : ∀ k,Q (.ref s.heap.objs.size) { s with heap := s.heap.push (rvObj t ((xs.size : Int) - 1)),toks := k }) : wpAny (model prog w) A (call (.type "reversed") [.ref t]) Q E s := by
 refine callType_new rv_called (by decide) (rv_typeCall _) (rv_newCall _) (fun obj => F.args_object_init_2 obj _) rv_entry_new (meets_revT t xs) ⟨ht,by lia,fun k => ?_⟩
 exact ⟨⟨_,Heap.get?_push_size _ rfl,rfl⟩,q k⟩
theorem code_tuple_newR {a t : Addr} {its : Array Value} {Q₁ : Value → Shared → Prop} (hh : A.handled = none) (ha : s.heap.get? a = some (rvObj t ((its.size : Int) - 1))) (ht : IsTup s.heap t its) (hne : t ≠ a) (hn : its.size ≤ 1000) (h1 : 1 ≤ its.size)
  (h : ∀ (s' : Shared) (acc : Array Value),(∀ b o,b ≠ a → s.heap.get? b = some o → s'.heap.get? b = some o) → s.heap.objs.size < s'.heap.objs.size → s'.gens = s.gens → s'.drawn = s.drawn → s'.os = s.os → ItemsOf (fun i v => its[its.size - 1 - i]? = some v) acc its.size →
   Q₁ (.ref s'.heap.objs.size) { s' with heap := s'.heap.push { cls := .type "tuple",data := .seq acc } }) :
  codeAny (model prog w) A (.call (.builtin "tuple.__new__") ⟨[.type "tuple",.ref a],[]⟩) (wants Q₁ E) s := by
 refine codeAny_of_tree ?_
 show wpAny _ A.in1 (do checkBuiltinCall "tuple.__new__" ⟨[.type "tuple",.ref a],[]⟩; again (.builtin "tuple.__new__" ⟨[.type "tuple",.ref a],[]⟩)) _ _ s
 refine wpAny_bind (wpAny_of_eq (F.newCall_tuple_1 _) (wpAny_pure ⟨plainId_quiet F.plain_tuple_new _,codeAny_builtin F.entry_tuple_new ?_⟩))
 rw [Around.under_plainId F.plain_tuple_new _]
 have hsub := sub_tuple_self
 have hinit := init_tuple_lookup
 have hmh := madeHere_tuple
 have hTI : s.TypeIs (.ref a) "reversed" := ⟨_,ha,rfl⟩
 have hsz : its.size ≤ sizeLine := Nat.le_of_lt (small1000 hn)
 wp_walk using wpAny_typeOf hTI,collectR (A := A.in1) hh ha ht hne hn h1
 intro s' acc k1 k2 k3 k4 k5 hacc
 show wpAny _ _ (Builtin.Tuple.tupleExact acc.toList.toArray >>= fun v => ret v) _ _ _
 unfold Builtin.Tuple.tupleExact
 refine wpAny_bind (wpAny_newObj_type ?_ (by show acc.toList.toArray.size ≤ sizeLine; simp only [Array.toArray_toList]; rw [hacc.1]; exact hsz))
 refine wpAny_pure ?_
 have e : acc.toList.toArray = acc := by simp
 rw [e]
 exact h s' acc k1 k2 k3 k4 k5 hacc
theorem call_tupleR {a t : Addr} {its : Array Value} {Q : Value → Shared → Prop} (hh : A.handled = none) (ha : s.heap.get? a = some (rvObj t ((its.size : Int) - 1))) (ht : IsTup s.heap t its) (hne : t ≠ a) (hn : its.size ≤ 1000) (h1 : 1 ≤ its.size)
  (h : ∀ (s' : Shared) (acc : Array Value),(∀ b o,b ≠ a → s.heap.get? b = some o → s'.heap.get? b = some o) → s.heap.objs.size < s'.heap.objs.size → s'.gens = s.gens → s'.drawn = s.drawn → s'.os = s.os → ItemsOf (fun i v => its[its.size - 1 - i]? = some v) acc its.size →
   Q (.ref s'.heap.objs.size) { s' with heap := s'.heap.push { cls := .type "tuple",data := .seq acc } }) :
  wpAny (model prog w) A (call (.type "tuple") [.ref a]) Q E s := by
 refine callType_codes (Q₁ := fun obj s₁ => s₁.TypeIs obj "tuple" ∧ Q obj s₁) F.called_tuple (F.typeCall_tuple_1 _) F.entry_object_init
  (code_tuple_newR hh ha ht hne hn h1 fun s' acc k1 k2 k3 k4 k5 hacc => ⟨⟨_,Heap.get?_push_size _ rfl,rfl⟩,h s' acc k1 k2 k3 k4 k5 hacc⟩) fun obj s₁ h₁ => ?_
 exact ⟨h₁.1,F.args_object_init_2 obj _,object_init_meets F.called_tuple.init.lookup F.called_tuple.made (by decide) prog w A.in1 _ s₁ ⟨h₁.1,rfl,h₁.2⟩⟩
end
end L2
set_option Elab.async false
set_option linter.all false
set_option maxRecDepth 100000
set_option maxHeartbeats 4000000
namespace L2
open PySem PySem.Spec PyProof.Rows
section
variable {X : Cx}
theorem vals_rev : ∀ {xs : List V} {us : List Value},Vals xs us → Vals xs.reverse us.reverse
 | [],_,.nil => .nil
 | x :: xs,u :: us,.cons h r => by
  rw [List.reverse_cons,List.reverse_cons]
  exact (vals_rev r).append (.cons h .nil)
theorem isPs_rev {K : PySem.W.Frag} {H : Hp} : ∀ {l : List Dt} {xs : List V},IsPs K H l xs → IsPs K H l.reverse xs.reverse
 | [],_,.nil => .nil
 | d :: l,x :: xs,.cons h r => by
  rw [List.reverse_cons,List.reverse_cons]
  exact (isPs_rev r).append (.cons h .nil)
noncomputable def tTupRev (K : PySem.W.Frag) (te : TE) : TE := fun σ H Q => te σ H fun v H1 => ∃ l,IsP K H1 (.tup l) v ∧ 1 ≤ l.length ∧ l.length ≤ 1000 ∧ ∀ v' H',Same H1 H' → IsP K H' (.tup l.reverse) v' → Q v' H'
theorem pe_tupRev {e : Expr} {te : TE} {p1 p2 pos1 pos2 : Pos} (hc : X.calm = true) (hg1 : Gl X "tuple") (hm1 : X.mg "tuple" = none) (hg2 : Gl X "reversed") (hm2 : X.mg "reversed" = none) (he : PE X e te) (hs : starEach [e] X.env = [(false,eval e X.env)] := by rfl) :
  PE X (.Call (.Name "tuple" p1) [.Call (.Name "reversed" p2) [e] [] pos2] [] pos1) (tTupRev X.K te) := by
 intro pins s σ H Q I h
 refine wpAny_Call_Name_kw (ld_blt I hg1 hm1 (u := .type "tuple") rfl ?_)
 refine PyProof.Rows.callWith_type1 ?_ rfl rfl
 refine show wpAny _ _ (spliced ((false,eval (.Call (.Name "reversed" p2) [e] [] pos2) X.env) :: backTo pos1 (starEach [] X.env))) _ _ s from Calls.spliced_cons ?_
 refine wpAny_Call_Name_kw (ld_blt I hg2 hm2 (u := .type "reversed") rfl ?_)
 refine PyProof.Rows.callWith_type1 ?_ (by rw [hs]; rfl) rfl
 rw [hs]
 refine show wpAny _ _ (spliced ((false,eval e X.env) :: backTo pos2 [])) _ _ s from Calls.spliced_cons (thn (he pins s σ H _ I h) fun u s1 ⟨v,H1,I1,r1,l,hv,h1,h2,q⟩ => Calls.spliced_nil ?_)
 obtain ⟨a,xs,rfl,hx,_,hl⟩ := hv.unref
 cases r1
 obtain ⟨its,rr,pl,hz⟩ := I1.tuple hx
 have lx : xs.length = its.length := rr.length
 have ll : l.length = xs.length := hl.length
 have lta : a < s1.heap.objs.size := pl.lt
 refine call_revT pl (by rw [List.size_toArray]; lia) fun k => Calls.spliced_nil ?_
 have I2 : Inv X pins σ H1 { s1 with heap := s1.heap.push (rvObj a ((its.toArray.size : Int) - 1)),toks := k } := I1.kept fun b o e => Heap.get?_push_of_some _ e
 have pl2 : IsTup (s1.heap.push (rvObj a ((its.toArray.size : Int) - 1))) a its.toArray := by obtain ⟨o,ho,r⟩ := pl; exact ⟨o,Heap.get?_push_of_some _ ho,r⟩
 refine call_tupleR (s := { s1 with heap := s1.heap.push (rvObj a ((its.toArray.size : Int) - 1)),toks := k }) (its := its.toArray) (I1.ok.hd hc) (Heap.get?_push_size _ rfl) pl2 (Nat.ne_of_lt lta) (by rw [List.size_toArray]; lia) (by rw [List.size_toArray]; lia) fun s' acc k1 k2 k3 k4 k5 hacc => ?_
 obtain ⟨f0,f1,f2,f3,f4,f5⟩ := I1.fpOk (H' := H1) (Nat.le_refl s1.heap.objs.size) (I1.hok.fresh (Nat.le_refl _))
 have es : s' = { s1 with heap := s'.heap,toks := s'.toks } := by
  cases s'
  simp only at k3 k4 k5
  subst k3 k4 k5
  rfl
 have I3 : Inv X pins σ H1 s' := by
  rw [es]
  exact I2.turned (t' := s'.toks) (h' := s'.heap) (fun b o hb e => k1 b o hb e) f0 f1 f3 f4 f5
 have ea : acc = its.reverse.toArray := by
  have z1 : acc.size = its.length := by
   have := hacc.1
   simpa using this
  have z2 : ∀ j v,acc[j]? = some v → its.toArray[its.length - 1 - j]? = some v := fun j v hv => by
   have := hacc.2 j v hv
   simpa using this
  apply Array.ext'
  apply List.ext_getElem?
  intro j
  show acc.toList[j]? = its.reverse[j]?
  rw [Array.getElem?_toList]
  by_cases hj : j < acc.size
  ·have e1 := z2 j _ (Array.getElem?_eq_getElem hj)
   rw [Array.getElem?_eq_getElem hj,← e1,List.getElem?_toArray,List.getElem?_reverse (by lia)]
  ·rw [Array.getElem?_eq_none (by lia),List.getElem?_eq_none (by rw [List.length_reverse]; lia)]
 rw [ea]
 obtain ⟨I4,hf⟩ := I3.plain (t' := s'.toks) (vals_rev rr) (by rw [List.length_reverse]; exact hz)
 obtain ⟨g,dp⟩ := plain_is (X := X) (us := its.reverse) hf (isPs_rev hl)
 exact ⟨.ref s'.heap.objs.size,_,I4,rfl,q _ _ g dp⟩
theorem op_mulStr : OpR X (binaryOp .Mult) (fun x y H Q => ∃ (z : Str) (n : Int),x = .str z ∧ y = .int n ∧ z.length = 1 ∧ 0 ≤ n ∧ n ≤ 1000 ∧ ∀ z' : Str,z'.cps.toList = List.replicate n.toNat (z.cps.getD 0 0) → Q (.str z') H) := by
 intro pins s σ H x y v u Q I rx ry h
 obtain ⟨z,n,rfl,rfl,hz,h0,h1,q⟩ := h
 obtain ⟨t,rfl⟩ := rx
 obtain ⟨t',rfl⟩ := ry
 have zc : ∃ c,z = ⟨#[c]⟩ := by
  obtain ⟨cs⟩ := z
  match cs,hz with
  | ⟨[c]⟩,_ => exact ⟨c,rfl⟩
 obtain ⟨c,rfl⟩ := zc
 refine PySem.P.mul_str ?_ (fun _ _ => ?_) (fun _ _ => ?_) ?_
 ·rw [decide_eq_false (by lia),decide_eq_false (by lia)]
  rfl
 ·intro c1
  have c2 : ((1 : Nat) : Int) > (2 ^ 63 - 1) / n := c1
  have : (1 : Int) ≤ (2 ^ 63 - 1) / n := (Int.le_ediv_iff_mul_le (by lia)).mpr (by lia)
  lia
 ·refine decide_eq_false (Nat.not_lt.mpr ?_)
  show 1 * n.toNat ≤ sizeLine
  exact Nat.le_of_lt (small1000 (by lia))
 ·by_cases c1 : n < 1
  ·rw [if_pos c1]
   refine ⟨Nat.zero_le _,.str _,H,I.tok _,⟨_,rfl⟩,q _ ?_⟩
   rw [show n.toNat = 0 by lia]
   rfl
  ·rw [if_neg c1]
   by_cases c2 : n = 1
   ·subst c2
    exact ⟨.str _,H,I,⟨_,rfl⟩,q _ rfl⟩
   ·have c3 : ¬ (n == 1 || (⟨#[c]⟩ : Str).length == 0) = true := by
     rw [show ((⟨#[c]⟩ : Str).length == 0) = false from rfl,Bool.or_false]
     simpa using c2
    rw [if_neg c3]
    have e : ((List.replicate n.toNat (⟨#[c]⟩ : Str).cps).foldl (· ++ ·) #[]).toList = List.replicate n.toNat c := by
     have key : ∀ (k : Nat) (acc : Array Nat),((List.replicate k (#[c] : Array Nat)).foldl (· ++ ·) acc).toList = acc.toList ++ List.replicate k c := by
      intro k
      induction k with
      | zero => intro acc; simp
      | succ k ih =>
       intro acc
       rw [List.replicate_succ,List.foldl_cons,ih,List.replicate_succ]
       simp
     have := key n.toNat #[]
     simpa using this
    refine ⟨?_,.str _,H,I.tok _,⟨_,rfl⟩,q _ e⟩
    show (((List.replicate n.toNat (⟨#[c]⟩ : Str).cps).foldl (· ++ ·) #[])).size ≤ sizeLine
    rw [← Array.length_toList,e,List.length_replicate]
    exact Nat.le_of_lt (small1000 (by lia))
end
end L2
set_option Elab.async false
set_option linter.all false
set_option maxRecDepth 100000
set_option maxHeartbeats 4000000
namespace L2
open PySem PySem.Spec PyProof.Rows
section
variable {X : Cx} {K : PySem.W.Frag}
theorem rep_P {K : PySem.W.Frag} {H : Hp} {d : Dt} {x : V} (h : IsP K H d x) : ∀ k : Nat,IsPs K H (List.replicate k d) (List.replicate k x)
 | 0 => .nil
 | k + 1 => .cons h (rep_P h k)
theorem op_mulP : OpR X (binaryOp .Mult) (fun x y H Q => ∃ d n,IsP X.K H (.tup [d]) x ∧ y = .int n ∧ 1 < n ∧ n ≤ 30 ∧ ∀ v H',Same H H' → IsP X.K H' (.tup (List.replicate n.toNat d)) v → Q v H') := by
 intro pins s σ H x y v u Q I rx ry h
 obtain ⟨d,n,dx,rfl,h1,h2,q⟩ := h
 obtain ⟨a,xs,rfl,ha,_,ra⟩ := dx.unref
 cases rx
 obtain ⟨t,rfl⟩ := ry
 obtain ⟨its,r,p,_⟩ := I.tuple ha
 cases ra with
 | cons d1 ra =>
  cases ra
  cases r with
  | @cons _ u _ _ r1 r =>
   cases r
   refine mul_tup (show s.heap.IsTuple a #[u] from p) rfl h1 h2 (by simp) ?_
   have e : (List.replicate n.toNat #[u]).foldl (· ++ ·) #[] = (List.replicate n.toNat u).toArray := by
    rw [foldl_one]
    simp
   rw [e]
   obtain ⟨I2,hf⟩ := I.plain (t' := s.toks) (rep_V r1 n.toNat) (by rw [List.length_replicate]; exact Nat.le_trans (show n.toNat ≤ 30 by lia) (by decide))
   obtain ⟨g,dp⟩ := plain_is (X := X) (us := List.replicate n.toNat u) hf (rep_P d1 n.toNat)
   exact ⟨.ref s.heap.objs.size,_,I2,rfl,q _ _ g dp⟩
theorem op_mulPN (hK : X.K = K) : OpR X (binaryOp .Mult) (fun x y H Q => ∃ d n,IsP K H (.tup [d]) x ∧ y = .int n ∧ 1 < n ∧ n ≤ 30 ∧ ∀ v H',Same H H' → IsP K H' (.tup (List.replicate n.toNat d)) v → Q v H') := by subst hK; exact op_mulP
theorem upper_one : ∀ c,97 ≤ c → c ≤ 122 → Unicode.upperOf c = [c - 32] := by
 have : ∀ c,c < 123 → 97 ≤ c → Unicode.upperOf c = [c - 32] := by decide +kernel
 intro c h1 h2
 exact this c (by lia) h1
theorem upper_list (z : Str) (h : ∀ c ∈ z.cps.toList,97 ≤ c ∧ c ≤ 122) : (Txt.upper z).cps.toList = z.cps.toList.map (· - 32) := by
 obtain ⟨⟨cs⟩⟩ := z
 show ((Array.mapIdx (fun (i : Nat) c => (Unicode.upperOf c).toArray) (⟨cs⟩ : Array Nat)).flatten).toList = cs.map (· - 32)
 rw [Array.toList_flatten,Array.toList_mapIdx]
 have key : ∀ l : List Nat,(∀ c ∈ l,97 ≤ c ∧ c ≤ 122) → ((l.map fun c => (Unicode.upperOf c).toArray).map Array.toList).flatten = l.map (· - 32) := by
  intro l
  induction l with
  | nil => intro _; rfl
  | cons c l ih =>
   intro hc
   have hcc := hc c List.mem_cons_self
   rw [List.map_cons,List.map_cons,List.flatten_cons,ih fun c' h' => hc c' (List.mem_cons_of_mem _ h'),upper_one c hcc.1 hcc.2]
   rfl
 have e : List.mapIdx (fun (i : Nat) c => (Unicode.upperOf c).toArray) cs = cs.map fun c => (Unicode.upperOf c).toArray := by
  apply List.ext_getElem?
  intro i
  rw [List.getElem?_mapIdx,List.getElem?_map]
 rw [e]
 exact key cs h
theorem mt_upper : MtM X "str.upper" (fun x vs H Q => ∃ z : Str,x = .str z ∧ vs = [] ∧ (∀ c ∈ z.cps.toList,97 ≤ c ∧ c ≤ 122) ∧ z.length ≤ 100 ∧ ∀ z' : Str,z'.cps.toList = z.cps.toList.map (· - 32) → Q (.str z') H) := by
 intro pins s σ H x vs v us Q I rx rv h
 obtain ⟨z,rfl,rfl,hc,hl,q⟩ := h
 obtain ⟨t,rfl⟩ := rx
 obtain rfl := rv.zero
 have el : (Txt.upper z).length = z.length := by
  show (Txt.upper z).cps.size = z.cps.size
  rw [← Array.length_toList,upper_list z hc,List.length_map,Array.length_toList]
 have hfit : Builtin.Str.tooLong (placed z fun _ c => Unicode.upperOf c).size = false := decide_eq_false (Nat.not_lt.mpr (by
  show (Txt.upper z).length ≤ sizeLine
  rw [el]
  exact Nat.le_of_lt (small1000 (by lia))))
 refine call_gives F.slot_str_upper (typeIs_str s z t) F.entry_str_upper (F.args_str_upper_1 _) (gives_str_upper z t hfit) ⟨?_,.str _,H,I.tok _,⟨_,rfl⟩,q _ (upper_list z hc)⟩
 show (Txt.upper z).length ≤ sizeLine
 rw [el]
 exact Nat.le_of_lt (small1000 (by lia))
end
end L2
set_option Elab.async false
set_option linter.all false
set_option maxRecDepth 100000
set_option maxHeartbeats 4000000
namespace L2
open PySem PySem.Spec PyProof.Rows
section
variable {X : Cx} {K : PySem.W.Frag}
inductive JSlP (K : PySem.W.Frag) (x : V) (lo hi : Option Int) (H : Hp) (Q : VK) : Prop
 | mk (l : List Dt) : (IsP K H (.tup l) x) → (∀ v H',Same H H' → IsP K H' (.tup (cutD l lo hi)) v → Q v H') → JSlP K x lo hi H Q
noncomputable def nSlP (K : PySem.W.Frag) : V → Option Int → Option Int → Hp → VK → Prop := fun x lo hi H Q => JSlP K x lo hi H Q
inductive JLenS (K : PySem.W.Frag) (xs : List V) (H : Hp) (Q : VK) : Prop
 | mk (p : Addr) (ys : List V) : (xs = [.ref p]) → ((SqL K H p ys ∨ SqT K H p ys)) → (Q (.int ys.length) H) → JLenS K xs H Q
noncomputable def nLenS (K : PySem.W.Frag) : List V → Hp → VK → Prop := fun xs H Q => JLenS K xs H Q
noncomputable def nListOf (K : PySem.W.Frag) : List V → Hp → VK → Prop := fun xs H Q => ∃ p ys,xs = [.ref p] ∧ (SqL K H p ys ∨ SqT K H p ys) ∧ ∀ l,H l = none → Q (.ref l) (upd H l (.lst ys))
noncomputable def nSortS (K : PySem.W.Frag) : List V → Hp → VK → Prop := fun xs H Q => ∃ (p : Addr) (ss : List Str),xs = [.ref p] ∧ SqL K H p (ss.map V.str) ∧ ss.length < 64 ∧ ∀ a ss',H a = none → ss'.Perm ss → sortedS ss' = true → Q (.ref a) (upd H a (.lst (ss'.map V.str)))
noncomputable def nAll (K : PySem.W.Frag) : List V → Hp → VK → Prop := fun xs H Q => ∃ p ys,xs = [.ref p] ∧ true = true ∧ SqL K H p (bls ys) ∧ Q (.bl (ys.all id)) H
noncomputable def nAny (K : PySem.W.Frag) : List V → Hp → VK → Prop := fun xs H Q => ∃ p ys,xs = [.ref p] ∧ true = true ∧ SqL K H p (bls ys) ∧ Q (.bl (ys.any id)) H
noncomputable def nDictF (K : PySem.W.Frag) : List V → Hp → VK → Prop := fun xs H Q => ∃ x fs,xs = [x] ∧ IsP K H (.tup (fs.map prD)) x ∧ (fs.map (·.1)).Nodup ∧ fs.length ≤ 1000 ∧ ∀ p H',H p = none → Same H H' → DicQ K H' p fs → Q (.ref p) H'
theorem sl_tupPN (hK : X.K = K) : SlR X (nSlP K) := by
 subst hK
 intro pins s σ H x v vl vu lo hi sl Q I rx hs pl pu h
 obtain ⟨l,a,q⟩ := h
 exact sl_tupP _ _ _ _ _ _ _ _ _ _ _ _ I rx hs pl pu ⟨l,a,q⟩
theorem sl_listN (hK : X.K = K) : SlR X (rSlL K) := by subst hK; exact sl_list
theorem op_catSN (hK : X.K = K) : OpR X (binaryOp .Add) (rCatS K) := by subst hK; exact op_catS
theorem call_len_seqN (hK : X.K = K) : CallR X (.builtin "len") (nLenS K) := by
 subst hK
 intro pins s σ H xs us Q I r h
 obtain ⟨x,l,a,b,q⟩ := h
 exact call_len_seq _ _ _ _ _ _ _ I r ⟨x,l,a,b,q⟩
theorem call_list_ofN (hK : X.K = K) : CallR X (.type "list") (nListOf K) := by subst hK; exact call_list_of
theorem call_sortSN (hK : X.K = K) : CallR X (.builtin "sorted") (nSortS K) := by subst hK; exact call_sortS
theorem call_allN (hK : X.K = K) (hc : X.calm = true) : CallR X (.builtin "all") (nAll K) := by
 subst hK
 intro pins s σ H xs us Q I r h
 obtain ⟨p,ys,rfl,_,hs,q⟩ := h
 exact call_all _ _ _ _ _ _ _ I r ⟨p,ys,rfl,hc,hs,q⟩
theorem call_anyN (hK : X.K = K) (hc : X.calm = true) : CallR X (.builtin "any") (nAny K) := by
 subst hK
 intro pins s σ H xs us Q I r h
 obtain ⟨p,ys,rfl,_,hs,q⟩ := h
 exact call_any _ _ _ _ _ _ _ I r ⟨p,ys,rfl,hc,hs,q⟩
theorem call_dictFN (hK : X.K = K) (hc : X.calm = true) : CallR X (.type "dict") (nDictF K) := by subst hK; exact call_dictF hc
theorem op_ltIS : OpR X (compareOp .Lt) (fun x y H Q => rI0 (fun i j => .bl (decide (i < j))) x y H Q ∨ ∃ i j : Str,x = .str i ∧ y = .str j ∧ Q (.bl (decide (i.cps.toList < j.cps.toList))) H) := op_lt.or op_lt_str
end
section
variable {K : PySem.W.Frag} {a b l : Addr} {xs ys : List V} {g : TG} {tb : List V → Addr → St → Hp → (List V → St → Hp → Prop) → Prop} {R : Hp → Prop} {σ0 : St} {H0 : Hp}
theorem comp_zipTR (Pv : Nat → List V → St → Hp → Prop) (h0 : Pv 0 [] σ0 H0) (hla : ∀ i us σ H,Pv i us σ H → SqT K H a xs ∧ SqT K H b ys)
  (hs : ∀ i x y T us σ H (N : List V → St → Hp → Prop),xs[i]? = some x → ys[i]? = some y → H T = none → Pv i us σ H → (∀ us' σ' H',Pv (i + 1) us' σ' H' → N us' σ' H') → g (.ref T) σ (upd H T (.tup [x,y])) fun σ2 H2 => tb us l σ2 H2 N)
  (hd : ∀ us σ H,Pv (min xs.length ys.length) us σ H → R H) :
  ∃ W : Nat → Nat → List V → St → Hp → Prop,(∃ m,W 0 m [] σ0 H0) ∧ ∀ i m us σ' H',W i m us σ' H' → ((ItzT K a b).stop i H' ∧ R H') ∨
   ((ItzT K a b).go i H' ∧ ∀ x H'',(ItzT K a b).yld i H' x H'' → g x σ' H'' fun σ2 H2 => tb us l σ2 H2 fun us' σ3 H3 => ∃ m',m' < m ∧ W (i + 1) m' us' σ3 H3) := comp_zipT (Q := fun _ H => R H) Pv h0 hla hs hd
end
section
variable {X : Cx} {K : PySem.W.Frag}
end
end L2
set_option Elab.async false
set_option linter.all false
set_option maxRecDepth 100000
set_option maxHeartbeats 4000000
namespace K05
open PySem L2 PyProof.Rows
noncomputable def top (i : Nat) : Stmt := PySem.Challenge.pw_oldhands_k05_no_values.main.body.getD i (.Pass ⟨0,0,0,0⟩)
noncomputable abbrev s_is_whole : Stmt := top 5
noncomputable abbrev s_is_whole_within : Stmt := top 6
noncomputable abbrev s_is_sign : Stmt := top 9
noncomputable abbrev s_is_of : Stmt := top 10
noncomputable abbrev s_made_value : Stmt := top 11
noncomputable abbrev s_is_text_of : Stmt := top 12
noncomputable abbrev s_holds_tuple : Stmt := top 13
noncomputable abbrev s_holds_items : Stmt := top 14
noncomputable abbrev s_is_record_of : Stmt := top 15
noncomputable abbrev s_is_pair_of : Stmt := top 16
noncomputable abbrev s_are_keyed : Stmt := top 17
noncomputable abbrev s_field_of : Stmt := top 18
noncomputable abbrev s_law_cell_at : Stmt := top 20
noncomputable abbrev s_law_mixed : Stmt := top 21
noncomputable abbrev s_law_own : Stmt := top 22
noncomputable abbrev s_law_digit : Stmt := top 23
noncomputable abbrev s_law_names : Stmt := top 24
noncomputable abbrev s_law_number_kind : Stmt := top 25
noncomputable abbrev s_law_leaf_kind : Stmt := top 26
noncomputable abbrev s_law_record_kind : Stmt := top 27
noncomputable abbrev s_law_rows_kind : Stmt := top 28
noncomputable abbrev s_law_kind : Stmt := top 29
noncomputable abbrev s_law_text : Stmt := top 30
noncomputable abbrev s_law_keys : Stmt := top 31
noncomputable abbrev s_law_row_values : Stmt := top 32
noncomputable abbrev s_law_value : Stmt := top 33
noncomputable abbrev s_law_odd_number : Stmt := top 34
noncomputable abbrev s_law_odd_text : Stmt := top 35
noncomputable abbrev s_law_odd_choice : Stmt := top 36
noncomputable abbrev s_law_odd_list : Stmt := top 37
noncomputable abbrev s_law_odd_record : Stmt := top 38
noncomputable abbrev s_law_odd_rows : Stmt := top 39
noncomputable abbrev s_law_odd : Stmt := top 40
noncomputable abbrev s_law_spoilt : Stmt := top 41
noncomputable abbrev s_law_refused : Stmt := top 42
noncomputable abbrev s_law : Stmt := top 43
theorem sc_is_whole : FnScope ["thing"] ["thing"] (defScope s_is_whole) := ⟨rfl,rfl,rfl,by decide +kernel,rfl,by decide +kernel,by decide +kernel⟩
theorem sc_is_whole_within : FnScope ["thing","low","high"] ["thing","low","high"] (defScope s_is_whole_within) := ⟨rfl,rfl,rfl,by decide +kernel,rfl,by decide +kernel,by decide +kernel⟩
theorem sc_is_sign : FnScope ["letter"] ["letter"] (defScope s_is_sign) := ⟨rfl,rfl,rfl,by decide +kernel,rfl,by decide +kernel,by decide +kernel⟩
theorem sc_is_of : FnScope ["value","kind","word"] ["value","kind"] (defScope s_is_of) := ⟨rfl,rfl,rfl,by decide +kernel,rfl,by decide +kernel,by decide +kernel⟩
theorem sc_made_value : FnScope ["value","kind"] ["value","kind"] (defScope s_made_value) := ⟨rfl,rfl,rfl,by decide +kernel,rfl,by decide +kernel,by decide +kernel⟩
theorem sc_is_text_of : FnScope ["value","most"] ["value","most"] (defScope s_is_text_of) := ⟨rfl,rfl,rfl,by decide +kernel,rfl,by decide +kernel,by decide +kernel⟩
theorem sc_holds_tuple : FnScope ["value","word"] ["value","word"] (defScope s_holds_tuple) := ⟨rfl,rfl,rfl,by decide +kernel,rfl,by decide +kernel,by decide +kernel⟩
theorem sc_holds_items : FnScope ["value","word","kind","most"] ["value","word","kind","most"] (defScope s_holds_items) := ⟨rfl,rfl,rfl,by decide +kernel,rfl,by decide +kernel,by decide +kernel⟩
theorem sc_is_record_of : FnScope ["value","fields"] ["value","fields"] (defScope s_is_record_of) := ⟨rfl,rfl,rfl,by decide +kernel,rfl,by decide +kernel,by decide +kernel⟩
theorem sc_is_pair_of : FnScope ["pair","field"] ["pair","field"] (defScope s_is_pair_of) := ⟨rfl,rfl,rfl,by decide +kernel,rfl,by decide +kernel,by decide +kernel⟩
theorem sc_are_keyed : FnScope ["items","key","keys"] ["items","key"] (defScope s_are_keyed) := ⟨rfl,rfl,rfl,by decide +kernel,rfl,by decide +kernel,by decide +kernel⟩
theorem sc_field_of : FnScope ["record","name","own","value"] ["record","name"] (defScope s_field_of) := ⟨rfl,rfl,rfl,by decide +kernel,rfl,by decide +kernel,by decide +kernel⟩
theorem sc_law_cell_at : FnScope ["script","k"] ["script","k"] (defScope s_law_cell_at) := ⟨rfl,rfl,rfl,by decide +kernel,rfl,by decide +kernel,by decide +kernel⟩
theorem sc_law_mixed : FnScope ["cell","k","stir"] ["cell","k"] (defScope s_law_mixed) := ⟨rfl,rfl,rfl,by decide +kernel,rfl,by decide +kernel,by decide +kernel⟩
theorem sc_law_own : FnScope ["script","k","cell","found","j"] ["script","k"] (defScope s_law_own) := ⟨rfl,rfl,rfl,by decide +kernel,rfl,by decide +kernel,by decide +kernel⟩
theorem sc_law_digit : FnScope ["row","many","digit"] ["row","many"] (defScope s_law_digit) := ⟨rfl,rfl,rfl,by decide +kernel,rfl,by decide +kernel,by decide +kernel⟩
theorem sc_law_names : FnScope ["row","many","base","tail","way","words"] ["row","many"] (defScope s_law_names) := ⟨rfl,rfl,rfl,by decide +kernel,rfl,by decide +kernel,by decide +kernel⟩
theorem sc_law_number_kind : FnScope ["row","low","high"] ["row"] (defScope s_law_number_kind) := ⟨rfl,rfl,rfl,by decide +kernel,rfl,by decide +kernel,by decide +kernel⟩
theorem sc_law_leaf_kind : FnScope ["row","way","words"] ["row"] (defScope s_law_leaf_kind) := ⟨rfl,rfl,rfl,by decide +kernel,rfl,by decide +kernel,by decide +kernel⟩
theorem sc_law_record_kind : FnScope ["row","deep","room","many","fields","name"] ["row","deep","room"] (defScope s_law_record_kind) := ⟨rfl,rfl,rfl,by decide +kernel,rfl,by decide +kernel,by decide +kernel⟩
theorem sc_law_rows_kind : FnScope ["row","deep","room","names","key","fields","name","inner"] ["row","deep","room"] (defScope s_law_rows_kind) := ⟨rfl,rfl,rfl,by decide +kernel,rfl,by decide +kernel,by decide +kernel⟩
theorem sc_law_kind : FnScope ["row","deep","room","way"] ["row","deep","room"] (defScope s_law_kind) := ⟨rfl,rfl,rfl,by decide +kernel,rfl,by decide +kernel,by decide +kernel⟩
theorem sc_law_text : FnScope ["row","most","signs"] ["row","most"] (defScope s_law_text) := ⟨rfl,rfl,rfl,by decide +kernel,rfl,by decide +kernel,by decide +kernel⟩
theorem sc_law_keys : FnScope ["row","kind","many","start"] ["row","kind"] (defScope s_law_keys) := ⟨rfl,rfl,rfl,by decide +kernel,rfl,by decide +kernel,by decide +kernel⟩
theorem sc_law_row_values : FnScope ["row","kind","fields","items","most","key","pairs","name","value"] ["row","kind"] (defScope s_law_row_values) := ⟨rfl,rfl,rfl,by decide +kernel,rfl,by decide +kernel,by decide +kernel⟩
theorem sc_law_value : FnScope ["row","kind","word","edge","many"] ["row","kind"] (defScope s_law_value) := ⟨rfl,rfl,rfl,by decide +kernel,rfl,by decide +kernel,by decide +kernel⟩
theorem sc_law_odd_number : FnScope ["kind","row","far","odd"] ["kind","row"] (defScope s_law_odd_number) := ⟨rfl,rfl,rfl,by decide +kernel,rfl,by decide +kernel,by decide +kernel⟩
theorem sc_law_odd_text : FnScope ["kind","row","odd"] ["kind","row"] (defScope s_law_odd_text) := ⟨rfl,rfl,rfl,by decide +kernel,rfl,by decide +kernel,by decide +kernel⟩
theorem sc_law_odd_choice : FnScope ["kind","row","odd"] ["kind","row"] (defScope s_law_odd_choice) := ⟨rfl,rfl,rfl,by decide +kernel,rfl,by decide +kernel,by decide +kernel⟩
theorem sc_law_odd_list : FnScope ["kind","value","row","item","many","odd"] ["kind","value","row"] (defScope s_law_odd_list) := ⟨rfl,rfl,rfl,by decide +kernel,rfl,by decide +kernel,by decide +kernel⟩
theorem sc_law_odd_record : FnScope ["kind","value","row","pairs","odd","at"] ["kind","value","row"] (defScope s_law_odd_record) := ⟨rfl,rfl,rfl,by decide +kernel,rfl,by decide +kernel,by decide +kernel⟩
theorem sc_law_odd_rows : FnScope ["kind","value","row","items","odd"] ["kind","value","row"] (defScope s_law_odd_rows) := ⟨rfl,rfl,rfl,by decide +kernel,rfl,by decide +kernel,by decide +kernel⟩
theorem sc_law_odd : FnScope ["kind","value","row"] ["kind","value","row"] (defScope s_law_odd) := ⟨rfl,rfl,rfl,by decide +kernel,rfl,by decide +kernel,by decide +kernel⟩
theorem sc_law_spoilt : FnScope ["kind","value","row","parts","at"] ["kind","value","row"] (defScope s_law_spoilt) := ⟨rfl,rfl,rfl,by decide +kernel,rfl,by decide +kernel,by decide +kernel⟩
theorem sc_law_refused : FnScope ["value","kind","told","e"] ["value","kind"] (defScope s_law_refused) := ⟨rfl,rfl,rfl,by decide +kernel,rfl,by decide +kernel,by decide +kernel⟩
theorem sc_law : FnScope ["script","k","row","turn","kind","value","odd"] ["script"] (defScope s_law) := ⟨rfl,rfl,rfl,by decide +kernel,rfl,by decide +kernel,by decide +kernel⟩
structure Ads where
 HandError : Addr
 BadKind : Addr
 BadValue : Addr
structure Tx (K : PySem.W.Frag) (mg : Str → Option Value) (ad : Ads) : Prop where
 is_whole : ∃ f fd,Gn K mg "is_whole" s_is_whole ["thing"] f fd
 is_whole_within : ∃ f fd,Gn K mg "is_whole_within" s_is_whole_within ["thing","low","high"] f fd
 is_sign : ∃ f fd,Gn K mg "is_sign" s_is_sign ["letter"] f fd
 is_of : ∃ f fd,Gn K mg "is_of" s_is_of ["value","kind"] f fd
 made_value : ∃ f fd,Gn K mg "made_value" s_made_value ["value","kind"] f fd
 is_text_of : ∃ f fd,Gn K mg "is_text_of" s_is_text_of ["value","most"] f fd
 holds_tuple : ∃ f fd,Gn K mg "holds_tuple" s_holds_tuple ["value","word"] f fd
 holds_items : ∃ f fd,Gn K mg "holds_items" s_holds_items ["value","word","kind","most"] f fd
 is_record_of : ∃ f fd,Gn K mg "is_record_of" s_is_record_of ["value","fields"] f fd
 is_pair_of : ∃ f fd,Gn K mg "is_pair_of" s_is_pair_of ["pair","field"] f fd
 are_keyed : ∃ f fd,Gn K mg "are_keyed" s_are_keyed ["items","key"] f fd
 field_of : ∃ f fd,Gn K mg "field_of" s_field_of ["record","name"] f fd
 law_cell_at : ∃ f fd,Gn K mg "_law_cell_at" s_law_cell_at ["script","k"] f fd
 law_mixed : ∃ f fd,Gn K mg "_law_mixed" s_law_mixed ["cell","k"] f fd
 law_own : ∃ f fd,Gn K mg "_law_own" s_law_own ["script","k"] f fd
 law_digit : ∃ f fd,Gn K mg "_law_digit" s_law_digit ["row","many"] f fd
 law_names : ∃ f fd,Gn K mg "_law_names" s_law_names ["row","many"] f fd
 law_number_kind : ∃ f fd,Gn K mg "_law_number_kind" s_law_number_kind ["row"] f fd
 law_leaf_kind : ∃ f fd,Gn K mg "_law_leaf_kind" s_law_leaf_kind ["row"] f fd
 law_record_kind : ∃ f fd,Gn K mg "_law_record_kind" s_law_record_kind ["row","deep","room"] f fd
 law_rows_kind : ∃ f fd,Gn K mg "_law_rows_kind" s_law_rows_kind ["row","deep","room"] f fd
 law_kind : ∃ f fd,Gn K mg "_law_kind" s_law_kind ["row","deep","room"] f fd
 law_text : ∃ f fd,Gn K mg "_law_text" s_law_text ["row","most"] f fd
 law_keys : ∃ f fd,Gn K mg "_law_keys" s_law_keys ["row","kind"] f fd
 law_row_values : ∃ f fd,Gn K mg "_law_row_values" s_law_row_values ["row","kind"] f fd
 law_value : ∃ f fd,Gn K mg "_law_value" s_law_value ["row","kind"] f fd
 law_odd_number : ∃ f fd,Gn K mg "_law_odd_number" s_law_odd_number ["kind","row"] f fd
 law_odd_text : ∃ f fd,Gn K mg "_law_odd_text" s_law_odd_text ["kind","row"] f fd
 law_odd_choice : ∃ f fd,Gn K mg "_law_odd_choice" s_law_odd_choice ["kind","row"] f fd
 law_odd_list : ∃ f fd,Gn K mg "_law_odd_list" s_law_odd_list ["kind","value","row"] f fd
 law_odd_record : ∃ f fd,Gn K mg "_law_odd_record" s_law_odd_record ["kind","value","row"] f fd
 law_odd_rows : ∃ f fd,Gn K mg "_law_odd_rows" s_law_odd_rows ["kind","value","row"] f fd
 law_odd : ∃ f fd,Gn K mg "_law_odd" s_law_odd ["kind","value","row"] f fd
 law_spoilt : ∃ f fd,Gn K mg "_law_spoilt" s_law_spoilt ["kind","value","row"] f fd
 law_refused : ∃ f fd,Gn K mg "_law_refused" s_law_refused ["value","kind"] f fd
 law : ∃ f fd,Gn K mg "law" s_law ["script"] f fd
 x_HandError : ExC K mg "HandError" ad.HandError
 x_BadKind : ExC K mg "BadKind" ad.BadKind
 x_BadValue : ExC K mg "BadValue" ad.BadValue
 PERCENT : ∃ t,mg "PERCENT" = some (.int 37 t)
 z_ValueError : mg "ValueError" = none
 z_all : mg "all" = none
 z_any : mg "any" = none
 z_bool : mg "bool" = none
 z_dict : mg "dict" = none
 z_int : mg "int" = none
 z_isinstance : mg "isinstance" = none
 z_len : mg "len" = none
 z_list : mg "list" = none
 z_min : mg "min" = none
 z_ord : mg "ord" = none
 z_range : mg "range" = none
 z_reversed : mg "reversed" = none
 z_sorted : mg "sorted" = none
 z_str : mg "str" = none
 z_sum : mg "sum" = none
 z_tuple : mg "tuple" = none
 z_zip : mg "zip" = none
 kits : (PySem.W.kitOne K (.ref ad.BadValue) (.ref ad.BadValue) == some true && PySem.W.kitOne K (.ref ad.BadValue) (.type "ValueError") == some true && PySem.W.kitOne K (.ref ad.BadValue) (.ref ad.BadKind) == some false) = true
 exk : PySem.W.exmOne K (.ref ad.BadValue) (.ref ad.HandError) = some true
noncomputable abbrev depth : Nat := 60
theorem join1 {a b : TS} {D : Ends} {σ : L2.St} {H : Hp} (R : L2.St → Hp → Prop) (h2 : ∀ σ' H',R σ' H' → b D σ' H') (h1 : (∀ σ' H',R σ' H' → b D σ' H') → tSeq a b D σ H) : tSeq a b D σ H := h1 h2
theorem seq_name {a b : TS} {D : Ends} {σ : L2.St} {H : Hp} (h : ∀ k : L2.St → Hp → Prop,(∀ σ H,b D σ H → k σ H) → a { D with nx := k } σ H) : tSeq a b D σ H := h _ fun _ _ h => h
theorem join2 {a b c : TS} {D : Ends} {σ : L2.St} {H : Hp} (R : L2.St → Hp → Prop) (h2 : ∀ σ' H',R σ' H' → c D σ' H') (h1 : (∀ σ' H',R σ' H' → c D σ' H') → tSeq a (tSeq b c) D σ H) : tSeq a (tSeq b c) D σ H := h1 h2
theorem goal_name {G : Prop} (h : ∀ g : Prop,(G → g) → g) : G := h G id
noncomputable abbrev letters : Str := "abcdefghijklmnopqrstuvwxyz"
noncomputable def inB (c : Nat) : Bool := !(Builtin.Str.occurrences letters ⟨#[c]⟩ 0 letters.length 1).isEmpty
noncomputable def nameB (z : Str) : Bool := decide (1 ≤ z.length) && decide (z.length ≤ 8) && !decide (z = "each") && z.cps.toList.all inB
noncomputable def ltS (a b : Str) : Prop := a.cps.toList < b.cps.toList
noncomputable instance (a b : Str) : Decidable (ltS a b) := inferInstanceAs (Decidable (a.cps.toList < b.cps.toList))
noncomputable def wordsB (ws : List Str) : Bool := decide (1 ≤ ws.length) && decide (ws.length ≤ 8) && ws.all nameB && decide ws.Nodup
noncomputable abbrev G4 := Str × Dt × Nat × Nat
noncomputable abbrev nk (g : G4) : Str × Dt := (g.1,g.2.1)
noncomputable abbrev prG (g : G4) : Dt := .tup [.str g.1,g.2.1]
noncomputable def sumN : List Nat → Nat
 | [] => 0
 | n :: r => n + sumN r
noncomputable def maxN : List Nat → Nat
 | [] => 0
 | n :: r => max n (maxN r)
noncomputable def keyL (l : List Dt) (z : Str) : Prop := ∃ w r,Dt.tup [.str z,.tup (.str w :: r)] ∈ l ∧ (w = "number" ∨ w = "text")
noncomputable abbrev oddW (ws : List Str) : Prop := ∀ z ∈ ws,z ≠ "nonesuch" ∧ ∀ y ∈ ws,y ≠ z ++ "x"
inductive FK : Nat → Nat → Dt → Prop
 | text (i : Int) : 0 ≤ i → i ≤ 60 → FK 1 1 (.tup [.str "text",.int i])
 | choice (ws : List Str) : wordsB ws = true → oddW ws → FK 1 1 (.tup [.str "choice",.tup (ws.map Dt.str)])
 | number (i j : Int) : -1000000000000000000000000000000 ≤ i → i ≤ j → j ≤ 1000000000000000000000000000000 → FK 1 1 (.tup [.str "number",.int i,.int j])
 | list {a c : Nat} {k : Dt} {i : Int} : FK a c k → 0 ≤ i → i ≤ 8 → FK (a + 1) (c + 1) (.tup [.str "list",k,.int i])
 | rows {a c : Nat} {z : Str} {l : List Dt} {i : Int} : FK a c (.tup [.str "record",.tup l]) → keyL l z → 0 ≤ i → i ≤ 8 → FK (a + 1) (c + 1) (.tup [.str "rows",.str z,.tup [.str "record",.tup l],.int i])
 | rcd {gs : List G4} : (∀ g ∈ gs,FK g.2.2.1 g.2.2.2 g.2.1) → (gs.map (·.1)).Pairwise ltS → (∀ g ∈ gs,nameB g.1 = true ∧ g.1 ≠ "zzzzzzzz") → gs.length ≤ 8 → FK (maxN (gs.map (·.2.2.1)) + 1) (sumN (gs.map (·.2.2.2)) + 1) (.tup [.str "record",.tup (gs.map prG)])
theorem FK.pos {a c : Nat} {d : Dt} (h : FK a c d) : 1 ≤ a := by cases h <;> lia
theorem le_max {n : Nat} : ∀ {l : List Nat},n ∈ l → n ≤ maxN l
 | m :: l,h => by
  show n ≤ max m (maxN l)
  rcases List.mem_cons.mp h with rfl | h
  ·exact Nat.le_max_left _ _
  ·exact Nat.le_trans (le_max h) (Nat.le_max_right _ _)
theorem max_le {b : Nat} : ∀ {l : List Nat},(∀ n ∈ l,n ≤ b) → maxN l ≤ b
 | [],_ => Nat.zero_le _
 | m :: l,h => by
  show max m (maxN l) ≤ b
  exact Nat.max_le.mpr ⟨h m List.mem_cons_self,max_le fun n hn => h n (List.mem_cons_of_mem _ hn)⟩
inductive I_sp_law_mixed    (vs : List V) (H : Hp) (Q : VK) : Prop
 | mk (i k : Int) : (vs = [.int i,.int k]) → (∀ c,Q (.int c) H) → I_sp_law_mixed  vs H Q
noncomputable def sp_law_mixed (_ : PySem.W.Frag) (_ : Ads)  : Sp := fun vs H Q _ => I_sp_law_mixed  vs H Q
inductive I_sp_law_digit    (vs : List V) (H : Hp) (Q : VK) : Prop
 | mk (r : Addr) (n m : Int) : (vs = [.ref r,.int m]) → (H r = some (.lst [.int n])) → (0 < m) → (m < 10000000000000000000000000000000000000000000000000000000000000) → (Q (.int (n % m)) (upd H r (.lst [.int (n / m)]))) → I_sp_law_digit  vs H Q
noncomputable def sp_law_digit (_ : PySem.W.Frag) (_ : Ads)  : Sp := fun vs H Q _ => I_sp_law_digit  vs H Q
inductive I_sp_law_cell_at (K : PySem.W.Frag)   (vs : List V) (H : Hp) (Q : VK) : Prop
 | mk (a : Addr) (ns : List Int) (k : Nat) : (vs = [.ref a,.int k]) → (SqL K H a (ns.map V.int)) → (ns.length ≤ 63) → (∀ c,Q (.int c) H) → I_sp_law_cell_at K vs H Q
noncomputable def sp_law_cell_at (K : PySem.W.Frag) (_ : Ads)  : Sp := fun vs H Q _ => I_sp_law_cell_at K vs H Q
inductive I_sp_law_own (K : PySem.W.Frag)   (vs : List V) (H : Hp) (Q : VK) : Prop
 | mk (a : Addr) (ns : List Int) (k : Nat) : (vs = [.ref a,.int k]) → (SqL K H a (ns.map V.int)) → (ns.length ≤ 63) → (k < 1000) → (∀ r n H',H r = none → Same H H' → H' r = some (.lst [.int n]) → Q (.ref r) H') → I_sp_law_own K vs H Q
noncomputable def sp_law_own (K : PySem.W.Frag) (_ : Ads)  : Sp := fun vs H Q _ => I_sp_law_own K vs H Q
inductive I_spLaw (K : PySem.W.Frag)  (vs : List V) (H : Hp) (Q : VK) : Prop
 | mk (a : Addr) (ns : List Int) : (vs = [.ref a]) → (SqL K H a (ns.map V.int)) → (ns.length ≤ 63) → (∀ H',Q (.bl true) H') → I_spLaw K vs H Q
noncomputable def spLaw (K : PySem.W.Frag)  : Sp := fun vs H Q _ => I_spLaw K vs H Q
noncomputable abbrev sp_law (K : PySem.W.Frag) (_ : Ads) : Sp := spLaw K
theorem small {n : Nat} (h : n ≤ 1000) : n ≤ sizeLine := Nat.le_of_lt (small1000 h)
theorem take_next {α β : Type} {xs : List α} {i : Nat} {x : α} (f : α → β) (h : xs[i]? = some x) : (xs.take i).map f ++ [f x] = (xs.take (i + 1)).map f := by
 rw [List.take_add_one,h,List.map_append]; rfl
theorem lt_nodup {l : List Str} (h : l.Pairwise ltS) : l.Nodup := List.Pairwise.imp (fun {a b} hab e => by
 subst e
 exact absurd hab (List.lt_irrefl _)) h
section
variable {P : Program} {w : World} {K : PySem.W.Frag} {mg : Str → Option Value} {base : Heap} {ad : Ads}
theorem ok_law_mixed (T : Tx K mg ad) {f : Addr} {fd : FuncData} (F : Gn K mg "_law_mixed" s_law_mixed ["cell","k"] f fd) : FnOk P w K mg base CX0 1 f fd ["cell","k"] (sp_law_mixed K ad) := by
 refine F.F.ok sc_law_mixed (fun vs H Q E h => ?_) (fun cdv A outer s H vs Q E hr h => ?_)
 ·obtain ⟨i,k,rfl,_⟩ := h
  rfl
 obtain ⟨i,k,rfl,q⟩ := h
 refine ⟨_,(@pss_cons _ _ _ _ _ (@ps_set _ _ 2 _ _ _ _ sc_law_mixed.nd rfl (Or.inl rfl) (@pe_op _ _ _ _ _ _ _ _ op_mod (@pe_op _ _ _ _ _ _ _ _ op_mul (@pe_op _ _ _ _ _ _ _ _ op_add (@pe_op _ _ _ _ _ _ _ _ op_add (@pe_op _ _ _ _ _ _ _ _ op_mod (pv 0) pe_int) (@pe_op _ _ _ _ _ _ _ _ op_mul pe_int (pv 1))) pe_int) pe_int) pe_int) (by rfl) (by first | exact .inl rfl | exact .inr rfl | assumption)) (@pss_one _ _ _ (@ps_ret _ _ _ _ (@pe_op _ _ _ _ _ _ _ _ op_mod (@pe_op _ _ _ _ _ _ _ _ op_mul (@pe_op _ _ _ _ _ _ _ _ op_mod (@pe_op _ _ _ _ _ _ _ _ op_mul (pv 2) (pv 2)) pe_int) pe_int) pe_int)))),?_⟩
 refine ⟨_,rfl,_,_,rfl,rfl,(by show (0 : Int) < 1000000007; decide),_,rfl,_,_,rfl,rfl,.inl ⟨by decide,by decide⟩,_,_,rfl,rfl,_,_,rfl,rfl,_,_,rfl,rfl,.inr ⟨by decide,by decide⟩,_,_,rfl,rfl,(by show (0 : Int) < 2147483647; decide),?_⟩
 have b0 : (0 : Int) ≤ (i % 1000000007 + 7919 * k + 1) * 48271 % 2147483647 := Int.emod_nonneg _ (by decide)
 have b1 : (i % 1000000007 + 7919 * k + 1) * 48271 % 2147483647 < 2147483647 := Int.emod_lt_of_pos _ (by decide)
 exact ⟨_,rfl,_,rfl,_,_,rfl,rfl,.inl ⟨by lia,by lia⟩,_,_,rfl,rfl,(by show (0 : Int) < 2147483629; decide),_,_,rfl,rfl,.inr ⟨by decide,by decide⟩,_,_,rfl,rfl,(by show (0 : Int) < 2147483647; decide),q _⟩
theorem ok_law_digit (T : Tx K mg ad) {f : Addr} {fd : FuncData} (F : Gn K mg "_law_digit" s_law_digit ["row","many"] f fd) : FnOk P w K mg base CX0 1 f fd ["row","many"] (sp_law_digit K ad) := by
 refine F.F.ok sc_law_digit (fun vs H Q E h => ?_) (fun cdv A outer s H vs Q E hr h => ?_)
 ·obtain ⟨r,n,m,rfl,_⟩ := h
  rfl
 obtain ⟨r,n,m,rfl,hr0,h0,h1,q⟩ := h
 refine ⟨_,(@pss_cons _ _ _ _ _ (@ps_set _ _ 2 _ _ _ _ sc_law_digit.nd rfl (Or.inl rfl) (@pe_op _ _ _ _ _ _ _ _ op_mod (@pe_ix _ _ _ _ _ _ _ (ix_listK (K := K) rfl) (pv 0) pe_int (fun _ _ => rfl)) (pv 1)) (by rfl) (by first | exact .inl rfl | exact .inr rfl | assumption)) (@pss_cons _ _ _ _ _ (ps_asg (@pe_op _ _ _ _ _ _ _ _ op_fdivB (@pe_ix _ _ _ _ _ _ _ (ix_listK (K := K) rfl) (pv 0) pe_int (fun _ _ => rfl)) (pv 1)) (pg_sub (pv 0) pe_int set_list)) (@pss_one _ _ _ (@ps_ret _ _ _ _ (pv 2))))),?_⟩
 have e0 : atI [V.int n] 0 = some (.int n) := rfl
 exact ⟨_,rfl,r,_,_,_,rfl,rfl,SqL.of hr0,e0,_,rfl,_,_,rfl,rfl,h0,_,rfl,r,_,_,_,rfl,rfl,SqL.of hr0,e0,_,rfl,_,_,rfl,rfl,⟨h0,h1⟩,_,rfl,r,_,_,_,rfl,rfl,hr0,rfl,_,rfl,q⟩
theorem pick {α : Type} {xs : List α} {d : Int} (h0 : 0 ≤ d) (h1 : d < (xs.length : Int)) : ∃ v,v ∈ xs ∧ atI xs d = some v := by
 have hk : d.toNat < xs.length := by lia
 have ek : ((d.toNat : Nat) : Int) = d := by lia
 have e : atI xs ((d.toNat : Nat) : Int) = some xs[d.toNat] := atI_nat (by simp [hk])
 rw [ek] at e
 exact ⟨xs[d.toNat],List.getElem_mem hk,e⟩
theorem mod_lt (n : Int) {m : Int} (h : 0 < m) : 0 ≤ n % m ∧ n % m < m := ⟨Int.emod_nonneg _ (by lia),Int.emod_lt_of_pos _ h⟩
theorem ok_law_cell_at (T : Tx K mg ad) {f : Addr} {fd : FuncData} (F : Gn K mg "_law_cell_at" s_law_cell_at ["script","k"] f fd) : FnOk P w K mg base CX0 1 f fd ["script","k"] (sp_law_cell_at K ad) := by
 refine F.F.ok sc_law_cell_at (fun vs H Q E h => ?_) (fun cdv A outer s H vs Q E hr h => ?_)
 ·obtain ⟨a,ns,k,rfl,_⟩ := h
  rfl
 obtain ⟨a,ns,k,rfl,hS,h63,q⟩ := h
 refine ⟨_,(@pss_cons _ _ _ _ _ (@ps_if _ _ _ _ _ _ _ _ (pt_cmpR op_lt (pv 1) (pe_callB (call_len_seqN (K := K) rfl) rfl T.z_len PySem.boot_len (@pa_cons _ _ _ _ _ (pv 0) pa_nil (by rfl))) (nomark _)) (@pss_one _ _ _ (@ps_ret _ _ _ _ (@pe_ix _ _ _ _ _ _ _ (ix_listK (K := K) rfl) (pv 0) (pv 1) (fun _ _ => rfl)))) pss_nil) (@pss_one _ _ _ (@ps_ret _ _ _ _ pe_int))),?_⟩
 refine ⟨_,rfl,_,rfl,a,_,rfl,.inl hS,_,_,rfl,rfl,_,rfl,?_⟩
 rw [List.length_map]
 refine ite2 (fun c => ?_) (fun c => ?_)
 ·have c' : (k : Int) < ns.length := of_decide_eq_true c
  refine goal_name fun gg hgg => ?_
  obtain ⟨v,hv,e⟩ := pick (xs := ns.map V.int) (d := (k : Int)) (by lia) (by rw [List.length_map]; exact c')
  refine hgg ?_
  clear hgg gg
  refine goal_name fun gg hgg => ?_
  obtain ⟨i,_,rfl⟩ := List.mem_map.mp hv
  refine hgg ?_
  clear hgg gg
  exact ⟨_,rfl,_,rfl,a,_,_,_,rfl,rfl,hS,e,q i⟩
 ·exact q 0
theorem ok_law_own (T : Tx K mg ad) {f : Addr} {fd : FuncData} (F : Gn K mg "_law_own" s_law_own ["script","k"] f fd) : FnOk P w K mg base CX0 2 f fd ["script","k"] (sp_law_own K ad) := by
 obtain ⟨f_law_cell_at,fd_law_cell_at,D_law_cell_at⟩ := T.law_cell_at
 have G_law_cell_at := ok_law_cell_at (P := P) (w := w) (base := base) T D_law_cell_at
 obtain ⟨f_law_mixed,fd_law_mixed,D_law_mixed⟩ := T.law_mixed
 have G_law_mixed := ok_law_mixed (P := P) (w := w) (base := base) T D_law_mixed
 refine F.F.ok sc_law_own (fun vs H Q E h => ?_) (fun cdv A outer s H vs Q E hr h => ?_)
 ·obtain ⟨a,ns,k,rfl,_⟩ := h
  rfl
 obtain ⟨a,ns,k,rfl,hS,h63,hk,q⟩ := h
 refine ⟨_,(@pss_cons _ _ _ _ _ (@ps_set _ _ 2 _ _ _ _ sc_law_own.nd rfl (Or.inl rfl) (pe_call G_law_cell_at (hr.mono (by first | decide | lia)) rfl D_law_cell_at.m D_law_cell_at.F.kp D_law_cell_at.b .nil pass0 (@pa_cons _ _ _ _ _ (pv 0) (@pa_cons _ _ _ _ _ (pv 1) pa_nil (by rfl)) (by rfl))) (by rfl) (by first | exact .inl rfl | exact .inr rfl | assumption)) (@pss_cons _ _ _ _ _ (@ps_if _ _ _ _ _ _ _ _ (pt_cmpR op_ge (pv 2) (@pe_op _ _ _ _ _ _ _ _ op_pow pe_int pe_int) (nomark _)) (@pss_one _ _ _ (@ps_ret _ _ _ _ (@pe_lst _ _ _ _ (@pa_cons _ _ _ _ _ (pv 2) pa_nil (by rfl))))) pss_nil) (@pss_cons _ _ _ _ _ (@ps_set _ _ 3 _ _ _ _ sc_law_own.nd rfl (Or.inl rfl) pe_int (by rfl) (by first | exact .inl rfl | exact .inr rfl | assumption)) (@pss_cons _ _ _ _ _ (ps_for PassesOwn.never rfl (pi_range1 rfl T.z_range (@pa_cons _ _ _ _ _ pe_int pa_nil (by rfl))) (pg_name (i := 4) sc_law_own.nd rfl (Or.inl rfl))
    (@pss_one _ _ _ (@ps_set _ _ 3 _ _ _ _ sc_law_own.nd rfl (Or.inl rfl) (@pe_op _ _ _ _ _ _ _ _ op_add (@pe_op _ _ _ _ _ _ _ _ op_mul (pv 3) pe_int) (pe_call G_law_mixed (hr.mono (by first | decide | lia)) rfl D_law_mixed.m D_law_mixed.F.kp D_law_mixed.b .nil pass0 (@pa_cons _ _ _ _ _ (@pe_op _ _ _ _ _ _ _ _ op_add (@pe_op _ _ _ _ _ _ _ _ op_add (@pe_op _ _ _ _ _ _ _ _ op_mod (pe_callB call_sum rfl T.z_sum boot_sum (@pa_cons _ _ _ _ _ (pv 0) pa_nil (by rfl))) (@pe_op _ _ _ _ _ _ _ _ op_pow pe_int pe_int)) (pv 2)) (pv 1)) (@pa_cons _ _ _ _ _ (@pe_op _ _ _ _ _ _ _ _ op_add (@pe_op _ _ _ _ _ _ _ _ op_mul pe_int (pv 1)) (pv 4)) pa_nil (by rfl)) (by rfl)))) (by rfl) (by first | exact .inl rfl | exact .inr rfl | assumption)))) (@pss_one _ _ _ (@ps_ret _ _ _ _ (@pe_lst _ _ _ _ (@pa_cons _ _ _ _ _ (@pe_op _ _ _ _ _ _ _ _ op_fdivB (pv 3) pe_int) pa_nil (by rfl))))))))),?_⟩
 refine ⟨_,rfl,_,rfl,a,ns,k,rfl,hS,h63,fun x => ?_⟩
 refine ⟨_,rfl,_,_,rfl,rfl,⟨by decide,by decide,by decide⟩,_,_,rfl,rfl,_,rfl,?_⟩
 refine ite2 (fun c1 => ?_) (fun c1 => ?_)
 ·exact ⟨_,rfl,(by show 1 ≤ sizeLine; decide),fun r hr' => q r x _ hr' (same_new hr' _) upd_same⟩
 refine ⟨24,rfl,by decide,by decide,for_range (lo := 0) (n := (24 : Int).toNat) (fun i σ H1 => H1 = H ∧ ∃ y v,σ = [some (.ref a),some (.int k),some (.int x),some (.int y),v]) ⟨rfl,0,_,rfl⟩ ?_ ?_⟩
 ·intro i σ H1 hi hI9
  refine goal_name fun gg hgg => ?_
  obtain ⟨rfl,y,v,rfl⟩ := hI9
  refine hgg ?_
  clear hgg gg
  refine ⟨_,rfl,_,_,rfl,rfl,.inr ⟨by decide,by decide⟩,?_⟩
  refine ⟨_,rfl,a,ns,rfl,rfl,hS,_,_,rfl,rfl,⟨by decide,by decide,by decide⟩,_,_,rfl,rfl,(by show (0 : Int) < 10 ^ (60 : Int).toNat; decide +kernel),?_⟩
  refine ⟨_,rfl,_,_,rfl,rfl,_,rfl,_,_,rfl,rfl,?_⟩
  refine ⟨_,rfl,_,_,rfl,rfl,.inl ⟨by decide,by decide⟩,_,rfl,_,_,rfl,rfl,_,_,rfl,fun m => ?_⟩
  exact ⟨_,_,rfl,rfl,rfl,_,_,rfl⟩
 ·intro σ H1 hI9
  refine goal_name fun gg hgg => ?_
  obtain ⟨rfl,y,v,rfl⟩ := hI9
  refine hgg ?_
  clear hgg gg
  exact ⟨_,rfl,_,_,rfl,rfl,⟨by decide,by decide⟩,(by show 1 ≤ sizeLine; decide),fun r hr' => q r _ _ hr' (same_new hr' _) upd_same⟩
structure Nam (m : Nat) (ss : List Str) : Prop where
 len : ss.length = m
 asc : ss.Pairwise ltS
 ok : ∀ z ∈ ss,nameB z = true ∧ z ≠ "zzzzzzzz"
 odd : oddW ss
theorem lt_total {a b : Str} (h : ¬ ltS b a) (n : a ≠ b) : ltS a b := by
 by_cases c : ltS a b
 ·exact c
 ·refine absurd ?_ n
  have e : a.cps.toList = b.cps.toList := List.le_antisymm (List.not_lt.mp h) (List.not_lt.mp c)
  cases a
  cases b
  simp only at e
  rw [Array.toList_inj.mp e]
theorem rising_pw : ∀ (l : List Str) (p : Str),risingS p l = true → (p :: l).Nodup → (p :: l).Pairwise ltS
 | [],p,_,_ => List.pairwise_singleton _ _
 | x :: l,p,h,nd => by
  simp only [risingS,ltCps_eq,Bool.and_eq_true,Bool.not_eq_true',decide_eq_false_iff_not] at h
  have nd' := List.nodup_cons.mp nd
  have ih := rising_pw l x h.2 nd'.2
  have px : ltS p x := lt_total h.1 fun e => nd'.1 (e ▸ List.mem_cons_self)
  refine List.pairwise_cons.mpr ⟨fun y hy => ?_,ih⟩
  rcases List.mem_cons.mp hy with rfl | hy
  ·exact px
  ·exact List.lt_trans px ((List.pairwise_cons.mp ih).1 y hy)
theorem sorted_pw {l : List Str} (h : sortedS l = true) (nd : l.Nodup) : l.Pairwise ltS := by
 cases l with
 | nil => exact .nil
 | cons x l => exact rising_pw l x h nd
theorem nam_sorted {ss l : List Str} (hp : ss.Perm l) (hs : sortedS ss = true) (nd : l.Nodup) (ok : ∀ z ∈ l,nameB z = true ∧ z ≠ "zzzzzzzz") (od : oddW l) : Nam l.length ss :=
 ⟨hp.length_eq,sorted_pw hs (hp.nodup_iff.mpr nd),fun z hz => ok z (hp.mem_iff.mp hz),fun z hz => ⟨(od z (hp.mem_iff.mp hz)).1,fun y hy => (od z (hp.mem_iff.mp hz)).2 y (hp.mem_iff.mp hy)⟩⟩
noncomputable def f1 (k : Nat) : Str := Txt.slice "abcdefgh" none (some (0 + (k : Int) + 1))
theorem fact1 : ∀ m,m < 9 → ((List.range m).map f1).Pairwise ltS ∧ ∀ z ∈ (List.range m).map f1,nameB z = true ∧ z ≠ "zzzzzzzz" := by decide +kernel
noncomputable def words8 : List Str := ["eac","eachx","list","lists","number","rows","text","words"]
noncomputable def f2 (b k : Nat) : Str := words8.getD ((b + k) % 8) ""
theorem fact2 : ∀ b,b < 26 → ((List.range 8).map (f2 b)).Nodup ∧ ∀ z ∈ (List.range 8).map (f2 b),nameB z = true ∧ z ≠ "zzzzzzzz" := by decide +kernel
noncomputable def tails : List Str := ["","a","zz","eachone"]
noncomputable def f3 (b : Nat) (t : Str) (k : Nat) : Str := ⟨#[letters.cps.toList.getD ((b + 7 * k) % 26) 0]⟩ ++ t
theorem fact3 : ∀ b,b < 26 → ∀ t ∈ tails,((List.range 8).map (f3 b t)).Nodup ∧ ∀ z ∈ (List.range 8).map (f3 b t),nameB z = true ∧ z ≠ "zzzzzzzz" := by decide +kernel
theorem fact1o : ∀ m,m < 9 → oddW ((List.range m).map f1) := by decide +kernel
theorem fact2o : ∀ b,b < 26 → oddW ((List.range 8).map (f2 b)) := by decide +kernel
theorem fact3o : ∀ b,b < 26 → ∀ t ∈ tails,oddW ((List.range 8).map (f3 b t)) := by decide +kernel
theorem odd8 {f : Nat → Str} {m : Nat} (hm : m ≤ 8) (h : oddW ((List.range 8).map f)) : oddW ((List.range m).map f) := by
 have s : ((List.range m).map f).Sublist ((List.range 8).map f) := (List.range_sublist.mpr hm).map f
 exact fun z hz => ⟨(h z (s.subset hz)).1,fun y hy => (h z (s.subset hz)).2 y (s.subset hy)⟩
theorem part8 {f : Nat → Str} {m : Nat} (hm : m ≤ 8) (h : ((List.range 8).map f).Nodup ∧ ∀ z ∈ (List.range 8).map f,nameB z = true ∧ z ≠ "zzzzzzzz") : ((List.range m).map f).Nodup ∧ ∀ z ∈ (List.range m).map f,nameB z = true ∧ z ≠ "zzzzzzzz" := by
 have s : ((List.range m).map f).Sublist ((List.range 8).map f) := (List.range_sublist.mpr hm).map f
 exact ⟨s.nodup h.1,fun z hz => h.2 z (s.subset hz)⟩
inductive I_sp_law_names (K : PySem.W.Frag)   (vs : List V) (H : Hp) (Q : VK) : Prop
 | mk (r : Addr) (c : Int) (m : Nat) : (vs = [.ref r,.int m]) → (H r = some (.lst [.int c])) → (m ≤ 8) → (∀ p ss c' H',But r H H' → H p = none → H' r = some (.lst [.int c']) → H' p = some (.lst (ss.map V.str)) → Nam m ss → Q (.ref p) H') → I_sp_law_names K vs H Q
noncomputable def sp_law_names (K : PySem.W.Frag) (_ : Ads)  : Sp := fun vs H Q _ => I_sp_law_names K vs H Q
theorem getD_at {α : Type} {l : List α} {n : Nat} {e : α} (h : n < l.length) : l.getD n e = l[n] := by simp [List.getD,h]
theorem at_getD {α : Type} (f : α → V) (ws : List α) (d : Int) (e : α) (h0 : 0 ≤ d) (h1 : d < (ws.length : Int)) : atI (ws.map f) d = some (f (ws.getD d.toNat e)) := by
 have hk : d.toNat < ws.length := by lia
 have ek : ((d.toNat : Nat) : Int) = d := by lia
 have e' : atI (ws.map f) ((d.toNat : Nat) : Int) = some (f ws[d.toNat]) := atI_nat (by simp [hk])
 rw [ek] at e'
 rw [e',getD_at hk]
theorem range_next (f : Nat → Str) (i : Nat) : ((List.range i).map f).map V.str ++ [V.str (f i)] = ((List.range (i + 1)).map f).map V.str := by simp [List.range_succ]
theorem range_few (f : Nat → Str) {i : Nat} (h : i ≤ 8) : (((List.range i).map f).map V.str).length < sizeLine := by rw [List.length_map,List.length_map,List.length_range]; exact small1000 (by lia)
theorem but_upd {r l : Addr} {o : HO} {H H' : Hp} (b : But r H H') (hl : H l = none) : But r H (upd H' l o) := fun x u n e => by rw [upd_ne (ne_of_none e hl)]; exact b x u n e
theorem f2_at {b k : Nat} : atI (words8.map V.str) (((b : Int) + (0 + (k : Int))) % 8) = some (.str (f2 b k)) := by
 obtain ⟨h0,h1⟩ := mod_lt ((b : Int) + (0 + (k : Int))) (m := 8) (by decide)
 rw [at_getD V.str words8 _ "" h0 h1,show (((b : Int) + (0 + (k : Int))) % 8).toNat = (b + k) % 8 by lia]
 rfl
theorem f3_at {b k : Nat} : atI letters.cps.toList (((b : Int) + 7 * (0 + (k : Int))) % 26) = some (letters.cps.toList.getD ((b + 7 * k) % 26) 0) := by
 obtain ⟨h0,h1⟩ := mod_lt ((b : Int) + 7 * (0 + (k : Int))) (m := 26) (by decide)
 have hk : (b + 7 * k) % 26 < letters.cps.toList.length := by
  rw [show letters.cps.toList.length = 26 by decide +kernel]
  lia
 have ek : (((b + 7 * k) % 26 : Nat) : Int) = ((b : Int) + 7 * (0 + (k : Int))) % 26 := by lia
 have e' : atI letters.cps.toList ((((b + 7 * k) % 26 : Nat)) : Int) = some letters.cps.toList[(b + 7 * k) % 26] := atI_nat (by simp [hk])
 rw [ek] at e'
 rw [e',getD_at hk]
theorem ok_law_names (T : Tx K mg ad) {f : Addr} {fd : FuncData} (F : Gn K mg "_law_names" s_law_names ["row","many"] f fd) : FnOk P w K mg base CX0 2 f fd ["row","many"] (sp_law_names K ad) := by
 obtain ⟨f_law_digit,fd_law_digit,D_law_digit⟩ := T.law_digit
 have G_law_digit := ok_law_digit (P := P) (w := w) (base := base) T D_law_digit
 refine F.F.ok sc_law_names (fun vs H Q E h => ?_) (fun cdv A outer s H vs Q E hr h => ?_)
 ·obtain ⟨r,c,m,rfl,_⟩ := h
  rfl
 obtain ⟨r,c,m,rfl,hr0,hm,q⟩ := h
 refine ⟨_,(@pss_cons _ _ _ _ _ (@ps_set _ _ 2 _ _ _ _ sc_law_names.nd rfl (Or.inr rfl) (pe_call G_law_digit (hr.mono (by first | decide | lia)) rfl D_law_digit.m D_law_digit.F.kp D_law_digit.b .nil pass0 (@pa_cons _ _ _ _ _ (pv 0) (@pa_cons _ _ _ _ _ pe_int pa_nil (by rfl)) (by rfl))) (by rfl) (by first | exact .inl rfl | exact .inr rfl | assumption)) (@pss_cons _ _ _ _ _ (@ps_set _ _ 3 _ _ _ _ sc_law_names.nd rfl (Or.inr rfl) (@pe_ix _ _ _ _ _ _ _ (ix_listK (K := K) rfl) (@pe_lst _ _ _ _ (@pa_cons _ _ _ _ _ pe_str (@pa_cons _ _ _ _ _ pe_str (@pa_cons _ _ _ _ _ pe_str (@pa_cons _ _ _ _ _ pe_str pa_nil (by rfl)) (by rfl)) (by rfl)) (by rfl))) (pe_call G_law_digit (hr.mono (by first | decide | lia)) rfl D_law_digit.m D_law_digit.F.kp D_law_digit.b .nil pass0 (@pa_cons _ _ _ _ _ (pv 0) (@pa_cons _ _ _ _ _ pe_int pa_nil (by rfl)) (by rfl))) (fun _ _ => rfl)) (by rfl) (by first | exact .inl rfl | exact .inr rfl | assumption)) (@pss_cons _ _ _ _ _ (@ps_set _ _ 4 _ _ _ _ sc_law_names.nd rfl (Or.inl rfl) (pe_call G_law_digit (hr.mono (by first | decide | lia)) rfl D_law_digit.m D_law_digit.F.kp D_law_digit.b .nil pass0 (@pa_cons _ _ _ _ _ (pv 0) (@pa_cons _ _ _ _ _ pe_int pa_nil (by rfl)) (by rfl))) (by rfl) (by first | exact .inl rfl | exact .inr rfl | assumption)) (@pss_cons _ _ _ _ _ (@ps_if _ _ _ _ _ _ _ _ (pt_cmpR op_eq (pv 4) pe_int (nomark _)) (@pss_one _ _ _ (@ps_ret _ _ _ _ (pe_comp rfl (cs0 (NL := ["k"]) rfl (by decide +kernel) (by decide +kernel)) (pi_range1 rfl T.z_range (@pa_cons _ _ _ _ _ (pv 1) pa_nil (by rfl))) (fun _ _ _ _ => (pg_name (i := 0) (show List.Nodup (α := Str) ["k"] by decide +kernel) rfl (Or.inl rfl))) (fun _ _ _ _ => (pe_slice sl_str pe_str po_none (po_some (@pe_op _ _ _ _ _ _ _ _ op_add (pv 0) pe_int))))))) pss_nil) (@pss_cons _ _ _ _ _ (@ps_if _ _ _ _ _ _ _ _ (pt_cmpR op_eq (pv 4) pe_int (nomark _)) (@pss_cons _ _ _ _ _ (@ps_set _ _ 5 _ _ _ _ sc_law_names.nd rfl (Or.inr rfl) (@pe_lst _ _ _ _ (@pa_cons _ _ _ _ _ pe_str (@pa_cons _ _ _ _ _ pe_str (@pa_cons _ _ _ _ _ pe_str (@pa_cons _ _ _ _ _ pe_str (@pa_cons _ _ _ _ _ pe_str (@pa_cons _ _ _ _ _ pe_str (@pa_cons _ _ _ _ _ pe_str (@pa_cons _ _ _ _ _ pe_str pa_nil (by rfl)) (by rfl)) (by rfl)) (by rfl)) (by rfl)) (by rfl)) (by rfl)) (by rfl))) (by rfl) (by first | exact .inl rfl | exact .inr rfl | assumption)) (@pss_one _ _ _ (@ps_ret _ _ _ _ (pe_callB (call_sortSN (K := K) rfl) rfl T.z_sorted boot_sorted (@pa_cons _ _ _ _ _ (pe_comp rfl (csR (sc := defScope s_law_names) (NL := ["k"]) (N := ["row","many","base","tail","way","words"]) (ρ := [2,5]) (N' := ["k","base","words"]) rfl rfl rfl (by decide +kernel) (by decide +kernel) (by decide +kernel) rfl (by decide +kernel)) (pi_range1 rfl T.z_range (@pa_cons _ _ _ _ _ (pv 1) pa_nil (by rfl))) (fun _ _ _ _ => (pg_name (i := 0) (show List.Nodup (α := Str) ["k","base","words"] by decide +kernel) rfl (Or.inl rfl))) (fun _ _ _ _ => (@pe_ix _ _ _ _ _ _ _ (ix_listK (K := K) rfl) (pv 2) (@pe_op _ _ _ _ _ _ _ _ op_mod (@pe_op _ _ _ _ _ _ _ _ op_add (pv 1) (pv 0)) pe_int) (fun _ _ => rfl)))) pa_nil (by rfl)))))) pss_nil) (@pss_one _ _ _ (@ps_ret _ _ _ _ (pe_callB (call_sortSN (K := K) rfl) rfl T.z_sorted boot_sorted (@pa_cons _ _ _ _ _ (pe_comp rfl (csR (sc := defScope s_law_names) (NL := ["k"]) (N := ["row","many","base","tail","way","words"]) (ρ := [2,3]) (N' := ["k","base","tail"]) rfl rfl rfl (by decide +kernel) (by decide +kernel) (by decide +kernel) rfl (by decide +kernel)) (pi_range1 rfl T.z_range (@pa_cons _ _ _ _ _ (pv 1) pa_nil (by rfl))) (fun _ _ _ _ => (pg_name (i := 0) (show List.Nodup (α := Str) ["k","base","tail"] by decide +kernel) rfl (Or.inl rfl))) (fun _ _ _ _ => (@pe_op _ _ _ _ _ _ _ _ op_add_str (@pe_ix _ _ _ _ _ _ _ ix_str pe_str (@pe_op _ _ _ _ _ _ _ _ op_mod (@pe_op _ _ _ _ _ _ _ _ op_add (pv 1) (@pe_op _ _ _ _ _ _ _ _ op_mul pe_int (pv 0))) pe_int) (fun _ _ => rfl)) (pv 2)))) pa_nil (by rfl)))))))))),?_⟩
 refine ⟨_,rfl,r,c,26,rfl,hr0,by decide,by decide,?_⟩
 obtain ⟨b0,b1⟩ := mod_lt c (m := 26) (by decide)
 obtain ⟨b,hb⟩ : ∃ b : Nat,((b : Nat) : Int) = c % 26 := ⟨(c % 26).toNat,by lia⟩
 have b26 : b < 26 := by lia
 rw [← hb]
 refine ⟨(by show 4 ≤ sizeLine; decide),fun pl hpl => ?_⟩
 have hrp : r ≠ pl := fun e => by rw [← e,upd_same] at hpl; cases hpl
 have hplH : H pl = none := by rw [upd_ne hrp.symm] at hpl; exact hpl
 refine ⟨_,rfl,r,c / 26,4,rfl,by rw [upd_ne hrp]; exact upd_same,by decide,by decide,?_⟩
 obtain ⟨t0,t1⟩ := mod_lt (c / 26) (m := 4) (by decide)
 refine ⟨pl,_,_,_,rfl,rfl,SqL.of (by rw [upd_ne hrp.symm]; exact upd_same),at_getD V.str tails _ "" t0 t1,?_⟩
 have ht : tails.getD (c / 26 % 4).toNat "" ∈ tails := by
  rw [getD_at (show (c / 26 % 4).toNat < tails.length by show _ < 4; lia)]
  exact List.getElem_mem _
 generalize tails.getD (c / 26 % 4).toNat "" = t at ht
 refine ⟨_,rfl,r,c / 26 / 4,5,rfl,upd_same,by decide,by decide,?_⟩
 have B1 := (((But.put (H := H) (r := r) (o := .lst [.int (c / 26)])).trans (But.same (same_new hpl (.lst [.str "",.str "a",.str "zz",.str "eachone"])))).trans (But.put (o := .lst [.int (c / 26 / 4)]))).trans (But.put (o := .lst [.int (c / 26 / 4 / 5)]))
 have r1 : (upd (upd (upd (upd H r (.lst [.int (c / 26)])) pl (.lst [.str "",.str "a",.str "zz",.str "eachone"])) r (.lst [.int (c / 26 / 4)])) r (.lst [.int (c / 26 / 4 / 5)])) r = some (.lst [.int (c / 26 / 4 / 5)]) := upd_same
 have mN : ((m : Nat) : Int).toNat = m := Int.toNat_natCast m
 have free : ∀ {l : Addr} {Hx : Hp},But r H Hx → r ≠ l → Hx l = none → H l = none := fun {l Hx} B n e => by
  cases e' : H l with
  | none => rfl
  | some o => rw [B l o n.symm e'] at e; cases e
 refine ⟨_,rfl,rfl,_,rfl,ite2 (fun c1 => ?_) (fun c1 => ?_)⟩
 ·refine ⟨_,rfl,(m : Int),rfl,by lia,by lia,fun l hln => ?_⟩
  rw [mN]
  have lr : r ≠ l := ne_of_none r1 hln
  have lH : H l = none := free B1 lr hln
  refine comp_rangeR (fun i ys σ H' => i ≤ 8 ∧ ys = ((List.range i).map f1).map V.str ∧ But r H H' ∧ H' r = some (.lst [.int (c / 26 / 4 / 5)]) ∧ H' l = some (.lst ys) ∧ σ.length = 1) ⟨Nat.zero_le _,rfl,B1.trans (But.same (same_new hln _)),(by rw [upd_ne lr]; exact r1),upd_same,rfl⟩ ?_ ?_
  ·rintro i ys σ H' N hi ⟨h8,rfl,B2,r2,l2,hσ⟩ next
   match σ,hσ with
   | [_],_ =>
    exact ⟨_,rfl,_,_,rfl,rfl,_,rfl,_,rfl,(by decide),l2,range_few f1 (by lia),next _ _ _ ⟨by lia,range_next f1 i,but_upd B2 lH,(by rw [upd_ne lr]; exact r2),upd_same,rfl⟩⟩
  ·intro ys σ H' hI9
   refine goal_name fun gg hgg => ?_
   obtain ⟨h8,rfl,B2,r2,l2,hσ⟩ := hI9
   refine hgg ?_
   clear hgg gg
   obtain ⟨u1,u2⟩ := fact1 m (by lia)
   exact q l _ _ _ B2 lH r2 l2 ⟨by rw [List.length_map,List.length_range],u1,u2,fact1o m (by lia)⟩
 refine ⟨_,rfl,rfl,_,rfl,ite2 (fun c2 => ?_) (fun c2 => ?_)⟩
 ·refine ⟨(by show 8 ≤ sizeLine; decide),fun pw hpw => ?_⟩
  have wr : r ≠ pw := ne_of_none r1 hpw
  have wH : H pw = none := free B1 wr hpw
  refine ⟨_,rfl,(m : Int),rfl,by lia,by lia,fun l hln => ?_⟩
  rw [mN]
  have r2 := (same_new hpw (.lst (words8.map V.str))) _ _ r1
  have lr : r ≠ l := ne_of_none r2 hln
  have lw : pw ≠ l := ne_of_none (upd_same (o := .lst (words8.map V.str))) hln
  have lH : H l = none := free (B1.trans (But.same (same_new hpw _))) lr hln
  refine comp_rangeR (fun i ys σ H' => i ≤ 8 ∧ ys = ((List.range i).map (f2 b)).map V.str ∧ But r H H' ∧ H' r = some (.lst [.int (c / 26 / 4 / 5)]) ∧ H' l = some (.lst ys) ∧ H' pw = some (.lst (words8.map V.str)) ∧ ∃ v,σ = [v,some (.int b),some (.ref pw)]) ⟨Nat.zero_le _,rfl,(B1.trans (But.same (same_new hpw _))).trans (But.same (same_new hln _)),(by rw [upd_ne lr]; exact r2),upd_same,(by rw [upd_ne lw]; exact upd_same),_,rfl⟩ ?_ ?_
  ·rintro i ys σ H' N hi ⟨h8,rfl,B2,r2,l2,w2,v,rfl⟩ next
   exact ⟨_,rfl,_,rfl,_,rfl,_,_,rfl,rfl,_,_,rfl,rfl,(show (0 : Int) < 8 by decide),pw,_,_,_,rfl,rfl,SqL.of w2,f2_at,l2,range_few (f2 b) (by lia),next _ _ _ ⟨by lia,range_next (f2 b) i,but_upd B2 lH,(by rw [upd_ne lr]; exact r2),upd_same,(by rw [upd_ne lw]; exact w2),_,rfl⟩⟩
  ·intro ys σ H' hI9
   refine goal_name fun gg hgg => ?_
   obtain ⟨h8,rfl,B2,r2,l2,w2,v,rfl⟩ := hI9
   refine hgg ?_
   clear hgg gg
   obtain ⟨u1,u2⟩ := part8 hm (fact2 b b26)
   refine ⟨l,_,rfl,SqL.of l2,by rw [List.length_map,List.length_range]; lia,fun a ss' ha hp hs => ?_⟩
   have ar : r ≠ a := ne_of_none r2 ha
   have n := nam_sorted hp hs u1 u2 (odd8 hm (fact2o b b26))
   rw [List.length_map,List.length_range] at n
   exact q a ss' _ _ (B2.trans (But.same (same_new ha _))) (free B2 ar ha) (by rw [upd_ne ar]; exact r2) upd_same n
 ·refine ⟨_,rfl,(m : Int),rfl,by lia,by lia,fun l hln => ?_⟩
  rw [mN]
  have lr : r ≠ l := ne_of_none r1 hln
  have lH : H l = none := free B1 lr hln
  refine comp_rangeR (fun i ys σ H' => i ≤ 8 ∧ ys = ((List.range i).map (f3 b t)).map V.str ∧ But r H H' ∧ H' r = some (.lst [.int (c / 26 / 4 / 5)]) ∧ H' l = some (.lst ys) ∧ ∃ v,σ = [v,some (.int b),some (.str t)]) ⟨Nat.zero_le _,rfl,B1.trans (But.same (same_new hln _)),(by rw [upd_ne lr]; exact r1),upd_same,_,rfl⟩ ?_ ?_
  ·rintro i ys σ H' N hi ⟨h8,rfl,B2,r2,l2,v,rfl⟩ next
   have tl : t.length ≤ 10 := (show ∀ t ∈ tails,t.length ≤ 10 by decide +kernel) t ht
   exact ⟨_,rfl,_,rfl,_,_,rfl,rfl,.inl ⟨by decide,by decide⟩,_,_,rfl,rfl,_,_,rfl,rfl,(show (0 : Int) < 26 by decide),_,_,_,rfl,rfl,(by decide),f3_at,_,rfl,_,_,rfl,rfl,small (by show 1 + t.length ≤ 1000; lia),l2,range_few (f3 b t) (by lia),next _ _ _ ⟨by lia,range_next (f3 b t) i,but_upd B2 lH,(by rw [upd_ne lr]; exact r2),upd_same,_,rfl⟩⟩
  ·intro ys σ H' hI9
   refine goal_name fun gg hgg => ?_
   obtain ⟨h8,rfl,B2,r2,l2,v,rfl⟩ := hI9
   refine hgg ?_
   clear hgg gg
   obtain ⟨u1,u2⟩ := part8 hm (fact3 b b26 t ht)
   refine ⟨l,_,rfl,SqL.of l2,by rw [List.length_map,List.length_range]; lia,fun a ss' ha hp hs => ?_⟩
   have ar : r ≠ a := ne_of_none r2 ha
   have n := nam_sorted hp hs u1 u2 (odd8 hm (fact3o b b26 t ht))
   rw [List.length_map,List.length_range] at n
   exact q a ss' _ _ (B2.trans (But.same (same_new ha _))) (free B2 ar ha) (by rw [upd_ne ar]; exact r2) upd_same n
noncomputable def GenN (K : PySem.W.Frag) (r : Addr) (H : Hp) (Q : VK) : Prop := ∀ v (i j n' : Int) H',But r H H' → H' r = some (.lst [.int n']) → IsP K H' (.tup [.str "number",.int i,.int j]) v → FK 1 1 (.tup [.str "number",.int i,.int j]) → Q v H'
inductive I_sp_law_number_kind (K : PySem.W.Frag)   (vs : List V) (H : Hp) (Q : VK) : Prop
 | mk (r : Addr) (c : Int) : (vs = [.ref r]) → (H r = some (.lst [.int c])) → (GenN K r H Q) → I_sp_law_number_kind K vs H Q
noncomputable def sp_law_number_kind (K : PySem.W.Frag) (_ : Ads)  : Sp := fun vs H Q _ => I_sp_law_number_kind K vs H Q
theorem p30 : (10 : Int) ^ (30 : Int).toNat = 1000000000000000000000000000000 := by decide +kernel
theorem p29 : (10 : Int) ^ (29 : Int).toNat = 100000000000000000000000000000 := by decide +kernel
theorem pickM {ns : List Int} {d : Int} (h0 : 0 ≤ d) (h1 : d < (ns.length : Int)) : ∃ i : Int,i ∈ ns ∧ atI (ns.map V.int) d = some (.int i) := by
 obtain ⟨v,hv,e⟩ := pick (xs := ns.map V.int) h0 (by rw [List.length_map]; exact h1)
 obtain ⟨i,hi,rfl⟩ := List.mem_map.mp hv
 exact ⟨i,hi,e⟩
theorem pick2 (a b : Int) (k : Bool) : ∃ i : Int,(i = a ∨ i = b) ∧ atI [V.int a,V.int b] (if k = true then 1 else 0) = some (.int i) := by
 cases k with
 | true => exact ⟨b,.inr rfl,rfl⟩
 | false => exact ⟨a,.inl rfl,rfl⟩
theorem ok_law_number_kind (T : Tx K mg ad) {f : Addr} {fd : FuncData} (F : Gn K mg "_law_number_kind" s_law_number_kind ["row"] f fd) : FnOk P w K mg base CX0 2 f fd ["row"] (sp_law_number_kind K ad) := by
 obtain ⟨f_law_digit,fd_law_digit,D_law_digit⟩ := T.law_digit
 have G_law_digit := ok_law_digit (P := P) (w := w) (base := base) T D_law_digit
 refine F.F.ok sc_law_number_kind (fun vs H Q E h => ?_) (fun cdv A outer s H vs Q E hr h => ?_)
 ·obtain ⟨r,c,rfl,_⟩ := h
  rfl
 obtain ⟨r,c,rfl,hr0,q⟩ := h
 refine ⟨_,(@pss_cons _ _ _ _ _ (@ps_set _ _ 1 _ _ _ _ sc_law_number_kind.nd rfl (Or.inl rfl) (@pe_ix _ _ _ _ _ _ _ (ix_listK (K := K) rfl) (@pe_lst _ _ _ _ (@pa_cons _ _ _ _ _ (@pe_op _ _ _ _ _ _ _ _ op_sub (pe_call G_law_digit (hr.mono (by first | decide | lia)) rfl D_law_digit.m D_law_digit.F.kp D_law_digit.b .nil pass0 (@pa_cons _ _ _ _ _ (pv 0) (@pa_cons _ _ _ _ _ pe_int pa_nil (by rfl)) (by rfl))) pe_int) (@pa_cons _ _ _ _ _ (@pe_op _ _ _ _ _ _ _ _ op_sub (pe_call G_law_digit (hr.mono (by first | decide | lia)) rfl D_law_digit.m D_law_digit.F.kp D_law_digit.b .nil pass0 (@pa_cons _ _ _ _ _ (pv 0) (@pa_cons _ _ _ _ _ (@pe_op _ _ _ _ _ _ _ _ op_add (@pe_op _ _ _ _ _ _ _ _ op_mulB pe_int (@pe_op _ _ _ _ _ _ _ _ op_pow pe_int pe_int)) pe_int) pa_nil (by rfl)) (by rfl))) (@pe_op _ _ _ _ _ _ _ _ op_pow pe_int pe_int)) pa_nil (by rfl)) (by rfl))) (pe_callTy call_int1 rfl T.z_int boot_int (@pa_cons _ _ _ _ _ (pe_cmpR op_eq (pe_call G_law_digit (hr.mono (by first | decide | lia)) rfl D_law_digit.m D_law_digit.F.kp D_law_digit.b .nil pass0 (@pa_cons _ _ _ _ _ (pv 0) (@pa_cons _ _ _ _ _ pe_int pa_nil (by rfl)) (by rfl))) pe_int (nomark _)) pa_nil (by rfl))) (fun _ _ => rfl)) (by rfl) (by first | exact .inl rfl | exact .inr rfl | assumption)) (@pss_cons _ _ _ _ _ (@ps_set _ _ 2 _ _ _ _ sc_law_number_kind.nd rfl (Or.inl rfl) (pe_callB (call_min2 rfl) rfl T.z_min boot_min (@pa_cons _ _ _ _ _ (@pe_op _ _ _ _ _ _ _ _ op_pow pe_int pe_int) (@pa_cons _ _ _ _ _ (@pe_op _ _ _ _ _ _ _ _ op_add (pv 1) (@pe_ix _ _ _ _ _ _ _ (ix_listK (K := K) rfl) (@pe_lst _ _ _ _ (@pa_cons _ _ _ _ _ (pe_call G_law_digit (hr.mono (by first | decide | lia)) rfl D_law_digit.m D_law_digit.F.kp D_law_digit.b .nil pass0 (@pa_cons _ _ _ _ _ (pv 0) (@pa_cons _ _ _ _ _ pe_int pa_nil (by rfl)) (by rfl))) (@pa_cons _ _ _ _ _ (@pe_op _ _ _ _ _ _ _ _ op_pow pe_int pe_int) (@pa_cons _ _ _ _ _ (pe_call G_law_digit (hr.mono (by first | decide | lia)) rfl D_law_digit.m D_law_digit.F.kp D_law_digit.b .nil pass0 (@pa_cons _ _ _ _ _ (pv 0) (@pa_cons _ _ _ _ _ pe_int pa_nil (by rfl)) (by rfl))) pa_nil (by rfl)) (by rfl)) (by rfl))) (pe_call G_law_digit (hr.mono (by first | decide | lia)) rfl D_law_digit.m D_law_digit.F.kp D_law_digit.b .nil pass0 (@pa_cons _ _ _ _ _ (pv 0) (@pa_cons _ _ _ _ _ pe_int pa_nil (by rfl)) (by rfl))) (fun _ _ => rfl))) pa_nil (by rfl)) (by rfl))) (by rfl) (by first | exact .inl rfl | exact .inr rfl | assumption)) (@pss_one _ _ _ (@ps_ret _ _ _ _ (@pe_tupPK _ K _ _ _ _ rfl (@pa_cons _ _ _ _ _ pe_str (@pa_cons _ _ _ _ _ (pv 1) (@pa_cons _ _ _ _ _ (pv 2) pa_nil (by rfl)) (by rfl)) (by rfl))))))),?_⟩
 refine ⟨_,rfl,r,c,12,rfl,hr0,by decide,by decide,_,_,rfl,rfl,?_⟩
 obtain ⟨a0,a1⟩ := mod_lt c (m := 12) (by decide)
 refine ⟨_,rfl,_,_,rfl,rfl,⟨by decide,by decide,by decide⟩,?_⟩
 have m30 : (0 : Int) < 2 * 10 ^ (30 : Int).toNat + 1 := by rw [p30]; decide
 refine ⟨_,_,rfl,rfl,mulOk_of_bits (m := 2) (n := 100) (by decide +kernel) (by decide +kernel) (by decide),_,_,rfl,rfl,r,c / 12,2 * 10 ^ (30 : Int).toNat + 1,rfl,upd_same,m30,by rw [p30]; decide,?_⟩
 obtain ⟨d0,d1⟩ := mod_lt (c / 12) m30
 refine ⟨_,_,rfl,rfl,⟨by decide,by decide,by decide⟩,_,_,rfl,rfl,(by show 2 ≤ sizeLine; decide),fun p hp => ?_⟩
 have hrp : r ≠ p := fun e => by rw [← e,upd_same] at hp; cases hp
 refine goal_name fun gg hgg => ?_
 obtain ⟨low,hlow,elow⟩ := pick2 (c % 12 - 6) (c / 12 % (2 * 10 ^ (30 : Int).toNat + 1) - 10 ^ (30 : Int).toNat) (decide (V.int (c / 12 / (2 * 10 ^ (30 : Int).toNat + 1) % 4) = V.int 1))
 refine hgg ?_
 clear hgg gg
 have l0 : -1000000000000000000000000000000 ≤ low := by
  rw [p30] at hlow d0 d1
  rcases hlow with h | h <;> lia
 have l1 : low ≤ 1000000000000000000000000000000 := by
  rw [p30] at hlow d0 d1
  rcases hlow with h | h <;> lia
 refine ⟨_,rfl,r,c / 12 / (2 * 10 ^ (30 : Int).toNat + 1),4,rfl,(by rw [upd_ne hrp]; exact upd_same),by decide,by decide,rfl,.inr ⟨_,rfl,p,_,_,_,rfl,rfl,SqL.of (by rw [upd_ne hrp.symm]; exact upd_same),elow,?_⟩⟩
 have B1 := (((But.put (H := H) (r := r) (o := .lst [.int (c / 12)])).trans (But.put (o := .lst [.int (c / 12 / (2 * 10 ^ (30 : Int).toNat + 1))]))).trans (But.same (same_new hp (.lst [.int (c % 12 - 6),.int (c / 12 % (2 * 10 ^ (30 : Int).toNat + 1) - 10 ^ (30 : Int).toNat)])))).trans (But.put (o := .lst [.int (c / 12 / (2 * 10 ^ (30 : Int).toNat + 1) / 4)]))
 generalize hc2 : c / 12 / (2 * 10 ^ (30 : Int).toNat + 1) / 4 = c2 at B1
 refine ⟨_,_,rfl,rfl,⟨by decide,by decide,by decide⟩,_,rfl,_,rfl,r,c2,9,rfl,hc2 ▸ upd_same,by decide,by decide,_,_,rfl,rfl,⟨by decide,by decide,by decide⟩,_,rfl,r,c2 / 9,2,rfl,upd_same,by decide,by decide,(by show 3 ≤ sizeLine; decide),fun p2 hp2 => ?_⟩
 have hrp2 : r ≠ p2 := fun e => by rw [← e,upd_same] at hp2; cases hp2
 obtain ⟨e0,e1⟩ := mod_lt (c2 / 9 / 2) (m := 3) (by decide)
 refine goal_name fun gg hgg => ?_
 obtain ⟨x,hx,ex⟩ := pickM (ns := [c2 % 9,10 ^ (29 : Int).toNat,c2 / 9 % 2]) e0 e1
 refine hgg ?_
 clear hgg gg
 have x0 : 0 ≤ x := by
  have h1 := (mod_lt c2 (m := 9) (by decide)).1
  have h2 := (mod_lt (c2 / 9) (m := 2) (by decide)).1
  simp only [p29,List.mem_cons,List.not_mem_nil,or_false] at hx
  lia
 refine ⟨_,rfl,r,c2 / 9 / 2,3,rfl,(by rw [upd_ne hrp2]; exact upd_same),by decide,by decide,p2,_,_,_,rfl,rfl,SqL.of (by rw [upd_ne hrp2.symm]; exact upd_same),ex,_,_,rfl,rfl,_,_,rfl,?_⟩
 refine ⟨_,rfl,_,rfl,[.str "number",.int low,.int _],.cons .str (.cons .int (.cons .int .nil)),(by show 3 ≤ sizeLine; decide),fun v H4 g4 hv => ?_⟩
 refine q v low _ (c2 / 9 / 2 / 3) H4 ?_ (g4 _ _ upd_same) hv (.number _ _ l0 ?_ ?_)
 ·exact ((((B1.trans But.put).trans But.put).trans (But.same (same_new hp2 _))).trans But.put).trans (But.same g4)
 ·rw [p30]
  split <;> lia
 ·rw [p30]
  split <;> lia
noncomputable def GenL (K : PySem.W.Frag) (r : Addr) (H : Hp) (Q : VK) : Prop := ∀ v d (n' : Int) H',But r H H' → H' r = some (.lst [.int n']) → IsP K H' d v → FK 1 1 d → Q v H'
inductive I_sp_law_leaf_kind (K : PySem.W.Frag)   (vs : List V) (H : Hp) (Q : VK) : Prop
 | mk (r : Addr) (c : Int) : (vs = [.ref r]) → (H r = some (.lst [.int c])) → (GenL K r H Q) → I_sp_law_leaf_kind K vs H Q
noncomputable def sp_law_leaf_kind (K : PySem.W.Frag) (_ : Ads)  : Sp := fun vs H Q _ => I_sp_law_leaf_kind K vs H Q
theorem Nam.words {m : Nat} {ss : List Str} (h : Nam m ss) (h1 : 1 ≤ m) (h8 : m ≤ 8) : wordsB ss = true ∧ wordsB ss.reverse = true := by
 have l := h.len
 have nd := lt_nodup h.asc
 have al : ss.all nameB = true := List.all_eq_true.mpr fun z hz => (h.ok z hz).1
 constructor
 ·simp only [wordsB,Bool.and_eq_true,decide_eq_true_eq]
  exact ⟨⟨⟨by lia,by lia⟩,al⟩,nd⟩
 ·simp only [wordsB,Bool.and_eq_true,decide_eq_true_eq,List.length_reverse,List.all_reverse]
  exact ⟨⟨⟨by lia,by lia⟩,al⟩,List.pairwise_reverse.mpr (nd.imp fun n e => n e.symm)⟩
theorem strs_is {K : PySem.W.Frag} {H : Hp} : ∀ ss : List Str,IsPs K H (ss.map Dt.str) (ss.map V.str)
 | [] => .nil
 | z :: ss => .cons .str (strs_is ss)
theorem ok_law_leaf_kind (T : Tx K mg ad) {f : Addr} {fd : FuncData} (F : Gn K mg "_law_leaf_kind" s_law_leaf_kind ["row"] f fd) : FnOk P w K mg base CX0 3 f fd ["row"] (sp_law_leaf_kind K ad) := by
 obtain ⟨f_law_digit,fd_law_digit,D_law_digit⟩ := T.law_digit
 have G_law_digit := ok_law_digit (P := P) (w := w) (base := base) T D_law_digit
 obtain ⟨f_law_number_kind,fd_law_number_kind,D_law_number_kind⟩ := T.law_number_kind
 have G_law_number_kind := ok_law_number_kind (P := P) (w := w) (base := base) T D_law_number_kind
 obtain ⟨f_law_names,fd_law_names,D_law_names⟩ := T.law_names
 have G_law_names := ok_law_names (P := P) (w := w) (base := base) T D_law_names
 refine F.F.ok sc_law_leaf_kind (fun vs H Q E h => ?_) (fun cdv A outer s H vs Q E hr h => ?_)
 ·obtain ⟨r,c,rfl,_⟩ := h
  rfl
 obtain ⟨r,c,rfl,hr0,q⟩ := h
 refine ⟨_,(@pss_cons _ _ _ _ _ (@ps_set _ _ 1 _ _ _ _ sc_law_leaf_kind.nd rfl (Or.inl rfl) (pe_call G_law_digit (hr.mono (by first | decide | lia)) rfl D_law_digit.m D_law_digit.F.kp D_law_digit.b .nil pass0 (@pa_cons _ _ _ _ _ (pv 0) (@pa_cons _ _ _ _ _ pe_int pa_nil (by rfl)) (by rfl))) (by rfl) (by first | exact .inl rfl | exact .inr rfl | assumption)) (@pss_cons _ _ _ _ _ (@ps_if _ _ _ _ _ _ _ _ (pt_cmpR op_eq (pv 1) pe_int (nomark _)) (@pss_one _ _ _ (@ps_ret _ _ _ _ (pe_call G_law_number_kind (hr.mono (by first | decide | lia)) rfl D_law_number_kind.m D_law_number_kind.F.kp D_law_number_kind.b .nil pass0 (@pa_cons _ _ _ _ _ (pv 0) pa_nil (by rfl))))) pss_nil) (@pss_cons _ _ _ _ _ (@ps_if _ _ _ _ _ _ _ _ (pt_cmpR op_eq (pv 1) pe_int (nomark _)) (@pss_one _ _ _ (@ps_ret _ _ _ _ (@pe_tupPK _ K _ _ _ _ rfl (@pa_cons _ _ _ _ _ pe_str (@pa_cons _ _ _ _ _ (@pe_ix _ _ _ _ _ _ _ (ix_listK (K := K) rfl) (@pe_lst _ _ _ _ (@pa_cons _ _ _ _ _ (pe_call G_law_digit (hr.mono (by first | decide | lia)) rfl D_law_digit.m D_law_digit.F.kp D_law_digit.b .nil pass0 (@pa_cons _ _ _ _ _ (pv 0) (@pa_cons _ _ _ _ _ pe_int pa_nil (by rfl)) (by rfl))) (@pa_cons _ _ _ _ _ (pe_call G_law_digit (hr.mono (by first | decide | lia)) rfl D_law_digit.m D_law_digit.F.kp D_law_digit.b .nil pass0 (@pa_cons _ _ _ _ _ (pv 0) (@pa_cons _ _ _ _ _ pe_int pa_nil (by rfl)) (by rfl))) pa_nil (by rfl)) (by rfl))) (pe_call G_law_digit (hr.mono (by first | decide | lia)) rfl D_law_digit.m D_law_digit.F.kp D_law_digit.b .nil pass0 (@pa_cons _ _ _ _ _ (pv 0) (@pa_cons _ _ _ _ _ pe_int pa_nil (by rfl)) (by rfl))) (fun _ _ => rfl)) pa_nil (by rfl)) (by rfl))))) pss_nil) (@pss_cons _ _ _ _ _ (@ps_set _ _ 2 _ _ _ _ sc_law_leaf_kind.nd rfl (Or.inl rfl) (pe_call G_law_names (hr.mono (by first | decide | lia)) rfl D_law_names.m D_law_names.F.kp D_law_names.b .nil pass0 (@pa_cons _ _ _ _ _ (pv 0) (@pa_cons _ _ _ _ _ (@pe_op _ _ _ _ _ _ _ _ op_add pe_int (pe_call G_law_digit (hr.mono (by first | decide | lia)) rfl D_law_digit.m D_law_digit.F.kp D_law_digit.b .nil pass0 (@pa_cons _ _ _ _ _ (pv 0) (@pa_cons _ _ _ _ _ pe_int pa_nil (by rfl)) (by rfl)))) pa_nil (by rfl)) (by rfl))) (by rfl) (by first | exact .inl rfl | exact .inr rfl | assumption)) (@pss_cons _ _ _ _ _ (@ps_if _ _ _ _ _ _ _ _ (pt_cmpR op_eq (pe_call G_law_digit (hr.mono (by first | decide | lia)) rfl D_law_digit.m D_law_digit.F.kp D_law_digit.b .nil pass0 (@pa_cons _ _ _ _ _ (pv 0) (@pa_cons _ _ _ _ _ pe_int pa_nil (by rfl)) (by rfl))) pe_int (nomark _)) (@pss_one _ _ _ (@ps_expr _ _ _ _ (pe_bm0 PySem.F.plainAttrs_list PySem.F.slot_list_reverse PySem.F.type_list_reverse mt_reverse (pv 2)) (by rfl))) pss_nil) (@pss_one _ _ _ (@ps_ret _ _ _ _ (@pe_tupPK _ K _ _ _ _ rfl (@pa_cons _ _ _ _ _ pe_str (@pa_cons _ _ _ _ _ (pe_callTy (call_tuplePN (K := K) rfl) rfl T.z_tuple boot_tuple (@pa_cons _ _ _ _ _ (pv 2) pa_nil (by rfl))) pa_nil (by rfl)) (by rfl)))))))))),?_⟩
 refine ⟨_,rfl,r,c,3,rfl,hr0,by decide,by decide,?_⟩
 have B1 := But.put (H := H) (r := r) (o := .lst [.int (c / 3)])
 refine ⟨_,rfl,rfl,_,rfl,ite2 (fun c1 => ?_) (fun c1 => ?_)⟩
 ·exact ⟨_,rfl,r,c / 3,rfl,upd_same,fun v i j n' H' b e hv fk => q v _ n' H' (B1.trans b) e hv fk⟩
 refine ⟨_,rfl,rfl,_,rfl,ite2 (fun c2 => ?_) (fun c2 => ?_)⟩
 ·refine ⟨_,rfl,r,c / 3,4,rfl,upd_same,by decide,by decide,_,rfl,r,c / 3 / 4,61,rfl,upd_same,by decide,by decide,(by show 2 ≤ sizeLine; decide),fun p hp => ?_⟩
  have hrp : r ≠ p := fun e => by rw [← e,upd_same] at hp; cases hp
  obtain ⟨e0,e1⟩ := mod_lt (c / 3 / 4 / 61) (m := 2) (by decide)
  refine goal_name fun gg hgg => ?_
  obtain ⟨x,hx,ex⟩ := pickM (ns := [c / 3 % 4,c / 3 / 4 % 61]) e0 e1
  refine hgg ?_
  clear hgg gg
  have xb : 0 ≤ x ∧ x ≤ 60 := by
   have h1 := mod_lt (c / 3) (m := 4) (by decide)
   have h2 := mod_lt (c / 3 / 4) (m := 61) (by decide)
   simp only [List.mem_cons,List.not_mem_nil,or_false] at hx
   lia
  refine ⟨_,rfl,r,c / 3 / 4 / 61,2,rfl,(by rw [upd_ne hrp]; exact upd_same),by decide,by decide,p,_,_,_,rfl,rfl,SqL.of (by rw [upd_ne hrp.symm]; exact upd_same),ex,?_⟩
  refine ⟨[.str "text",.int x],.cons .str (.cons .int .nil),(by show 2 ≤ sizeLine; decide),fun v H4 g4 hv => ?_⟩
  exact q v _ (c / 3 / 4 / 61 / 2) H4 (((((B1.trans But.put).trans But.put).trans (But.same (same_new hp _))).trans But.put).trans (But.same g4)) (g4 _ _ upd_same) hv (.text x xb.1 xb.2)
 ·obtain ⟨m0,m1⟩ := mod_lt (c / 3) (m := 8) (by decide)
  obtain ⟨m,hm⟩ : ∃ m : Nat,((m : Nat) : Int) = 1 + c / 3 % 8 := ⟨(1 + c / 3 % 8).toNat,by lia⟩
  refine ⟨_,rfl,_,rfl,r,c / 3,8,rfl,upd_same,by decide,by decide,_,_,rfl,rfl,?_⟩
  refine ⟨r,c / 3 / 8,m,(by show [V.ref r,V.int (1 + c / 3 % 8)] = _; rw [hm]),upd_same,by lia,fun p ss c' H2 b2 hp r2 p2 nam => ?_⟩
  have B2 := (B1.trans But.put).trans b2
  have hpH : H p = none := by
   cases e : H p with
   | none => rfl
   | some o =>
    have : r ≠ p := fun h => by rw [← h,upd_same] at hp; cases hp
    rw [upd_ne this.symm,upd_ne this.symm,e] at hp
    cases hp
  have hrp : r ≠ p := fun h => by rw [← h,hr0] at hpH; cases hpH
  obtain ⟨w1,w2⟩ := nam.words (by lia) (by lia)
  refine ⟨_,rfl,r,c',2,rfl,r2,by decide,by decide,rfl,_,rfl,ite2 (fun c3 => ?_) (fun c3 => ?_)⟩
  ·have p3 : (upd H2 r (.lst [.int (c' / 2)])) p = some (.lst (ss.map V.str)) := by rw [upd_ne hrp.symm]; exact p2
   refine ⟨_,rfl,.inl ⟨rfl,_,SqL.of p3⟩,p,_,rfl,rfl,p3,?_⟩
   refine ⟨_,rfl,p,_,_,rfl,SqL.of upd_same,(by rw [← List.map_reverse]; exact strs_is ss.reverse),fun v H4 g4 hv => ?_⟩
   refine ⟨[.str "choice",.tup (ss.reverse.map Dt.str)],.cons .str (.cons hv .nil),(by show 2 ≤ sizeLine; decide),fun v5 H5 g5 hv5 => ?_⟩
   exact q v5 _ (c' / 2) H5 (((but_upd (B2.trans But.put) hpH).trans (But.same g4)).trans (But.same g5)) (g5 _ _ (g4 _ _ (by rw [upd_ne hrp]; exact upd_same))) hv5 (.choice _ w2 fun z hz => ⟨(nam.odd z (List.mem_reverse.mp hz)).1,fun y hy => (nam.odd z (List.mem_reverse.mp hz)).2 y (List.mem_reverse.mp hy)⟩)
  ·refine ⟨_,rfl,p,_,_,rfl,SqL.of (by rw [upd_ne hrp.symm]; exact p2),strs_is ss,fun v H4 g4 hv => ?_⟩
   refine ⟨[.str "choice",.tup (ss.map Dt.str)],.cons .str (.cons hv .nil),(by show 2 ≤ sizeLine; decide),fun v5 H5 g5 hv5 => ?_⟩
   exact q v5 _ (c' / 2) H5 (((B2.trans But.put).trans (But.same g4)).trans (But.same g5)) (g5 _ _ (g4 _ _ upd_same)) hv5 (.choice ss w1 nam.odd)
noncomputable def But2 (r p : Addr) (H H' : Hp) : Prop := ∀ x o,x ≠ r → x ≠ p → H x = some o → H' x = some o
theorem But2.refl (r p : Addr) (H : Hp) : But2 r p H H := fun _ _ _ _ e => e
theorem But2.trans {r p : Addr} {H H' H'' : Hp} (a : But2 r p H H') (b : But2 r p H' H'') : But2 r p H H'' := fun x o h1 h2 e => b x o h1 h2 (a x o h1 h2 e)
theorem But2.one {r p : Addr} {H H' : Hp} (b : But r H H') : But2 r p H H' := fun x o h1 _ e => b x o h1 e
theorem But2.two {r p : Addr} {H H' : Hp} (b : But p H H') : But2 r p H H' := fun x o _ h2 e => b x o h2 e
theorem But2.same {r p : Addr} {H H' : Hp} (b : Same H H') : But2 r p H H' := fun x o _ _ e => b x o e
theorem But2.upd {r p l : Addr} {o : HO} {H H' : Hp} (b : But2 r p H H') (hl : H l = none) : But2 r p H (upd H' l o) := fun x u h1 h2 e => by rw [upd_ne (ne_of_none e hl)]; exact b x u h1 h2 e
theorem But2.mid {r p : Addr} {H H' : Hp} (b : But2 r p H H') : ∃ M : Hp,But r H M ∧ But p M H' ∧ M p = H p := by
 refine ⟨fun x => if x = p then H p else H' x,fun x o n e => ?_,fun x o n e => ?_,by simp⟩
 ·by_cases h : x = p
  ·subst h; simpa using e
  ·simp only [if_neg h]; exact b x o n h e
 ·simpa only [if_neg n] using e
theorem is_but2 {K : PySem.W.Frag} {r p : Addr} {H H' : Hp} {d : Dt} {v : V} {xs ys : List V} (hr : H r = some (.lst xs)) (hp : H p = some (.lst ys)) (b : But2 r p H H') (h : IsP K H d v) : IsP K H' d v := by
 obtain ⟨M,b1,b2,e⟩ := b.mid
 exact (h.but hr b1).but (e.trans hp) b2
theorem iss_but2 {K : PySem.W.Frag} {r p : Addr} {H H' : Hp} {d : List Dt} {v : List V} {xs ys : List V} (hr : H r = some (.lst xs)) (hp : H p = some (.lst ys)) (b : But2 r p H H') (h : IsPs K H d v) : IsPs K H' d v := by
 obtain ⟨M,b1,b2,e⟩ := b.mid
 exact (h.but hr b1).but (e.trans hp) b2
noncomputable def bud (x : Int) : Nat := (x / 5).toNat
theorem bud_less (x : Int) : bud (x - 5) ≤ bud x := by unfold bud; lia
theorem bud_step {x : Int} (h : 0 ≤ x - 5) : bud x = bud (x - 5) + 1 := by unfold bud; lia
noncomputable def GenK (K : PySem.W.Frag) (r p : Addr) (H : Hp) (D u : Nat) (x : Int) (Q : VK) : Prop := ∀ v d a c (n' x' : Int) H',But2 r p H H' → H' r = some (.lst [.int n']) → H' p = some (.lst [.int x']) → IsP K H' d v → FK a c d → a ≤ D → c + 4 * bud x' ≤ u + 4 * bud x → Q v H'
inductive I_skind (K : PySem.W.Frag) (n : Nat)  (vs : List V) (H : Hp) (Q : VK) : Prop
 | mk (r p : Addr) (c x : Int) (m : Nat) : (1 ≤ m) → (m ≤ n) → (vs = [.ref r,.int m,.ref p]) → (r ≠ p) → (H r = some (.lst [.int c])) → (H p = some (.lst [.int x])) → (GenK K r p H m 1 x Q) → I_skind K n vs H Q
noncomputable def skind (K : PySem.W.Frag) (n : Nat)  : Sp := fun vs H Q _ => I_skind K n vs H Q
inductive I_srecord (K : PySem.W.Frag) (n : Nat)  (vs : List V) (H : Hp) (Q : VK) : Prop
 | mk (r p : Addr) (c x : Int) (m : Nat) : (1 ≤ m) → (m ≤ n) → (vs = [.ref r,.int (m + 1 : Nat),.ref p]) → (r ≠ p) → (H r = some (.lst [.int c])) → (H p = some (.lst [.int x])) → (GenK K r p H (m + 1) 4 x Q) → I_srecord K n vs H Q
noncomputable def srecord (K : PySem.W.Frag) (n : Nat)  : Sp := fun vs H Q _ => I_srecord K n vs H Q
inductive I_srows (K : PySem.W.Frag) (n : Nat)  (vs : List V) (H : Hp) (Q : VK) : Prop
 | mk (r p : Addr) (c x : Int) (m : Nat) : (1 ≤ m) → (m ≤ n) → (vs = [.ref r,.int (m + 2 : Nat),.ref p]) → (r ≠ p) → (H r = some (.lst [.int c])) → (H p = some (.lst [.int x])) → (GenK K r p H (m + 2) 5 x Q) → I_srows K n vs H Q
noncomputable def srows (K : PySem.W.Frag) (n : Nat)  : Sp := fun vs H Q _ => I_srows K n vs H Q
theorem sum_snoc : ∀ (l : List Nat) (n : Nat),sumN (l ++ [n]) = sumN l + n
 | [],n => by show n + 0 = 0 + n; lia
 | m :: l,n => by
  show m + sumN (l ++ [n]) = m + sumN l + n
  rw [sum_snoc l n]
  lia
theorem rec_fk {ss : List Str} {gs : List G4} {m D : Nat} (nam : Nam m ss) (h8 : m ≤ 8) (e : gs.map (·.1) = ss) (fk : ∀ g ∈ gs,FK g.2.2.1 g.2.2.2 g.2.1) (hd : ∀ g ∈ gs,g.2.2.1 ≤ D) :
  FK (maxN (gs.map (·.2.2.1)) + 1) (sumN (gs.map (·.2.2.2)) + 1) (.tup [.str "record",.tup (gs.map prG)]) ∧ maxN (gs.map (·.2.2.1)) + 1 ≤ D + 1 := by
 refine ⟨.rcd fk (by rw [e]; exact nam.asc) (fun g hg => ?_) ?_,?_⟩
 ·exact nam.ok g.1 (by rw [← e]; exact List.mem_map.mpr ⟨g,hg,rfl⟩)
 ·have := congrArg List.length e
  rw [List.length_map,nam.len] at this
  lia
 ·exact Nat.succ_le_succ (max_le fun n hn => by
   obtain ⟨g,hg,rfl⟩ := List.mem_map.mp hn
   exact hd g hg)
theorem ok_law_record_kind (T : Tx K mg ad) {f fk : Addr} {fd fdk : FuncData} (n : Nat) (F : Gn K mg "_law_record_kind" s_law_record_kind ["row","deep","room"] f fd) (D_law_kind : Gn K mg "_law_kind" s_law_kind ["row","deep","room"] fk fdk)
  (G_law_kind : FnOk P w K mg base CX0 (3 * n + 6) fk fdk ["row","deep","room"] (skind K n)) : FnOk P w K mg base CX0 (3 * n + 6 + 1) f fd ["row","deep","room"] (srecord K n) := by
 obtain ⟨f_law_digit,fd_law_digit,D_law_digit⟩ := T.law_digit
 have G_law_digit := ok_law_digit (P := P) (w := w) (base := base) T D_law_digit
 obtain ⟨f_law_names,fd_law_names,D_law_names⟩ := T.law_names
 have G_law_names := ok_law_names (P := P) (w := w) (base := base) T D_law_names
 refine F.F.ok sc_law_record_kind (fun vs H Q E h => ?_) (fun cdv A outer s H vs Q E hr h => ?_)
 ·obtain ⟨r,p,c,x,m,_,_,rfl,_⟩ := h
  rfl
 obtain ⟨r,p,c,x,m,hm1,hmn,rfl,nrp,hr0,hp0,q⟩ := h
 refine ⟨_,(@pss_cons _ _ _ _ _ (@ps_set _ _ 3 _ _ _ _ sc_law_record_kind.nd rfl (Or.inl rfl) (pe_call G_law_digit (hr.mono (by first | decide | lia)) rfl D_law_digit.m D_law_digit.F.kp D_law_digit.b .nil pass0 (@pa_cons _ _ _ _ _ (pv 0) (@pa_cons _ _ _ _ _ pe_int pa_nil (by rfl)) (by rfl))) (by rfl) (by first | exact .inl rfl | exact .inr rfl | assumption)) (@pss_cons _ _ _ _ _ (@ps_set _ _ 4 _ _ _ _ sc_law_record_kind.nd rfl (Or.inl rfl) (@pe_lst _ _ _ _ pa_nil) (by rfl) (by first | exact .inl rfl | exact .inr rfl | assumption)) (@pss_cons _ _ _ _ _ (ps_for PassesOwn.never rfl (pi_listN (K := K) rfl (pe_call G_law_names (hr.mono (by first | decide | lia)) rfl D_law_names.m D_law_names.F.kp D_law_names.b .nil pass0 (@pa_cons _ _ _ _ _ (pv 0) (@pa_cons _ _ _ _ _ (pv 3) pa_nil (by rfl)) (by rfl)))) (pg_name (i := 5) sc_law_record_kind.nd rfl (Or.inl rfl))
    (@pss_one _ _ _ (@ps_expr _ _ _ _ (pe_bm PySem.F.plainAttrs_list PySem.F.slot_list_append PySem.F.type_list_append mt_append (pv 4) (@pa_cons _ _ _ _ _ (@pe_tupPK _ K _ _ _ _ rfl (@pa_cons _ _ _ _ _ (pv 5) (@pa_cons _ _ _ _ _ (pe_call G_law_kind (hr.mono (by first | decide | lia)) rfl D_law_kind.m D_law_kind.F.kp D_law_kind.b .nil pass0 (@pa_cons _ _ _ _ _ (pv 0) (@pa_cons _ _ _ _ _ (@pe_op _ _ _ _ _ _ _ _ op_sub (pv 1) pe_int) (@pa_cons _ _ _ _ _ (pv 2) pa_nil (by rfl)) (by rfl)) (by rfl))) pa_nil (by rfl)) (by rfl))) pa_nil (by rfl))) (by rfl)))) (@pss_one _ _ _ (@ps_ret _ _ _ _ (@pe_tupPK _ K _ _ _ _ rfl (@pa_cons _ _ _ _ _ pe_str (@pa_cons _ _ _ _ _ (pe_callTy (call_tuplePN (K := K) rfl) rfl T.z_tuple boot_tuple (@pa_cons _ _ _ _ _ (pv 4) pa_nil (by rfl))) pa_nil (by rfl)) (by rfl)))))))),?_⟩
 refine ⟨_,rfl,r,c,4,rfl,hr0,by decide,by decide,?_⟩
 obtain ⟨k0,k1⟩ := mod_lt c (m := 4) (by decide)
 obtain ⟨k,hk⟩ : ∃ k : Nat,((k : Nat) : Int) = c % 4 := ⟨(c % 4).toNat,by lia⟩
 have B1 : But2 r p H (upd H r (.lst [.int (c / 4)])) := .one But.put
 refine ⟨(by show 0 ≤ sizeLine; decide),fun pf hpf => ?_⟩
 have nrf : r ≠ pf := fun e => by rw [← e,upd_same] at hpf; cases hpf
 have hfH : H pf = none := by rw [upd_ne nrf.symm] at hpf; exact hpf
 have npf : p ≠ pf := ne_of_none hp0 hfH
 refine ⟨_,rfl,_,rfl,r,c / 4,k,(by show [V.ref r,V.int (c % 4)] = _; rw [hk]),(by rw [upd_ne nrf]; exact upd_same),by lia,fun pn ss c2 H2 b2 hpn r2 n2 nam => ?_⟩
 have nfn : pf ≠ pn := ne_of_none (upd_same (o := .lst [])) hpn
 have p1 : (upd (upd H r (.lst [.int (c / 4)])) pf (.lst [])) p = some (.lst [.int x]) := by rw [upd_ne npf,upd_ne nrp.symm]; exact hp0
 have npn : p ≠ pn := ne_of_none p1 hpn
 have nrn : r ≠ pn := ne_of_none (by rw [upd_ne nrf]; exact upd_same) hpn
 have hnH : H pn = none := by
  have := hpn
  rw [upd_ne nfn.symm,upd_ne nrn.symm] at this
  exact this
 have B2 : But2 r p H H2 := (B1.trans (.same (same_new hpf _))).trans (.one b2)
 have p2 : H2 p = some (.lst [.int x]) := b2 _ _ nrp.symm p1
 have f2 : H2 pf = some (.lst []) := b2 _ _ nrf.symm upd_same
 refine ⟨pn,rfl,⟨_,SqL.of n2⟩,for_list (xs := ss.map V.str) (fun i σ H' => ∃ (gs : List G4) (ys : List V) (c' x' : Int) (v6 : Option V),But2 r p H H' ∧ H' r = some (.lst [.int c']) ∧ H' p = some (.lst [.int x']) ∧ H' pn = some (.lst (ss.map V.str)) ∧ H' pf = some (.lst ys) ∧ IsPs K H' (gs.map prG) ys ∧ gs.map (·.1) = ss.take i ∧ (∀ g ∈ gs,FK g.2.2.1 g.2.2.2 g.2.1) ∧ (∀ g ∈ gs,g.2.2.1 ≤ m) ∧ sumN (gs.map (·.2.2.2)) + 4 * bud x' ≤ i + 4 * bud x ∧ σ = [some (.ref r),some (.int (m + 1 : Nat)),some (.ref p),some (.int (c % 4)),some (.ref pf),v6])
  ⟨[],[],c2,x,_,B2,r2,p2,n2,f2,.nil,rfl,(fun g hg => by cases hg),(fun g hg => by cases hg),(by show 0 + 4 * bud x ≤ 0 + 4 * bud x; lia),rfl⟩ (fun i σ H' _ h => by obtain ⟨_,_,_,_,_,_,_,_,h,_⟩ := h; exact SqL.of h) ?_ ?_⟩
 ·intro i u σ H3 hu hI9
  refine goal_name fun gg hgg => ?_
  obtain ⟨gs,ys,c3,x3,v6,B3,r3,p3,n3,f3,hys,nms,fk,hd,hsum,rfl⟩ := hI9
  refine hgg ?_
  clear hgg gg
  rw [List.getElem?_map] at hu
  refine goal_name fun gg hgg => ?_
  obtain ⟨z,hz,rfl⟩ := Option.map_eq_some_iff.mp hu
  refine hgg ?_
  clear hgg gg
  have li := (List.getElem?_eq_some_iff.mp hz).1
  have lss := nam.len
  have lgs : gs.length = i := by
   have := congrArg List.length nms
   rw [List.length_map,List.length_take] at this
   lia
  have lys := hys.length
  rw [List.length_map] at lys
  have e1 : (((m + 1 : Nat) : Int)) - 1 = ((m : Nat) : Int) := by lia
  refine ⟨_,rfl,.inl ⟨rfl,_,SqL.of f3⟩,_,rfl,_,rfl,_,rfl,_,_,rfl,rfl,_,rfl,r,p,c3,x3,m,hm1,hmn,(by show [V.ref r,V.int (((m + 1 : Nat) : Int) - 1),V.ref p] = _; rw [e1]),nrp,r3,p3,fun v d a c4 n4 x4 H4 b4 r4 p4 hv fk4 ha hc4 => ?_⟩
  refine ⟨[.str z,d],.cons .str (.cons hv .nil),(by show 2 ≤ sizeLine; decide),fun v5 H5 g5 hv5 => ?_⟩
  have f5 : H5 pf = some (.lst ys) := g5 _ _ (b4 _ _ nrf.symm npf.symm f3)
  refine ⟨pf,ys,v5,rfl,rfl,f5,small1000 (by lia),?_⟩
  refine ⟨gs ++ [(z,d,a,c4)],ys ++ [v5],n4,x4,_,((B3.trans b4).trans (.same g5)).upd hfH,(by rw [upd_ne nrf]; exact g5 _ _ r4),(by rw [upd_ne npf]; exact g5 _ _ p4),(by rw [upd_ne nfn.symm]; exact g5 _ _ (b4 _ _ nrn.symm npn.symm n3)),upd_same,?_,?_,?_,?_,?_,rfl⟩
  ·rw [List.map_append]
   exact (((iss_but2 r3 p3 b4 hys).same g5).append (.cons hv5 .nil)).but f5 But.put
  ·rw [List.map_append,nms,List.take_add_one,hz]
   rfl
  ·intro g hg
   rcases List.mem_append.mp hg with h | h
   ·exact fk g h
   ·obtain rfl := List.mem_singleton.mp h
    exact fk4
  ·intro g hg
   rcases List.mem_append.mp hg with h | h
   ·exact hd g h
   ·obtain rfl := List.mem_singleton.mp h
    exact ha
  ·rw [List.map_append]
   show sumN (gs.map (·.2.2.2) ++ [c4]) + _ ≤ _
   rw [sum_snoc]
   lia
 ·intro σ H3 hI9
  refine goal_name fun gg hgg => ?_
  obtain ⟨gs,ys,c3,x3,v6,B3,r3,p3,n3,f3,hys,nms,fk,hd,hsum,rfl⟩ := hI9
  refine hgg ?_
  clear hgg gg
  have lss := nam.len
  rw [List.length_map,List.take_length] at nms
  rw [List.length_map] at hsum
  obtain ⟨F1,F2⟩ := rec_fk (D := m) nam (by lia) nms fk hd
  refine ⟨_,rfl,pf,_,_,rfl,SqL.of f3,hys,fun v4 H4 g4 hv4 => ?_⟩
  refine ⟨[.str "record",.tup (gs.map prG)],.cons .str (.cons hv4 .nil),(by show 2 ≤ sizeLine; decide),fun v5 H5 g5 hv5 => ?_⟩
  exact q v5 _ _ _ c3 x3 H5 ((B3.trans (.same g4)).trans (.same g5)) (g5 _ _ (g4 _ _ r3)) (g5 _ _ (g4 _ _ p3)) hv5 F1 F2 (by lia)
theorem ok_law_kind (T : Tx K mg ad) {f fr fw : Addr} {fd fdr fdw : FuncData} (n : Nat) (D_law_kind : Gn K mg "_law_kind" s_law_kind ["row","deep","room"] f fd) (D_law_record_kind : Gn K mg "_law_record_kind" s_law_record_kind ["row","deep","room"] fr fdr) (D_law_rows_kind : Gn K mg "_law_rows_kind" s_law_rows_kind ["row","deep","room"] fw fdw)
  (G_law_kind : FnOk P w K mg base CX0 (3 * n + 6) f fd ["row","deep","room"] (skind K n)) (G_law_record_kind : FnOk P w K mg base CX0 (3 * n + 7) fr fdr ["row","deep","room"] (srecord K n)) (G_law_rows_kind : FnOk P w K mg base CX0 (3 * n + 7) fw fdw ["row","deep","room"] (srows K (n - 1))) :
  FnOk P w K mg base CX0 (3 * n + 8 + 1) f fd ["row","deep","room"] (skind K (n + 1)) := by
 obtain ⟨f_law_digit,fd_law_digit,D_law_digit⟩ := T.law_digit
 have G_law_digit := ok_law_digit (P := P) (w := w) (base := base) T D_law_digit
 obtain ⟨f_law_leaf_kind,fd_law_leaf_kind,D_law_leaf_kind⟩ := T.law_leaf_kind
 have G_law_leaf_kind := ok_law_leaf_kind (P := P) (w := w) (base := base) T D_law_leaf_kind
 refine D_law_kind.F.ok sc_law_kind (fun vs H Q E h => ?_) (fun cdv A outer s H vs Q E hr h => ?_)
 ·obtain ⟨r,p,c,x,m,_,_,rfl,_⟩ := h
  rfl
 obtain ⟨r,p,c,x,m,hm1,hmn,rfl,nrp,hr0,hp0,q⟩ := h
 refine ⟨_,(@pss_cons _ _ _ _ _ (@ps_set _ _ 3 _ _ _ _ sc_law_kind.nd rfl (Or.inl rfl) (pe_call G_law_digit (hr.mono (by first | decide | lia)) rfl D_law_digit.m D_law_digit.F.kp D_law_digit.b .nil pass0 (@pa_cons _ _ _ _ _ (pv 0) (@pa_cons _ _ _ _ _ pe_int pa_nil (by rfl)) (by rfl))) (by rfl) (by first | exact .inl rfl | exact .inr rfl | assumption)) (@pss_cons _ _ _ _ _ (ps_asg (@pe_op _ _ _ _ _ _ _ _ op_sub (@pe_ix _ _ _ _ _ _ _ (ix_listK (K := K) rfl) (pv 2) pe_int (fun _ _ => rfl)) pe_int) (pg_sub (pv 2) pe_int set_list)) (@pss_cons _ _ _ _ _ (@ps_if _ _ _ _ _ _ _ _ (PW.pt (@pw_or _ _ _ _ _ _ _ (pt_cmpR op_lt (pv 3) pe_int (nomark _)) (@pw_or _ _ _ _ _ _ _ (pt_cmpR op_lt (pv 1) pe_int (nomark _)) (@pw_or1 _ _ _ _ (pt_cmpR op_lt (@pe_ix _ _ _ _ _ _ _ (ix_listK (K := K) rfl) (pv 2) pe_int (fun _ _ => rfl)) pe_int (nomark _)))))) (@pss_one _ _ _ (@ps_ret _ _ _ _ (pe_call G_law_leaf_kind (hr.mono (by first | decide | lia)) rfl D_law_leaf_kind.m D_law_leaf_kind.F.kp D_law_leaf_kind.b .nil pass0 (@pa_cons _ _ _ _ _ (pv 0) pa_nil (by rfl))))) pss_nil) (@pss_cons _ _ _ _ _ (@ps_if _ _ _ _ _ _ _ _ (pt_cmpR op_eq (pv 3) pe_int (nomark _)) (@pss_one _ _ _ (@ps_ret _ _ _ _ (@pe_tupPK _ K _ _ _ _ rfl (@pa_cons _ _ _ _ _ pe_str (@pa_cons _ _ _ _ _ (pe_call G_law_kind (hr.mono (by first | decide | lia)) rfl D_law_kind.m D_law_kind.F.kp D_law_kind.b .nil pass0 (@pa_cons _ _ _ _ _ (pv 0) (@pa_cons _ _ _ _ _ (@pe_op _ _ _ _ _ _ _ _ op_sub (pv 1) pe_int) (@pa_cons _ _ _ _ _ (pv 2) pa_nil (by rfl)) (by rfl)) (by rfl))) (@pa_cons _ _ _ _ _ (pe_call G_law_digit (hr.mono (by first | decide | lia)) rfl D_law_digit.m D_law_digit.F.kp D_law_digit.b .nil pass0 (@pa_cons _ _ _ _ _ (pv 0) (@pa_cons _ _ _ _ _ pe_int pa_nil (by rfl)) (by rfl))) pa_nil (by rfl)) (by rfl)) (by rfl))))) pss_nil) (@pss_cons _ _ _ _ _ (@ps_if _ _ _ _ _ _ _ _ (PW.pt (@pw_and _ _ _ _ _ _ _ (pt_cmpR op_eq (pv 3) pe_int (nomark _)) (@pw_and1 _ _ _ _ (pt_cmpR op_gt (pv 1) pe_int (nomark _))))) (@pss_one _ _ _ (@ps_ret _ _ _ _ (pe_call G_law_rows_kind (hr.mono (by first | decide | lia)) rfl D_law_rows_kind.m D_law_rows_kind.F.kp D_law_rows_kind.b .nil pass0 (@pa_cons _ _ _ _ _ (pv 0) (@pa_cons _ _ _ _ _ (pv 1) (@pa_cons _ _ _ _ _ (pv 2) pa_nil (by rfl)) (by rfl)) (by rfl))))) pss_nil) (@pss_one _ _ _ (@ps_ret _ _ _ _ (pe_call G_law_record_kind (hr.mono (by first | decide | lia)) rfl D_law_record_kind.m D_law_record_kind.F.kp D_law_record_kind.b .nil pass0 (@pa_cons _ _ _ _ _ (pv 0) (@pa_cons _ _ _ _ _ (pv 1) (@pa_cons _ _ _ _ _ (pv 2) pa_nil (by rfl)) (by rfl)) (by rfl)))))))))),?_⟩
 refine ⟨_,rfl,r,c,6,rfl,hr0,by decide,by decide,?_⟩
 have p1 : (upd H r (.lst [.int (c / 6)])) p = some (.lst [.int x]) := by rw [upd_ne nrp.symm]; exact hp0
 have e0 : ∀ y : Int,atI [V.int y] 0 = some (.int y) := fun _ => rfl
 refine ⟨_,rfl,p,_,_,_,rfl,rfl,SqL.of p1,e0 x,_,_,rfl,rfl,_,rfl,p,_,_,_,rfl,rfl,p1,rfl,_,rfl,?_⟩
 have B2 : But2 r p H (upd (upd H r (.lst [.int (c / 6)])) p (.lst [.int (x - 5)])) := (But2.one But.put).trans (.two But.put)
 have r2 : (upd (upd H r (.lst [.int (c / 6)])) p (.lst [.int (x - 5)])) r = some (.lst [.int (c / 6)]) := by rw [upd_ne nrp]; exact upd_same
 have p2 : (upd (upd H r (.lst [.int (c / 6)])) p (.lst [.int (x - 5)])) p = some (.lst [.int (x - 5)]) := upd_same
 have bl := bud_less x
 refine ⟨_,_,rfl,rfl,_,rfl,ite2 (fun c1 => iteT ?leaf) (fun c1 => ?_)⟩
 case leaf => exact ⟨_,rfl,r,c / 6,rfl,r2,fun v d n' H' b e hv fk => q v d 1 1 n' (x - 5) H' (B2.trans (.one b)) e (b _ _ nrp.symm p2) hv fk hm1 (by lia)⟩
 refine ⟨_,rfl,_,_,rfl,rfl,_,rfl,ite2 (fun c2 => iteT ?leaf) (fun c2 => ?_)⟩
 case leaf => exact ⟨_,rfl,r,c / 6,rfl,r2,fun v d n' H' b e hv fk => q v d 1 1 n' (x - 5) H' (B2.trans (.one b)) e (b _ _ nrp.symm p2) hv fk hm1 (by lia)⟩
 refine ⟨_,rfl,p,_,_,_,rfl,rfl,SqL.of p2,e0 (x - 5),_,_,rfl,rfl,_,rfl,ite2 (fun c3 => ?leaf) (fun c3 => ?_)⟩
 case leaf => exact ⟨_,rfl,r,c / 6,rfl,r2,fun v d n' H' b e hv fk => q v d 1 1 n' (x - 5) H' (B2.trans (.one b)) e (b _ _ nrp.symm p2) hv fk hm1 (by lia)⟩
 have m2 : 2 ≤ m := by
  have : ¬ ((m : Nat) : Int) < 2 := fun h => c2 (decide_eq_true h)
  lia
 have x5 : 0 ≤ x - 5 := by
  have : ¬ x - 5 < 0 := fun h => c3 (decide_eq_true h)
  lia
 have bs := bud_step x5
 obtain ⟨m,rfl⟩ : ∃ k,m = k + 1 := ⟨m - 1,by lia⟩
 have e1 : (((m + 1 : Nat) : Int)) - 1 = ((m : Nat) : Int) := by lia
 refine ⟨_,rfl,rfl,_,rfl,ite2 (fun c4 => ?_) (fun c4 => ?_)⟩
 ·refine ⟨_,rfl,_,rfl,_,_,rfl,rfl,_,rfl,r,p,c / 6,x - 5,m,by lia,by lia,(by show [V.ref r,V.int (((m + 1 : Nat) : Int) - 1),V.ref p] = _; rw [e1]),nrp,r2,p2,fun v d a c4 n4 x4 H4 b4 r4 p4 hv fk4 ha hc4 => ?_⟩
  obtain ⟨k0,k1⟩ := mod_lt n4 (m := 9) (by decide)
  refine ⟨_,rfl,r,n4,9,rfl,r4,by decide,by decide,[.str "list",d,.int _],.cons .str (.cons (hv.but r4 But.put) (.cons .int .nil)),(by show 3 ≤ sizeLine; decide),fun v5 H5 g5 hv5 => ?_⟩
  exact q v5 _ (a + 1) (c4 + 1) (n4 / 9) x4 H5 (((B2.trans b4).trans (.one But.put)).trans (.same g5)) (g5 _ _ upd_same) (g5 _ _ (by rw [upd_ne nrp.symm]; exact p4)) hv5 (.list fk4 k0 (by lia)) (by lia) (by lia)
 refine ⟨_,rfl,rfl,_,rfl,ite2 (fun c5 => ?_) (fun c5 => iteF ?_)⟩
 ·refine ⟨_,rfl,_,_,rfl,rfl,_,rfl,ite2 (fun c6 => ?_) (fun c6 => ?_)⟩
  ·have m3 : 3 ≤ m + 1 := by
    have : (2 : Int) < ((m + 1 : Nat) : Int) := of_decide_eq_true c6
    lia
   obtain ⟨m,rfl⟩ : ∃ k,m = k + 1 := ⟨m - 1,by lia⟩
   exact ⟨_,rfl,_,rfl,_,rfl,r,p,c / 6,x - 5,m,by lia,by lia,rfl,nrp,r2,p2,fun v d a c4 n4 x4 H4 b4 r4 p4 hv fk4 ha hc4 => q v d a c4 n4 x4 H4 (B2.trans b4) r4 p4 hv fk4 ha (by lia)⟩
  ·exact ⟨_,rfl,_,rfl,_,rfl,r,p,c / 6,x - 5,m,by lia,by lia,rfl,nrp,r2,p2,fun v d a c4 n4 x4 H4 b4 r4 p4 hv fk4 ha hc4 => q v d a c4 n4 x4 H4 (B2.trans b4) r4 p4 hv fk4 ha (by lia)⟩
 ·exact ⟨_,rfl,_,rfl,_,rfl,r,p,c / 6,x - 5,m,by lia,by lia,rfl,nrp,r2,p2,fun v d a c4 n4 x4 H4 b4 r4 p4 hv fk4 ha hc4 => q v d a c4 n4 x4 H4 (B2.trans b4) r4 p4 hv fk4 ha (by lia)⟩
noncomputable def keyK (d : Dt) : Prop := ∃ w r,d = .tup (.str w :: r) ∧ (w = "number" ∨ w = "text")
structure RkI (K : PySem.W.Frag) (r p pn pf : Addr) (ss : List Str) (key : Str) (m : Nat) (x : Int) (H : Hp) (i : Nat) (gs : List G4) (ys : List V) (c' x' : Int) (H' : Hp) : Prop where
 B : But2 r p H H'
 hr : H' r = some (.lst [.int c'])
 hp : H' p = some (.lst [.int x'])
 hn : H' pn = some (.lst (ss.map V.str))
 hf : H' pf = some (.lst ys)
 hys : IsPs K H' (gs.map prG) ys
 nms : gs.map (·.1) = ss.take i
 fk : ∀ g ∈ gs,FK g.2.2.1 g.2.2.2 g.2.1
 hd : ∀ g ∈ gs,g.2.2.1 ≤ m
 ky : ∀ g ∈ gs,g.1 = key → keyK g.2.1
 sum : sumN (gs.map (·.2.2.2)) + 4 * bud x' ≤ i + 4 * bud x
theorem RkI.next {K : PySem.W.Frag} {r p pn pf : Addr} {ss : List Str} {key z : Str} {m i a c4 : Nat} {x c3 x3 n4 x4 : Int} {H H3 H4 H5 : Hp} {gs : List G4} {ys : List V} {d : Dt} {v5 : V} (I : RkI K r p pn pf ss key m x H i gs ys c3 x3 H3) (hz : ss[i]? = some z)
  (nrf : r ≠ pf) (npf : p ≠ pf) (nrn : r ≠ pn) (npn : p ≠ pn) (nfn : pf ≠ pn) (hfH : H pf = none) (b4 : But2 r p H3 H4) (r4 : H4 r = some (.lst [.int n4])) (p4 : H4 p = some (.lst [.int x4])) (fk4 : FK a c4 d) (ha : a ≤ m) (hc4 : c4 + 4 * bud x4 ≤ 1 + 4 * bud x3) (hk : z = key → keyK d)
  (g5 : Same H4 H5) (hv5 : IsP K H5 (.tup [.str z,d]) v5) : RkI K r p pn pf ss key m x H (i + 1) (gs ++ [(z,d,a,c4)]) (ys ++ [v5]) n4 x4 (upd H5 pf (.lst (ys ++ [v5]))) := by
 obtain ⟨B3,r3,p3,n3,f3,hys,nms,fk,hd,ky,hsum⟩ := I
 have f5 : H5 pf = some (.lst ys) := g5 _ _ (b4 _ _ nrf.symm npf.symm f3)
 refine ⟨((B3.trans b4).trans (.same g5)).upd hfH,(by rw [upd_ne nrf]; exact g5 _ _ r4),(by rw [upd_ne npf]; exact g5 _ _ p4),(by rw [upd_ne nfn.symm]; exact g5 _ _ (b4 _ _ nrn.symm npn.symm n3)),upd_same,?_,?_,?_,?_,?_,?_⟩
 ·rw [List.map_append]
  exact (((iss_but2 r3 p3 b4 hys).same g5).append (.cons hv5 .nil)).but f5 But.put
 ·rw [List.map_append,nms,List.take_add_one,hz]
  rfl
 ·intro g hg
  rcases List.mem_append.mp hg with h | h
  ·exact fk g h
  ·obtain rfl := List.mem_singleton.mp h
   exact fk4
 ·intro g hg
  rcases List.mem_append.mp hg with h | h
  ·exact hd g h
  ·obtain rfl := List.mem_singleton.mp h
   exact ha
 ·intro g hg
  rcases List.mem_append.mp hg with h | h
  ·exact ky g h
  ·obtain rfl := List.mem_singleton.mp h
   exact hk
 ·rw [List.map_append]
  show sumN (gs.map (·.2.2.2) ++ [c4]) + _ ≤ _
  rw [sum_snoc]
  lia
theorem RkI.few {K : PySem.W.Frag} {r p pn pf : Addr} {ss : List Str} {key : Str} {m i : Nat} {x c3 x3 : Int} {H H3 : Hp} {gs : List G4} {ys : List V} (I : RkI K r p pn pf ss key m x H i gs ys c3 x3 H3) : ys.length ≤ ss.length := by
 have lys := I.hys.length
 have := congrArg List.length I.nms
 rw [List.length_map,List.length_take] at this
 rw [List.length_map] at lys
 lia
theorem ok_law_rows_kind (T : Tx K mg ad) {f fk : Addr} {fd fdk : FuncData} (n : Nat) (F : Gn K mg "_law_rows_kind" s_law_rows_kind ["row","deep","room"] f fd) (D_law_kind : Gn K mg "_law_kind" s_law_kind ["row","deep","room"] fk fdk)
  (G_law_kind : FnOk P w K mg base CX0 (3 * n + 6) fk fdk ["row","deep","room"] (skind K n)) : FnOk P w K mg base CX0 (3 * n + 6 + 1) f fd ["row","deep","room"] (srows K n) := by
 obtain ⟨f_law_digit,fd_law_digit,D_law_digit⟩ := T.law_digit
 have G_law_digit := ok_law_digit (P := P) (w := w) (base := base) T D_law_digit
 obtain ⟨f_law_names,fd_law_names,D_law_names⟩ := T.law_names
 have G_law_names := ok_law_names (P := P) (w := w) (base := base) T D_law_names
 obtain ⟨f_law_number_kind,fd_law_number_kind,D_law_number_kind⟩ := T.law_number_kind
 have G_law_number_kind := ok_law_number_kind (P := P) (w := w) (base := base) T D_law_number_kind
 refine F.F.ok sc_law_rows_kind (fun vs H Q E h => ?_) (fun cdv A outer s H vs Q E hr h => ?_)
 ·obtain ⟨r,p,c,x,m,_,_,rfl,_⟩ := h
  rfl
 obtain ⟨r,p,c,x,m,hm1,hmn,rfl,nrp,hr0,hp0,q⟩ := h
 refine ⟨_,(@pss_cons _ _ _ _ _ (@ps_set _ _ 3 _ _ _ _ sc_law_rows_kind.nd rfl (Or.inl rfl) (pe_call G_law_names (hr.mono (by first | decide | lia)) rfl D_law_names.m D_law_names.F.kp D_law_names.b .nil pass0 (@pa_cons _ _ _ _ _ (pv 0) (@pa_cons _ _ _ _ _ (@pe_op _ _ _ _ _ _ _ _ op_add pe_int (pe_call G_law_digit (hr.mono (by first | decide | lia)) rfl D_law_digit.m D_law_digit.F.kp D_law_digit.b .nil pass0 (@pa_cons _ _ _ _ _ (pv 0) (@pa_cons _ _ _ _ _ pe_int pa_nil (by rfl)) (by rfl)))) pa_nil (by rfl)) (by rfl))) (by rfl) (by first | exact .inl rfl | exact .inr rfl | assumption)) (@pss_cons _ _ _ _ _ (@ps_set _ _ 4 _ _ _ _ sc_law_rows_kind.nd rfl (Or.inl rfl) (@pe_ix _ _ _ _ _ _ _ (ix_listK (K := K) rfl) (pv 3) (pe_call G_law_digit (hr.mono (by first | decide | lia)) rfl D_law_digit.m D_law_digit.F.kp D_law_digit.b .nil pass0 (@pa_cons _ _ _ _ _ (pv 0) (@pa_cons _ _ _ _ _ (pe_callB (call_len_seqN (K := K) rfl) rfl T.z_len PySem.boot_len (@pa_cons _ _ _ _ _ (pv 3) pa_nil (by rfl))) pa_nil (by rfl)) (by rfl))) (fun _ _ => rfl)) (by rfl) (by first | exact .inl rfl | exact .inr rfl | assumption)) (@pss_cons _ _ _ _ _ (@ps_set _ _ 5 _ _ _ _ sc_law_rows_kind.nd rfl (Or.inl rfl) (@pe_lst _ _ _ _ pa_nil) (by rfl) (by first | exact .inl rfl | exact .inr rfl | assumption)) (@pss_cons _ _ _ _ _ (ps_for PassesOwn.never rfl (pi_listN (K := K) rfl (pv 3)) (pg_name (i := 6) sc_law_rows_kind.nd rfl (Or.inl rfl))
    (@pss_cons _ _ _ _ _ (@ps_set _ _ 7 _ _ _ _ sc_law_rows_kind.nd rfl (Or.inl rfl) (pe_call G_law_number_kind (hr.mono (by first | decide | lia)) rfl D_law_number_kind.m D_law_number_kind.F.kp D_law_number_kind.b .nil pass0 (@pa_cons _ _ _ _ _ (pv 0) pa_nil (by rfl))) (by rfl) (by first | exact .inl rfl | exact .inr rfl | assumption)) (@pss_cons _ _ _ _ _ (@ps_if _ _ _ _ _ _ _ _ (pt_cmpR op_eq (pe_call G_law_digit (hr.mono (by first | decide | lia)) rfl D_law_digit.m D_law_digit.F.kp D_law_digit.b .nil pass0 (@pa_cons _ _ _ _ _ (pv 0) (@pa_cons _ _ _ _ _ pe_int pa_nil (by rfl)) (by rfl))) pe_int (nomark _)) (@pss_one _ _ _ (@ps_set _ _ 7 _ _ _ _ sc_law_rows_kind.nd rfl (Or.inl rfl) (@pe_tupPK _ K _ _ _ _ rfl (@pa_cons _ _ _ _ _ pe_str (@pa_cons _ _ _ _ _ (pe_call G_law_digit (hr.mono (by first | decide | lia)) rfl D_law_digit.m D_law_digit.F.kp D_law_digit.b .nil pass0 (@pa_cons _ _ _ _ _ (pv 0) (@pa_cons _ _ _ _ _ pe_int pa_nil (by rfl)) (by rfl))) pa_nil (by rfl)) (by rfl))) (by rfl) (by first | exact .inl rfl | exact .inr rfl | assumption))) pss_nil) (@pss_cons _ _ _ _ _ (@ps_if _ _ _ _ _ _ _ _ (pt_cmpR op_ne (pv 6) (pv 4) (nomark _)) (@pss_one _ _ _ (@ps_set _ _ 7 _ _ _ _ sc_law_rows_kind.nd rfl (Or.inl rfl) (pe_call G_law_kind (hr.mono (by first | decide | lia)) rfl D_law_kind.m D_law_kind.F.kp D_law_kind.b .nil pass0 (@pa_cons _ _ _ _ _ (pv 0) (@pa_cons _ _ _ _ _ (@pe_op _ _ _ _ _ _ _ _ op_sub (pv 1) pe_int) (@pa_cons _ _ _ _ _ (pv 2) pa_nil (by rfl)) (by rfl)) (by rfl))) (by rfl) (by first | exact .inl rfl | exact .inr rfl | assumption))) pss_nil) (@pss_one _ _ _ (@ps_expr _ _ _ _ (pe_bm PySem.F.plainAttrs_list PySem.F.slot_list_append PySem.F.type_list_append mt_append (pv 5) (@pa_cons _ _ _ _ _ (@pe_tupPK _ K _ _ _ _ rfl (@pa_cons _ _ _ _ _ (pv 6) (@pa_cons _ _ _ _ _ (pv 7) pa_nil (by rfl)) (by rfl))) pa_nil (by rfl))) (by rfl))))))) (@pss_one _ _ _ (@ps_ret _ _ _ _ (@pe_tupPK _ K _ _ _ _ rfl (@pa_cons _ _ _ _ _ pe_str (@pa_cons _ _ _ _ _ (pv 4) (@pa_cons _ _ _ _ _ (@pe_tupPK _ K _ _ _ _ rfl (@pa_cons _ _ _ _ _ pe_str (@pa_cons _ _ _ _ _ (pe_callTy (call_tuplePN (K := K) rfl) rfl T.z_tuple boot_tuple (@pa_cons _ _ _ _ _ (pv 5) pa_nil (by rfl))) pa_nil (by rfl)) (by rfl))) (@pa_cons _ _ _ _ _ (pe_call G_law_digit (hr.mono (by first | decide | lia)) rfl D_law_digit.m D_law_digit.F.kp D_law_digit.b .nil pass0 (@pa_cons _ _ _ _ _ (pv 0) (@pa_cons _ _ _ _ _ pe_int pa_nil (by rfl)) (by rfl))) pa_nil (by rfl)) (by rfl)) (by rfl)) (by rfl))))))))),?_⟩
 obtain ⟨k0,k1⟩ := mod_lt c (m := 3) (by decide)
 obtain ⟨k,hk⟩ : ∃ k : Nat,((k : Nat) : Int) = 1 + c % 3 := ⟨(1 + c % 3).toNat,by lia⟩
 refine ⟨_,rfl,_,rfl,r,c,3,rfl,hr0,by decide,by decide,_,_,rfl,rfl,r,c / 3,k,(by show [V.ref r,V.int (1 + c % 3)] = _; rw [hk]),upd_same,by lia,fun pn ss c2 H2 b2 hpn r2 n2 nam => ?_⟩
 have p1 : (upd H r (.lst [.int (c / 3)])) p = some (.lst [.int x]) := by rw [upd_ne nrp.symm]; exact hp0
 have npn : p ≠ pn := ne_of_none p1 hpn
 have nrn : r ≠ pn := ne_of_none upd_same hpn
 have hnH : H pn = none := by rw [upd_ne nrn.symm] at hpn; exact hpn
 have B2 : But2 r p H H2 := (But2.one But.put).trans (.one b2)
 have p2 : H2 p = some (.lst [.int x]) := b2 _ _ nrp.symm p1
 have lss := nam.len
 have ln : (0 : Int) < (((ss.map V.str).length : Nat) : Int) := by rw [List.length_map]; lia
 obtain ⟨d0,d1⟩ := mod_lt c2 ln
 refine goal_name fun gg hgg => ?_
 obtain ⟨vk,hvk,ek⟩ := pick (xs := ss.map V.str) d0 d1
 refine hgg ?_
 clear hgg gg
 refine goal_name fun gg hgg => ?_
 obtain ⟨key,hkey,rfl⟩ := List.mem_map.mp hvk
 refine hgg ?_
 clear hgg gg
 refine ⟨_,rfl,_,rfl,_,rfl,pn,_,rfl,.inl (SqL.of n2),r,c2,_,rfl,r2,ln,(by rw [List.length_map]; lia),pn,_,_,_,rfl,rfl,SqL.of (by rw [upd_ne nrn.symm]; exact n2),ek,?_⟩
 generalize hL : (((ss.map V.str).length : Nat) : Int) = L at *
 have n3 : (upd H2 r (.lst [.int (c2 / L)])) pn = some (.lst (ss.map V.str)) := by rw [upd_ne nrn.symm]; exact n2
 have r3 : (upd H2 r (.lst [.int (c2 / L)])) r = some (.lst [.int (c2 / L)]) := upd_same
 have p3 : (upd H2 r (.lst [.int (c2 / L)])) p = some (.lst [.int x]) := by rw [upd_ne nrp.symm]; exact p2
 have B3 : But2 r p H (upd H2 r (.lst [.int (c2 / L)])) := B2.trans (.one But.put)
 generalize upd H2 r (.lst [.int (c2 / L)]) = H3 at *
 refine ⟨(by show 0 ≤ sizeLine; decide),fun pf hpf => ?_⟩
 have nrf : r ≠ pf := ne_of_none r3 hpf
 have npf : p ≠ pf := ne_of_none p3 hpf
 have nfn : pf ≠ pn := (ne_of_none n3 hpf).symm
 have hfH : H pf = none := by
  cases e : H pf with
  | none => rfl
  | some o => rw [B3 _ _ nrf.symm npf.symm e] at hpf; cases hpf
 refine ⟨_,rfl,pn,rfl,⟨_,SqL.of (by rw [upd_ne nfn.symm]; exact n3)⟩,for_list (xs := ss.map V.str) (fun i σ H' => ∃ gs ys c' x' v6 v7,RkI K r p pn pf ss key m x H i gs ys c' x' H' ∧ σ = [some (.ref r),some (.int (m + 2 : Nat)),some (.ref p),some (.ref pn),some (.str key),some (.ref pf),v6,v7])
  ⟨[],[],c2 / L,x,none,none,⟨B3.upd hfH,(by rw [upd_ne nrf]; exact r3),(by rw [upd_ne npf]; exact p3),(by rw [upd_ne nfn.symm]; exact n3),upd_same,.nil,rfl,(fun g hg => by cases hg),(fun g hg => by cases hg),(fun g hg => by cases hg),(by show 0 + 4 * bud x ≤ 0 + 4 * bud x; lia)⟩,rfl⟩ (fun i σ H' _ h => by obtain ⟨_,_,_,_,_,_,h,_⟩ := h; exact SqL.of h.hn) ?_ ?_⟩
 ·intro i u σ H4 hu hI9
  refine goal_name fun gg hgg => ?_
  obtain ⟨gs,ys,c4,x4,v6,v7,I,rfl⟩ := hI9
  refine hgg ?_
  clear hgg gg
  rw [List.getElem?_map] at hu
  refine goal_name fun gg hgg => ?_
  obtain ⟨z,hz,rfl⟩ := Option.map_eq_some_iff.mp hu
  refine hgg ?_
  clear hgg gg
  have li := (List.getElem?_eq_some_iff.mp hz).1
  have few := I.few
  refine ⟨_,rfl,r,c4,rfl,I.hr,fun v5 lo hi n5 H5 b5 r5 hv5 fk5 => ?_⟩
  have p5 : H5 p = some (.lst [.int x4]) := b5 _ _ nrp.symm I.hp
  have e2 : (((m + 2 : Nat) : Int)) - 2 = ((m : Nat) : Int) := by lia
  refine ⟨_,rfl,r,n5,2,rfl,r5,by decide,by decide,rfl,_,rfl,ite2 (fun c1 => ?_) (fun c1 => ?_)⟩
  ·obtain ⟨k4,k5⟩ := mod_lt (n5 / 2) (m := 4) (by decide)
   refine ⟨_,rfl,r,n5 / 2,4,rfl,upd_same,by decide,by decide,[.str "text",.int _],.cons .str (.cons .int .nil),(by show 2 ≤ sizeLine; decide),fun v6 H6 g6 hv6 => ?_⟩
   have B6 : But2 r p H4 H6 := (((But2.one b5).trans (.one But.put)).trans (.one But.put)).trans (.same g6)
   have r6 : H6 r = some (.lst [.int (n5 / 2 / 4)]) := g6 _ _ upd_same
   have p6 : H6 p = some (.lst [.int x4]) := g6 _ _ (by rw [upd_ne nrp.symm,upd_ne nrp.symm]; exact p5)
   refine ⟨_,rfl,_,rfl,rfl,_,rfl,ite2 (fun c2 => ?_) (fun c2 => ?_)⟩
   ·refine ⟨_,rfl,_,rfl,_,_,rfl,rfl,_,rfl,r,p,n5 / 2 / 4,x4,m,hm1,hmn,(by show [V.ref r,V.int (((m + 2 : Nat) : Int) - 2),V.ref p] = _; rw [e2]),nrp,r6,p6,fun v d a c7 n7 x7 H7 b7 r7 p7 hv fk7 ha hc7 => ?_⟩
    refine ⟨_,rfl,.inl ⟨rfl,_,SqL.of (b7 _ _ nrf.symm npf.symm (B6 _ _ nrf.symm npf.symm I.hf))⟩,_,rfl,_,rfl,[.str z,d],.cons .str (.cons hv .nil),(by show 2 ≤ sizeLine; decide),fun v8 H8 g8 hv8 => ?_⟩
    exact ⟨pf,ys,v8,rfl,rfl,g8 _ _ (b7 _ _ nrf.symm npf.symm (B6 _ _ nrf.symm npf.symm I.hf)),small1000 (by lia),_,_,_,_,_,_,I.next hz nrf npf nrn npn nfn hfH (B6.trans b7) r7 p7 fk7 ha hc7 (fun e => by rw [e] at c2; simp at c2) g8 hv8,rfl⟩
   ·refine ⟨_,rfl,.inl ⟨rfl,_,SqL.of (B6 _ _ nrf.symm npf.symm I.hf)⟩,_,rfl,_,rfl,[.str z,_],.cons .str (.cons hv6 .nil),(by show 2 ≤ sizeLine; decide),fun v8 H8 g8 hv8 => ?_⟩
    exact ⟨pf,ys,v8,rfl,rfl,g8 _ _ (B6 _ _ nrf.symm npf.symm I.hf),small1000 (by lia),_,_,_,_,_,_,I.next hz nrf npf nrn npn nfn hfH B6 r6 p6 (.text _ k4 (by lia)) hm1 (by lia) (fun _ => ⟨_,_,rfl,.inr rfl⟩) g8 hv8,rfl⟩
  ·have B6 : But2 r p H4 (upd H5 r (.lst [.int (n5 / 2)])) := (But2.one b5).trans (.one But.put)
   have r6 : (upd H5 r (.lst [.int (n5 / 2)])) r = some (.lst [.int (n5 / 2)]) := upd_same
   have p6 : (upd H5 r (.lst [.int (n5 / 2)])) p = some (.lst [.int x4]) := by rw [upd_ne nrp.symm]; exact p5
   have hv6 := hv5.but r5 (But.put (o := .lst [.int (n5 / 2)]))
   refine ⟨_,rfl,_,rfl,rfl,_,rfl,ite2 (fun c2 => ?_) (fun c2 => ?_)⟩
   ·refine ⟨_,rfl,_,rfl,_,_,rfl,rfl,_,rfl,r,p,n5 / 2,x4,m,hm1,hmn,(by show [V.ref r,V.int (((m + 2 : Nat) : Int) - 2),V.ref p] = _; rw [e2]),nrp,r6,p6,fun v d a c7 n7 x7 H7 b7 r7 p7 hv fk7 ha hc7 => ?_⟩
    refine ⟨_,rfl,.inl ⟨rfl,_,SqL.of (b7 _ _ nrf.symm npf.symm (B6 _ _ nrf.symm npf.symm I.hf))⟩,_,rfl,_,rfl,[.str z,d],.cons .str (.cons hv .nil),(by show 2 ≤ sizeLine; decide),fun v8 H8 g8 hv8 => ?_⟩
    exact ⟨pf,ys,v8,rfl,rfl,g8 _ _ (b7 _ _ nrf.symm npf.symm (B6 _ _ nrf.symm npf.symm I.hf)),small1000 (by lia),_,_,_,_,_,_,I.next hz nrf npf nrn npn nfn hfH (B6.trans b7) r7 p7 fk7 ha hc7 (fun e => by rw [e] at c2; simp at c2) g8 hv8,rfl⟩
   ·refine ⟨_,rfl,.inl ⟨rfl,_,SqL.of (B6 _ _ nrf.symm npf.symm I.hf)⟩,_,rfl,_,rfl,[.str z,_],.cons .str (.cons hv6 .nil),(by show 2 ≤ sizeLine; decide),fun v8 H8 g8 hv8 => ?_⟩
    exact ⟨pf,ys,v8,rfl,rfl,g8 _ _ (B6 _ _ nrf.symm npf.symm I.hf),small1000 (by lia),_,_,_,_,_,_,I.next hz nrf npf nrn npn nfn hfH B6 r6 p6 fk5 hm1 (by lia) (fun _ => ⟨_,_,rfl,.inl rfl⟩) g8 hv8,rfl⟩
 ·intro σ H4 hI9
  refine goal_name fun gg hgg => ?_
  obtain ⟨gs,ys,c4,x4,v6,v7,I,rfl⟩ := hI9
  refine hgg ?_
  clear hgg gg
  refine goal_name fun gg hgg => ?_
  obtain ⟨B4,r4,p4,n4,f4,hys,nms,fk,hd,ky,hsum⟩ := I
  refine hgg ?_
  clear hgg gg
  rw [List.length_map,List.take_length] at nms
  rw [List.length_map] at hsum
  obtain ⟨F1,F2⟩ := rec_fk (D := m) nam (by lia) nms fk hd
  have hK : keyL (gs.map prG) key := by
   refine goal_name fun gg hgg => ?_
   obtain ⟨g,hg,rfl⟩ := List.mem_map.mp (nms ▸ hkey : key ∈ gs.map (·.1))
   refine hgg ?_
   clear hgg gg
   refine goal_name fun gg hgg => ?_
   obtain ⟨w,l,e,h⟩ := ky g hg rfl
   refine hgg ?_
   clear hgg gg
   exact ⟨w,l,List.mem_map.mpr ⟨g,hg,by show Dt.tup [.str g.1,g.2.1] = _; rw [e]⟩,h⟩
  obtain ⟨k4,k5⟩ := mod_lt c4 (m := 9) (by decide)
  refine ⟨_,rfl,_,rfl,pf,_,_,rfl,SqL.of f4,hys,fun v5 H5 g5 hv5 => ?_⟩
  refine ⟨[.str "record",.tup (gs.map prG)],.cons .str (.cons hv5 .nil),(by show 2 ≤ sizeLine; decide),fun v6 H6 g6 hv6 => ?_⟩
  have r6 := g6 _ _ (g5 _ _ r4)
  refine ⟨_,rfl,r,c4,9,rfl,r6,by decide,by decide,[.str "rows",.str key,.tup [.str "record",.tup (gs.map prG)],.int _],.cons .str (.cons .str (.cons (hv6.but r6 But.put) (.cons .int .nil))),(by show 4 ≤ sizeLine; decide),fun v7 H7 g7 hv7 => ?_⟩
  exact q v7 _ _ _ (c4 / 9) x4 H7 ((((B4.trans (.same g5)).trans (.same g6)).trans (.one But.put)).trans (.same g7)) (g7 _ _ upd_same) (g7 _ _ (by rw [upd_ne nrp.symm]; exact g6 _ _ (g5 _ _ p4))) hv7 (.rows F1 hK k4 (by lia)) (by lia) (by lia)
theorem kinds_all (T : Tx K mg ad) {f fr fw : Addr} {fd fdr fdw : FuncData} (D : Gn K mg "_law_kind" s_law_kind ["row","deep","room"] f fd) (Dr : Gn K mg "_law_record_kind" s_law_record_kind ["row","deep","room"] fr fdr) (Dw : Gn K mg "_law_rows_kind" s_law_rows_kind ["row","deep","room"] fw fdw) :
  ∀ n,FnOk P w K mg base CX0 (3 * n + 6) f fd ["row","deep","room"] (skind K n)
 | 0 => fn_none fun vs H Q E z => by obtain ⟨_,_,_,_,m,h1,h2,_⟩ := z; lia
 | n + 1 => by
  have ih := kinds_all T D Dr Dw n
  refine (ok_law_kind T n D Dr Dw ih (ok_law_record_kind T n Dr D ih) ((ok_law_rows_kind T n Dw D ih).imp ?_)).mono (by lia)
  rintro vs H Q E ⟨r,p,c,x,m,h1,h2,z1,z2,z3,z4,z5⟩
  exact ⟨r,p,c,x,m,h1,by lia,z1,z2,z3,z4,z5⟩
theorem iteY {A B : Prop} {x : V} (h : A) : if decide (x = x) = true then A else B := by rw [if_pos (decide_eq_true rfl)]; exact h
theorem iteN {A B : Prop} {x y : V} (n : x ≠ y) (h : B) : if decide (x = y) = true then A else B := by rw [if_neg (fun c => n (of_decide_eq_true c))]; exact h
theorem iteY' {A B : Prop} {x y : V} (n : x ≠ y) (h : A) : if (!decide (x = y)) = true then A else B := by rw [if_pos (by rw [decide_eq_false n]; rfl)]; exact h
theorem iteN' {A B : Prop} {x : V} (h : B) : if (!decide (x = x)) = true then A else B := by rw [if_neg (by rw [decide_eq_true rfl]; decide)]; exact h
theorem strNe {a b : Str} (h : a ≠ b) : V.str a ≠ V.str b := fun e => h (V.str.inj e)
theorem isStrV {K : PySem.W.Frag} {H : Hp} {z : Str} {v : V} (h : IsP K H (.str z) v) : v = .str z := by cases h; rfl
theorem s_ix {K : PySem.W.Frag} {i : Nat} {n : Int} {l : List Dt} {d : Dt} {σ : L2.St} {H : Hp} {Q : VK} {x : V} (hσ : σ[i]? = some (some x)) (hd : IsP K H (.tup l) x) (ha : atI l n = some d) (h : ∀ v,IsP K H d v → Q v H) : tOp (nIxP K) (tVar i) (tC (.int n)) σ H Q := ⟨x,hσ,l,n,d,hd,rfl,ha,h⟩
theorem t_no {i : Nat} {u u' : Str} {A B : TS} {D : Ends} {σ : L2.St} {H : Hp} (hσ : σ[i]? = some (some (.str u'))) (hn : u' ≠ u) (h : B D σ H) : tIfS (tTest (tOp rEq (tVar i) (tC (.str u)))) A B D σ H := ⟨_,hσ,rfl,_,rfl,iteN (strNe hn) h⟩
theorem t_yes {i : Nat} {u : Str} {A B : TS} {D : Ends} {σ : L2.St} {H : Hp} (hσ : σ[i]? = some (some (.str u))) (h : A D σ H) : tIfS (tTest (tOp rEq (tVar i) (tC (.str u)))) A B D σ H := ⟨_,hσ,rfl,_,rfl,iteY h⟩
theorem if_no {K : PySem.W.Frag} {i : Nat} {u u' : Str} {l : List Dt} {A B : TS} {D : Ends} {σ : L2.St} {H : Hp} {x : V} (hσ : σ[i]? = some (some x)) (hd : IsP K H (.tup (.str u' :: l)) x) (hn : u' ≠ u) (h : B D σ H) :
  tIfS (tTest (tOp rEq (tOp (nIxP K) (tVar i) (tC (.int 0))) (tC (.str u)))) A B D σ H :=
 ⟨x,hσ,_,_,_,hd,rfl,atI_nat (j := 0) rfl,fun v hv => by obtain rfl := isStrV hv; exact ⟨rfl,_,rfl,iteN (strNe hn) h⟩⟩
theorem if_yes {K : PySem.W.Frag} {i : Nat} {u : Str} {l : List Dt} {A B : TS} {D : Ends} {σ : L2.St} {H : Hp} {x : V} (hσ : σ[i]? = some (some x)) (hd : IsP K H (.tup (.str u :: l)) x) (h : A D σ H) :
  tIfS (tTest (tOp rEq (tOp (nIxP K) (tVar i) (tC (.int 0))) (tC (.str u)))) A B D σ H :=
 ⟨x,hσ,_,_,_,hd,rfl,atI_nat (j := 0) rfl,fun v hv => by obtain rfl := isStrV hv; exact ⟨rfl,_,rfl,iteY h⟩⟩
noncomputable def okC (c : Nat) : Bool := decide (32 ≤ c) && decide (c ≤ 126) && !decide (c = 34) && !decide (c = 37)
noncomputable def okT (z : Str) : Prop := ∀ c ∈ z.cps.toList,okC c = true
theorem str_app (a b : Str) : (a ++ b).cps.toList = a.cps.toList ++ b.cps.toList := Array.toList_append
theorem join_mem {c : Nat} : ∀ {zs : List Str},c ∈ (Str.join (Str.ofString "") zs).cps.toList → ∃ z ∈ zs,c ∈ z.cps.toList
 | [],h => by
  have h' : c ∈ ([] : List Nat) := h
  cases h'
 | [x],h => ⟨x,List.mem_cons_self,h⟩
 | x :: y :: r,h => by
  have h' : c ∈ (x ++ Str.ofString "" ++ Str.join (Str.ofString "") (y :: r)).cps.toList := h
  rw [str_app,str_app] at h'
  rcases List.mem_append.mp h' with h1 | h1
  ·rcases List.mem_append.mp h1 with h2 | h2
   ·exact ⟨x,List.mem_cons_self,h2⟩
   ·have h3 : c ∈ ([] : List Nat) := h2
    cases h3
  ·obtain ⟨z,hz,hc⟩ := join_mem h1
   exact ⟨z,List.mem_cons_of_mem _ hz,hc⟩
theorem join_okT {zs : List Str} (h : ∀ z ∈ zs,okT z) : okT (Txt.join (Str.ofString "") zs) := by
 intro c hc
 have hc' : c ∈ (Builtin.Str.glued (Str.ofString "") zs).cps.toList := hc
 rw [StrLaws.glued_eq_join] at hc'
 obtain ⟨z,hz,h1⟩ := join_mem hc'
 exact h z hz c h1
noncomputable abbrev signsL : Str := "ab Z09-,.:;/()[]{}'!~"
theorem signs_ok : ∀ c ∈ signsL.cps.toList,okC c = true := by decide +kernel
theorem signs_len : signsL.length = 21 := by decide +kernel
theorem pickC {z : Str} {d : Int} (h0 : 0 ≤ d) (h1 : d < (z.length : Int)) : ∃ c,c ∈ z.cps.toList ∧ atI z.cps.toList d = some c := pick (xs := z.cps.toList) (d := d) h0 (by simpa [Str.length] using h1)
inductive I_sp_law_text    (vs : List V) (H : Hp) (Q : VK) : Prop
 | mk (r : Addr) (c i : Int) : (vs = [.ref r,.int i]) → (H r = some (.lst [.int c])) → (0 ≤ i) → (i ≤ 60) → (∀ z c' H',But r H H' → H' r = some (.lst [.int c']) → (z.length : Int) ≤ i → okT z → Q (.str z) H') → I_sp_law_text  vs H Q
noncomputable def sp_law_text (_ : PySem.W.Frag) (_ : Ads)  : Sp := fun vs H Q _ => I_sp_law_text  vs H Q
theorem ok_law_text (T : Tx K mg ad) {f : Addr} {fd : FuncData} (F : Gn K mg "_law_text" s_law_text ["row","most"] f fd) : FnOk P w K mg base CX0 2 f fd ["row","most"] (sp_law_text K ad) := by
 obtain ⟨f_law_digit,fd_law_digit,D_law_digit⟩ := T.law_digit
 have G_law_digit := ok_law_digit (P := P) (w := w) (base := base) T D_law_digit
 refine F.F.ok sc_law_text (fun vs H Q E h => ?_) (fun cdv A outer s H vs Q E hr h => ?_)
 ·obtain ⟨r,c,i,rfl,_⟩ := h
  rfl
 obtain ⟨r,c,i,rfl,hr0,h1,h2,q⟩ := h
 refine ⟨_,(@pss_cons _ _ _ _ _ (@ps_set _ _ 2 _ _ _ _ sc_law_text.nd rfl (Or.inr rfl) pe_str (by rfl) (by first | exact .inl rfl | exact .inr rfl | assumption)) (@pss_one _ _ _ (@ps_ret _ _ _ _ (pe_bm PySem.F.plainAttrs_str PySem.F.slot_str_join PySem.F.type_str_join mt_join1 pe_str (@pa_cons _ _ _ _ _ (pe_comp rfl (csR (sc := defScope s_law_text) (NL := ["k"]) (N := ["row","most","signs"]) (ρ := [0,2]) (N' := ["k","row","signs"]) rfl rfl rfl (by decide +kernel) (by decide +kernel) (by decide +kernel) rfl (by decide +kernel)) (pi_range1 rfl T.z_range (@pa_cons _ _ _ _ _ (pe_call G_law_digit (hr.mono (by first | decide | lia)) rfl D_law_digit.m D_law_digit.F.kp D_law_digit.b .nil pass0 (@pa_cons _ _ _ _ _ (pv 0) (@pa_cons _ _ _ _ _ (@pe_op _ _ _ _ _ _ _ _ op_add (pv 1) pe_int) pa_nil (by rfl)) (by rfl))) pa_nil (by rfl))) (fun _ _ _ _ => (pg_name (i := 0) (show List.Nodup (α := Str) ["k","row","signs"] by decide +kernel) rfl (Or.inl rfl))) (fun _ _ _ _ => (@pe_ix _ _ _ _ _ _ _ ix_str (pv 2) (pe_call G_law_digit (hr.mono (by first | decide | lia)) rfl D_law_digit.m D_law_digit.F.kp D_law_digit.b .nil pass0 (@pa_cons _ _ _ _ _ (pv 1) (@pa_cons _ _ _ _ _ (pe_callB call_len_str rfl T.z_len PySem.boot_len (@pa_cons _ _ _ _ _ (pv 2) pa_nil (by rfl))) pa_nil (by rfl)) (by rfl))) (fun _ _ => rfl)))) pa_nil (by rfl)))))),?_⟩
 obtain ⟨d0,d1⟩ := mod_lt c (m := i + 1) (by lia)
 refine ⟨rfl,_,rfl,_,rfl,_,_,rfl,rfl,r,c,_,rfl,hr0,by lia,by lia,_,rfl,by lia,by lia,fun l hln => ?_⟩
 have b0 : But r H (upd H r (.lst [.int (c / (i + 1))])) := But.put
 have nlr : r ≠ l := ne_of_none upd_same hln
 have lH : H l = none := by rw [upd_ne nlr.symm] at hln; exact hln
 refine comp_rangeR (lo := 0) (n := (c % (i + 1)).toNat) (fun j ys σ H' => ∃ (zs : List Str) (c' : Int),But r H H' ∧ H' r = some (.lst [.int c']) ∧ H' l = some (.lst ys) ∧ ys = zs.map V.str ∧ (∀ z ∈ zs,z.length = 1 ∧ okT z) ∧ zs.length = j ∧ ∃ v1,σ = [v1,some (.ref r),some (.str signsL)])
  ⟨[],_,b0.trans (But.same (same_new hln _)),(by rw [upd_ne nlr]; exact upd_same),upd_same,rfl,(by intro z hz; cases hz),rfl,none,rfl⟩ ?_ ?_
 ·rintro j ys σ H1 N hj ⟨zs,c',b1,e1,e2,rfl,hz,hle,v1,rfl⟩ next
  obtain ⟨g0,g1⟩ := mod_lt c' (m := ((signsL.length : Nat) : Int)) (by rw [signs_len]; decide)
  refine goal_name fun gg hgg => ?_
  obtain ⟨ch,hm,hc⟩ := pickC (z := signsL) g0 g1
  refine hgg ?_
  clear hgg gg
  refine ⟨_,rfl,_,rfl,_,rfl,_,rfl,(by decide +kernel),r,c',_,rfl,e1,by rw [signs_len]; decide,by rw [signs_len]; decide,_,_,_,rfl,rfl,(by decide +kernel),hc,?_⟩
  have e3 : (upd H1 r (.lst [.int (c' / ((signsL.length : Nat) : Int))])) l = some (.lst (zs.map V.str)) := by rw [upd_ne nlr.symm]; exact e2
  refine ⟨e3,(by rw [List.length_map]; exact small1000 (by lia)),next _ _ _ ⟨zs ++ [⟨#[ch]⟩],_,fun x o nx ex => ?_,(by rw [upd_ne nlr]; exact upd_same),upd_same,(by rw [List.map_append]; rfl),fun z hz' => ?_,(by rw [List.length_append,hle]; rfl),_,rfl⟩⟩
  ·rw [upd_ne (ne_of_none ex lH),upd_ne nx]
   exact b1 x o nx ex
  ·rcases List.mem_append.mp hz' with h3 | h3
   ·exact hz z h3
   ·obtain rfl := List.mem_singleton.mp h3
    refine ⟨rfl,fun c hc' => ?_⟩
    obtain rfl : c = ch := by simpa using hc'
    exact signs_ok c hm
 ·intro ys σ H1 hI9
  refine goal_name fun gg hgg => ?_
  obtain ⟨zs,c',b1,e1,e2,rfl,hz,hle,v1,rfl⟩ := hI9
  refine hgg ?_
  clear hgg gg
  refine ⟨l,zs,rfl,rfl,SqL.of e2,fun z h => (hz z h).1,by lia,?_⟩
  refine q _ c' H1 b1 e1 ?_ (join_okT fun z h => (hz z h).2)
  rw [PySem.W.KT.join_ones zs fun z h => (hz z h).1]
  lia
noncomputable def KeysFor (d : Dt) (ks : List Key) : Prop := (∃ (i j : Int) (ns : List Int),d = .tup [.str "number",.int i,.int j] ∧ ks = ns.map Sum.inl ∧ ns.Pairwise (· < ·) ∧ ∀ n ∈ ns,i ≤ n ∧ n ≤ j) ∨
 (∃ (i : Int) (ss : List Str),d = .tup [.str "text",.int i] ∧ ks = ss.map Sum.inr ∧ ss.Pairwise ltS ∧ ∀ z ∈ ss,((z : Str).length : Int) ≤ i ∧ okT z)
noncomputable def KeyFK (d : Dt) : Prop := (∃ i j : Int,d = .tup [.str "number",.int i,.int j] ∧ -1000000000000000000000000000000 ≤ i ∧ i ≤ j ∧ j ≤ 1000000000000000000000000000000) ∨ ∃ i : Int,d = .tup [.str "text",.int i] ∧ 0 ≤ i ∧ i ≤ 60
inductive I_sp_law_keys (K : PySem.W.Frag)   (vs : List V) (H : Hp) (Q : VK) : Prop
 | mk (r : Addr) (c : Int) (d : Dt) (x : V) : (vs = [.ref r,x]) → (H r = some (.lst [.int c])) → (IsP K H d x) → (KeyFK d) → (∀ p ks c' H',But r H H' → H p = none → H' r = some (.lst [.int c']) → H' p = some (.lst (ks.map kV)) → ks.length ≤ 8 → KeysFor d ks → Q (.ref p) H') → I_sp_law_keys K vs H Q
noncomputable def sp_law_keys (K : PySem.W.Frag) (_ : Ads)  : Sp := fun vs H Q _ => I_sp_law_keys K vs H Q
theorem isIntV {K : PySem.W.Frag} {H : Hp} {i : Int} {v : V} (h : IsP K H (.int i) v) : v = .int i := by cases h; rfl
noncomputable abbrev keys8 : List Str := [""," ","-","0","A","a","b","~"]
theorem keys8_ok : keys8.Pairwise ltS ∧ ∀ z ∈ keys8,z.length ≤ 1 ∧ okT z := by
 refine ⟨by decide +kernel,?_⟩
 have : ∀ z ∈ keys8,z.length ≤ 1 ∧ ∀ c ∈ z.cps.toList,okC c = true := by decide +kernel
 exact this
theorem cut_to (xs : List V) (m : Int) (h0 : 0 ≤ m) : L2.cutV xs none (some m) = xs.take m.toNat := by
 have e1 : HT.sIx xs.length 0 none = 0 := HT.sIx_none _ _
 have e2 : HT.sIx xs.length xs.length (some m) = min m.toNat xs.length := by
  have := HT.sIx_nat xs.length xs.length m.toNat
  rw [show ((m.toNat : Nat) : Int) = m by lia] at this
  exact this
 unfold L2.cutV
 rw [e1,e2,List.drop_zero,Nat.sub_zero]
 rcases Nat.le_total m.toNat xs.length with h | h
 ·rw [Nat.min_eq_left h]
 ·rw [Nat.min_eq_right h,List.take_length,List.take_of_length_le h]
theorem ok_law_keys (T : Tx K mg ad) {f : Addr} {fd : FuncData} (F : Gn K mg "_law_keys" s_law_keys ["row","kind"] f fd) : FnOk P w K mg base CX0 2 f fd ["row","kind"] (sp_law_keys K ad) := by
 obtain ⟨f_law_digit,fd_law_digit,D_law_digit⟩ := T.law_digit
 have G_law_digit := ok_law_digit (P := P) (w := w) (base := base) T D_law_digit
 refine F.F.ok sc_law_keys (fun vs H Q E h => ?_) (fun cdv A outer s H vs Q E hr h => ?_)
 ·obtain ⟨r,c,d,x,rfl,_⟩ := h
  rfl
 obtain ⟨r,c,d,x,rfl,hr0,hd,kf,q⟩ := h
 refine ⟨_,(@pss_cons _ _ _ _ _ (@ps_set _ _ 2 _ _ _ _ sc_law_keys.nd rfl (Or.inl rfl) (pe_call G_law_digit (hr.mono (by first | decide | lia)) rfl D_law_digit.m D_law_digit.F.kp D_law_digit.b .nil pass0 (@pa_cons _ _ _ _ _ (pv 0) (@pa_cons _ _ _ _ _ pe_int pa_nil (by rfl)) (by rfl))) (by rfl) (by first | exact .inl rfl | exact .inr rfl | assumption)) (@pss_cons _ _ _ _ _ (@ps_if _ _ _ _ _ _ _ _ (pt_cmpR op_eq (@pe_ix _ _ _ _ _ _ _ (ix_tupPN (K := K) rfl) (pv 1) pe_int (fun _ _ => rfl)) pe_str (nomark _)) (@pss_cons _ _ _ _ _ (@ps_set _ _ 3 _ _ _ _ sc_law_keys.nd rfl (Or.inr rfl) (@pe_op _ _ _ _ _ _ _ _ op_add (@pe_ix _ _ _ _ _ _ _ (ix_tupPN (K := K) rfl) (pv 1) pe_int (fun _ _ => rfl)) (pe_call G_law_digit (hr.mono (by first | decide | lia)) rfl D_law_digit.m D_law_digit.F.kp D_law_digit.b .nil pass0 (@pa_cons _ _ _ _ _ (pv 0) (@pa_cons _ _ _ _ _ (@pe_op _ _ _ _ _ _ _ _ op_add (@pe_op _ _ _ _ _ _ _ _ op_sub (@pe_ix _ _ _ _ _ _ _ (ix_tupPN (K := K) rfl) (pv 1) pe_int (fun _ _ => rfl)) (@pe_ix _ _ _ _ _ _ _ (ix_tupPN (K := K) rfl) (pv 1) pe_int (fun _ _ => rfl))) pe_int) pa_nil (by rfl)) (by rfl)))) (by rfl) (by first | exact .inl rfl | exact .inr rfl | assumption)) (@pss_one _ _ _ (@ps_ret _ _ _ _ (pe_compIf rfl (csR (sc := defScope s_law_keys) (NL := ["k"]) (N := ["row","kind","many","start"]) (ρ := [1,3]) (N' := ["k","kind","start"]) rfl rfl rfl (by decide +kernel) (by decide +kernel) (by decide +kernel) rfl (by decide +kernel)) (pi_range1 rfl T.z_range (@pa_cons _ _ _ _ _ (pv 2) pa_nil (by rfl))) (fun _ _ _ _ => (pg_name (i := 0) (show List.Nodup (α := Str) ["k","kind","start"] by decide +kernel) rfl (Or.inl rfl))) (fun _ _ _ _ => (pt_cmpR op_le (@pe_op _ _ _ _ _ _ _ _ op_add (pv 2) (pv 0)) (@pe_ix _ _ _ _ _ _ _ (ix_tupPN (K := K) rfl) (pv 1) pe_int (fun _ _ => rfl)) (nomark _))) (fun _ _ _ _ => (@pe_op _ _ _ _ _ _ _ _ op_add (pv 2) (pv 0))))))) pss_nil) (@pss_cons _ _ _ _ _ (@ps_if _ _ _ _ _ _ _ _ (pt_cmpR op_eq (@pe_ix _ _ _ _ _ _ _ (ix_tupPN (K := K) rfl) (pv 1) pe_int (fun _ _ => rfl)) pe_int (nomark _)) (@pss_one _ _ _ (@ps_ret _ _ _ _ (pe_slice (sl_listN (K := K) rfl) (@pe_lst _ _ _ _ (@pa_cons _ _ _ _ _ pe_str pa_nil (by rfl))) po_none (po_some (pv 2))))) pss_nil) (@pss_one _ _ _ (@ps_ret _ _ _ _ (pe_slice (sl_listN (K := K) rfl) (@pe_lst _ _ _ _ (@pa_cons _ _ _ _ _ pe_str (@pa_cons _ _ _ _ _ pe_str (@pa_cons _ _ _ _ _ pe_str (@pa_cons _ _ _ _ _ pe_str (@pa_cons _ _ _ _ _ pe_str (@pa_cons _ _ _ _ _ pe_str (@pa_cons _ _ _ _ _ pe_str (@pa_cons _ _ _ _ _ pe_str pa_nil (by rfl)) (by rfl)) (by rfl)) (by rfl)) (by rfl)) (by rfl)) (by rfl)) (by rfl))) po_none (po_some (pv 2)))))))),?_⟩
 obtain ⟨d0,d1⟩ := mod_lt c (m := 9) (by decide)
 refine ⟨_,rfl,r,c,9,rfl,hr0,by decide,by decide,?_⟩
 have b0 : But r H (upd H r (.lst [.int (c / 9)])) := But.put
 have hd1 := hd.but hr0 b0
 have r1 : (upd H r (.lst [.int (c / 9)])) r = some (.lst [.int (c / 9)]) := upd_same
 generalize upd H r (.lst [.int (c / 9)]) = H1 at b0 hd1 r1 ⊢
 have free : ∀ {l : Addr} {Hx : Hp},But r H Hx → r ≠ l → Hx l = none → H l = none := fun {l Hx} B n e => by
  cases e' : H l with
  | none => rfl
  | some o => rw [B l o n.symm e'] at e; cases e
 rcases kf with ⟨i,j,rfl,k1,k2,k3⟩ | ⟨i,rfl,k1,k2⟩
 ·refine ⟨_,rfl,_,_,_,hd1,rfl,rfl,fun v hv => ?_⟩
  obtain rfl := isStrV hv
  refine ⟨rfl,_,rfl,iteY ?_⟩
  refine s_ix rfl hd1 rfl fun v hv => ?_
  obtain rfl := isIntV hv
  refine ⟨_,rfl,_,rfl,_,_,_,hd1,rfl,rfl,fun v hv => ?_⟩
  obtain rfl := isIntV hv
  refine s_ix rfl hd1 rfl fun v hv => ?_
  obtain rfl := isIntV hv
  obtain ⟨s0,s1⟩ := mod_lt (c / 9) (m := j - i + 1) (by lia)
  refine ⟨_,_,rfl,rfl,_,_,rfl,rfl,r,c / 9,_,rfl,r1,by lia,by lia,_,_,rfl,rfl,?_⟩
  have b2 : But r H1 (upd H1 r (.lst [.int (c / 9 / (j - i + 1))])) := But.put
  have r2 : (upd H1 r (.lst [.int (c / 9 / (j - i + 1))])) r = some (.lst [.int (c / 9 / (j - i + 1))]) := upd_same
  have hd2 := hd1.but r1 b2
  generalize upd H1 r (.lst [.int (c / 9 / (j - i + 1))]) = H2 at b2 r2 hd2 ⊢
  refine ⟨_,rfl,_,rfl,by lia,by lia,fun l hln => ?_⟩
  have nlr : r ≠ l := ne_of_none r2 hln
  have lH : H l = none := free (b0.trans b2) nlr hln
  generalize hst : i + c / 9 % (j - i + 1) = st
  have st1 : i ≤ st ∧ st ≤ j := by lia
  refine comp_rangeR (lo := 0) (n := (c % 9).toNat) (fun t ys σ H' => ∃ ns : List Int,But r H H' ∧ H' r = some (.lst [.int (c / 9 / (j - i + 1))]) ∧ H' l = some (.lst ys) ∧ ys = ns.map V.int ∧ ns.Pairwise (· < ·) ∧ (∀ n ∈ ns,i ≤ n ∧ n ≤ j ∧ n < st + t) ∧ ns.length ≤ t ∧ ∃ v1,σ = [v1,some x,some (.int st)])
   ⟨[],(b0.trans b2).trans (But.same (same_new hln _)),(by rw [upd_ne nlr]; exact r2),upd_same,rfl,.nil,(by intro n hn; cases hn),Nat.le_refl _,none,(by rw [← hst]; rfl)⟩ ?_ ?_
  ·rintro t ys σ H3 N ht ⟨ns,b3,e3,e4,rfl,pw,bd,hle,v1,rfl⟩ next
   have hd3 := hd.but hr0 b3
   refine ⟨_,rfl,_,rfl,_,_,rfl,rfl,_,rfl,_,_,_,hd3,rfl,rfl,fun v hv => ?_⟩
   obtain rfl := isIntV hv
   refine ⟨_,_,rfl,rfl,_,rfl,?_⟩
   refine ite2 (fun c1 => ?_) (fun c1 => ?_)
   ·have c1' : st + (0 + (t : Int)) ≤ j := of_decide_eq_true c1
    refine ⟨_,rfl,_,rfl,_,_,rfl,rfl,e4,(by rw [List.length_map]; exact small1000 (by lia)),next _ _ _ ⟨ns ++ [st + (0 + (t : Int))],fun y o ny ey => ?_,(by rw [upd_ne nlr]; exact e3),upd_same,(by rw [List.map_append]; rfl),?_,fun n hn => ?_,?_,_,rfl⟩⟩
    ·rw [upd_ne (ne_of_none ey lH)]
     exact b3 y o ny ey
    ·refine List.pairwise_append.mpr ⟨pw,List.pairwise_singleton _ _,fun a ha b hb => ?_⟩
     obtain rfl := List.mem_singleton.mp hb
     have := bd a ha
     lia
    ·rcases List.mem_append.mp hn with h1 | h1
     ·have := bd n h1
      refine ⟨this.1,this.2.1,?_⟩
      push_cast
      lia
     ·obtain rfl := List.mem_singleton.mp h1
      refine ⟨by lia,c1',?_⟩
      push_cast
      lia
    ·rw [List.length_append]
     simp only [List.length_cons,List.length_nil]
     lia
   ·refine next _ _ _ ⟨ns,b3,e3,e4,rfl,pw,fun n hn => ?_,by lia,_,rfl⟩
    have := bd n hn
    refine ⟨this.1,this.2.1,?_⟩
    push_cast
    lia
  ·intro ys σ H3 hI9
   refine goal_name fun gg hgg => ?_
   obtain ⟨ns,b3,e3,e4,rfl,pw,bd,hle,v1,rfl⟩ := hI9
   refine hgg ?_
   clear hgg gg
   refine q l (ns.map Sum.inl) _ H3 b3 lH e3 ?_ ?_ (.inl ⟨i,j,ns,rfl,rfl,pw,fun n hn => ⟨(bd n hn).1,(bd n hn).2.1⟩⟩)
   ·rw [List.map_map]
    exact e4
   ·rw [List.length_map]
    lia
 ·refine ⟨_,rfl,_,_,_,hd1,rfl,rfl,fun v hv => ?_⟩
  obtain rfl := isStrV hv
  refine ⟨rfl,_,rfl,iteN (strNe (by decide)) ?_⟩
  refine s_ix rfl hd1 rfl fun v hv => ?_
  obtain rfl := isIntV hv
  refine ⟨rfl,_,rfl,ite2 (fun c1 => ?_) (fun c1 => ?_)⟩
  ·refine ⟨(by show 1 ≤ sizeLine; decide),fun p hp => ⟨_,rfl,_,rfl,p,[V.str ""],rfl,SqL.of upd_same,fun p2 hp2 => ?_⟩⟩
   have g2 := same_new hp (.lst [V.str ""])
   have nr2 : r ≠ p2 := ne_of_none (g2 _ _ r1) hp2
   rw [cut_to _ _ d0]
   refine q p2 ((([("" : Str)]).take (c % 9).toNat).map Sum.inr) _ _ ((b0.trans (But.same g2)).trans (But.same (same_new hp2 _))) (free (b0.trans (But.same g2)) nr2 hp2) (by rw [upd_ne nr2]; exact g2 _ _ r1) ?_ ?_ (.inr ⟨i,_,rfl,rfl,?_,fun z hz => ?_⟩)
   ·rw [upd_same,List.map_map,List.map_take]
    rfl
   ·rw [List.length_map,List.length_take]
    exact Nat.le_trans (Nat.min_le_right _ _) (by decide)
   ·exact (List.pairwise_singleton ltS ("" : Str)).sublist (List.take_sublist _ _)
   ·obtain rfl := List.mem_singleton.mp (List.mem_of_mem_take hz)
    exact ⟨by show (0 : Int) ≤ i; exact k1,fun c hc => by cases (show c ∈ ([] : List Nat) from hc)⟩
  ·refine ⟨(by show 8 ≤ sizeLine; decide),fun p hp => ⟨_,rfl,_,rfl,p,keys8.map V.str,rfl,SqL.of upd_same,fun p2 hp2 => ?_⟩⟩
   have g2 := same_new hp (.lst (keys8.map V.str))
   have nr2 : r ≠ p2 := ne_of_none (g2 _ _ r1) hp2
   have i1 : 1 ≤ i := by
    have : ¬ i = 0 := fun e => c1 (decide_eq_true (by rw [e]))
    lia
   rw [cut_to _ _ d0]
   refine q p2 ((keys8.take (c % 9).toNat).map Sum.inr) _ _ ((b0.trans (But.same g2)).trans (But.same (same_new hp2 _))) (free (b0.trans (But.same g2)) nr2 hp2) (by rw [upd_ne nr2]; exact g2 _ _ r1) ?_ ?_ (.inr ⟨i,_,rfl,rfl,keys8_ok.1.sublist (List.take_sublist _ _),fun z hz => ?_⟩)
   ·rw [upd_same,List.map_map,← List.map_take]
    rfl
   ·rw [List.length_map,List.length_take]
    exact Nat.le_trans (Nat.min_le_right _ _) (by decide)
   ·obtain ⟨z1,z2⟩ := keys8_ok.2 z (List.mem_of_mem_take hz)
    exact ⟨by lia,z2⟩
noncomputable def lookD : List Dt → Str → Option Dt
 | .tup [.str n,k] :: r,z => if n = z then some k else lookD r z
 | _,_ => none
theorem lookD_map (z : Str) : ∀ fs : List (Str × Dt),lookD (fs.map prD) z = lookS fs z
 | [] => rfl
 | (n,k) :: fs => by
  show (if n = z then some k else lookD (fs.map prD) z) = _
  rw [lookD_map z fs]
  by_cases h : n = z <;> simp [lookS,h]
noncomputable def keyD (v : Dt) (z : Str) : Dt := match v with
 | .tup [_,.tup l] => (lookD l z).getD .non
 | _ => .non
noncomputable def kD : Key → Dt
 | .inl i => .int i
 | .inr z => .str z
noncomputable def Asc (l : List Dt) : Prop := (∃ ns : List Int,l = ns.map Dt.int ∧ ns.Pairwise (· < ·)) ∨ ∃ ss : List Str,l = ss.map Dt.str ∧ ss.Pairwise ltS
inductive FV : Dt → Dt → Prop
 | number {i j x : Int} : i ≤ x → x ≤ j → FV (.tup [.str "number",.int i,.int j]) (.int x)
 | text {i : Int} {z : Str} : (z.length : Int) ≤ i → okT z → FV (.tup [.str "text",.int i]) (.str z)
 | choice {ws : List Str} {z : Str} : z ∈ ws → FV (.tup [.str "choice",.tup (ws.map Dt.str)]) (.str z)
 | list {k : Dt} {i : Int} {vs : List Dt} : (∀ v ∈ vs,FV k v) → (vs.length : Int) ≤ i → FV (.tup [.str "list",k,.int i]) (.tup [.str "list",.tup vs])
 | rows {k : Dt} {z : Str} {i : Int} {vs : List Dt} : (∀ v ∈ vs,FV k v) → (vs.length : Int) ≤ i → Asc (vs.map fun v => keyD v z) → FV (.tup [.str "rows",.str z,k,.int i]) (.tup [.str "rows",.tup vs])
 | rcd {fs gs : List (Str × Dt)} : gs.map (·.1) = fs.map (·.1) → (∀ (i : Nat) (f g : Str × Dt),fs[i]? = some f → gs[i]? = some g → FV f.2 g.2) → FV (.tup [.str "record",.tup (fs.map prD)]) (.tup [.str "record",.tup (gs.map prD)])
mutual
theorem isP_butD {K : PySem.W.Frag} {H H' : Hp} {p : Addr} {kvs : List (Key × V)} (hp : H p = some (.dK kvs)) (g : But p H H') : ∀ {d : Dt} {v : V},IsP K H d v → IsP K H' d v
 | _,_,.non => .non
 | _,_,.bl => .bl
 | _,_,.int => .int
 | _,_,.str => .str
 | _,_,.tup h pl q => .tup (g.tup (by obtain ⟨o,u,e,dn⟩ := pl; exact ne_of e hp (by intro c; cases c)) h) (by
   obtain ⟨o,u,e,dn⟩ := pl
   exact ⟨o,u,g _ _ (ne_of e hp (by intro c; cases c)) e,dn⟩) (isPs_butD hp g q)
theorem isPs_butD {K : PySem.W.Frag} {H H' : Hp} {p : Addr} {kvs : List (Key × V)} (hp : H p = some (.dK kvs)) (g : But p H H') : ∀ {l : List Dt} {xs : List V},IsPs K H l xs → IsPs K H' l xs
 | _,_,.nil => .nil
 | _,_,.cons h q => .cons (isP_butD hp g h) (isPs_butD hp g q)
end
inductive I_svalue (K : PySem.W.Frag) (n : Nat)  (vs : List V) (H : Hp) (Q : VK) : Prop
 | mk (r : Addr) (c : Int) (a ct : Nat) (d : Dt) (x : V) : (a ≤ n) → (vs = [.ref r,x]) → (H r = some (.lst [.int c])) → (IsP K H d x) → (FK a ct d) → (∀ (v : V) (e : Dt) (c' : Int) (H' : Hp),But r H H' → H' r = some (.lst [.int c']) → IsP K H' e v → FV d e → Q v H') → I_svalue K n vs H Q
noncomputable def svalue (K : PySem.W.Frag) (n : Nat)  : Sp := fun vs H Q _ => I_svalue K n vs H Q
inductive I_srowv (K : PySem.W.Frag) (n : Nat)  (vs : List V) (H : Hp) (Q : VK) : Prop
 | mk (r : Addr) (c i : Int) (z : Str) (fs : List (Str × Dt)) (kk : Dt) (x : V) : (vs = [.ref r,x]) → (H r = some (.lst [.int c])) → (IsP K H (.tup [.str "rows",.str z,.tup [.str "record",.tup (fs.map prD)],.int i]) x) → ((∀ f ∈ fs,∃ a ct,a ≤ n ∧ FK a ct f.2)) → ((fs.map (·.1)).Pairwise ltS) → (fs.length ≤ 8) → (lookS fs z = some kk) → (KeyFK kk) → (0 ≤ i) → (i ≤ 8) → (∀ (v : V) (vs' : List Dt) (c' : Int) (H' : Hp),But r H H' → H' r = some (.lst [.int c']) → IsP K H' (.tup [.str "rows",.tup vs']) v → FV (.tup [.str "rows",.str z,.tup [.str "record",.tup (fs.map prD)],.int i]) (.tup [.str "rows",.tup vs']) → Q v H') → I_srowv K n vs H Q
noncomputable def srowv (K : PySem.W.Frag) (n : Nat)  : Sp := fun vs H Q _ => I_srowv K n vs H Q
theorem asc_perm : ∀ {a b : List Str},a.Pairwise ltS → b.Pairwise ltS → a.Perm b → a = b
 | [],b,_,_,h => (List.nil_perm.mp h).symm
 | x :: a,[],_,_,h => absurd (List.perm_nil.mp h) (by simp)
 | x :: a,y :: b,ha,hb,h => by
  have ha' := List.pairwise_cons.mp ha
  have hb' := List.pairwise_cons.mp hb
  have e : x = y := by
   rcases List.mem_cons.mp (h.mem_iff.mp (List.mem_cons_self : x ∈ x :: a)) with e | hx
   ·exact e
   ·rcases List.mem_cons.mp (h.mem_iff.mpr (List.mem_cons_self : y ∈ y :: b)) with e | hy
    ·exact e.symm
    ·exact absurd (List.lt_trans (hb'.1 x hx) (ha'.1 y hy)) (List.lt_irrefl _)
  subst e
  rw [asc_perm ha'.2 hb'.2 (List.Perm.cons_inv h)]
theorem look_at' {z : Str} {v : Dt} : ∀ {fs : List (Str × Dt)} {i : Nat},(fs.map (·.1)).Nodup → fs[i]? = some (z,v) → lookS fs z = some v
 | [],i,_,h => by simp at h
 | f :: fs,0,nd,h => by
  obtain rfl : f = (z,v) := by simpa using h
  simp [lookS]
 | f :: fs,i + 1,nd,h => by
  have nd' := List.nodup_cons.mp (show (f.1 :: fs.map (·.1)).Nodup from nd)
  have h2 : fs[i]? = some (z,v) := by simpa using h
  have hz : ¬ f.1 = z := fun c => nd'.1 (List.mem_map.mpr ⟨(z,v),List.mem_of_getElem? h2,c.symm⟩)
  rw [← look_at' nd'.2 h2]
  simp [lookS,hz]
theorem fk_head {a c : Nat} {d : Dt} (h : FK a c d) : ∃ w rest,d = .tup (.str w :: rest) := by
 cases h <;> exact ⟨_,_,rfl⟩
theorem keysFor_fv {d : Dt} {ks : List Key} {k : Key} (h : KeysFor d ks) (hk : k ∈ ks) : FV d (kD k) := by
 rcases h with ⟨i,j,ns,rfl,rfl,_,b⟩ | ⟨i,ss,rfl,rfl,_,b⟩
 ·obtain ⟨n,hn,rfl⟩ := List.mem_map.mp hk
  exact .number (b n hn).1 (b n hn).2
 ·obtain ⟨s,hs,rfl⟩ := List.mem_map.mp hk
  exact .text (b s hs).1 (b s hs).2
theorem keysFor_asc {d : Dt} {ks : List Key} (h : KeysFor d ks) (t : Nat) : Asc ((ks.take t).map kD) := by
 rcases h with ⟨i,j,ns,rfl,rfl,pw,_⟩ | ⟨i,ss,rfl,rfl,pw,_⟩
 ·refine .inl ⟨ns.take t,?_,pw.sublist (List.take_sublist _ _)⟩
  rw [← List.map_take,List.map_map]
  rfl
 ·refine .inr ⟨ss.take t,?_,pw.sublist (List.take_sublist _ _)⟩
  rw [← List.map_take,List.map_map]
  rfl
theorem look_names {z : Str} {kk : Dt} : ∀ {fs gs : List (Str × Dt)},gs.map (·.1) = fs.map (·.1) → lookS fs z = some kk → ∃ e,lookS gs z = some e ∧ (z,e) ∈ gs
 | [],_,_,h => by simp [lookS] at h
 | f :: fs,[],e,_ => by simp at e
 | f :: fs,g :: gs,e,h => by
  have e1 : g.1 = f.1 := (List.cons.inj (show g.1 :: gs.map (·.1) = f.1 :: fs.map (·.1) from e)).1
  have e2 : gs.map (·.1) = fs.map (·.1) := (List.cons.inj (show g.1 :: gs.map (·.1) = f.1 :: fs.map (·.1) from e)).2
  by_cases hz : f.1 = z
  ·refine ⟨g.2,by simp [lookS,e1,hz],?_⟩
   have : g = (z,g.2) := by rw [← hz,← e1]
   rw [← this]
   exact List.mem_cons_self
  ·have h' : lookS (f :: fs) z = lookS fs z := by simp [lookS,hz]
   rw [h'] at h
   obtain ⟨d,h1,h2⟩ := look_names e2 h
   exact ⟨d,by rw [← h1]; simp [lookS,e1,hz],List.mem_cons_of_mem _ h2⟩
theorem ok_law_row_values (T : Tx K mg ad) {f fk : Addr} {fd fdk : FuncData} (n : Nat) (F : Gn K mg "_law_row_values" s_law_row_values ["row","kind"] f fd) (D_law_value : Gn K mg "_law_value" s_law_value ["row","kind"] fk fdk)
  (G_law_value : FnOk P w K mg base CX0 (2 * n + 3) fk fdk ["row","kind"] (svalue K n)) : FnOk P w K mg base CX0 (2 * n + 3 + 1) f fd ["row","kind"] (srowv K n) := by
 obtain ⟨f_law_keys,fd_law_keys,D_law_keys⟩ := T.law_keys
 have G_law_keys := ok_law_keys (P := P) (w := w) (base := base) T D_law_keys
 refine F.F.ok sc_law_row_values (fun vs H Q E h => ?_) (fun cdv A outer s H vs Q E hr h => ?_)
 ·obtain ⟨r,c,i,z,fs,kk,x,rfl,_⟩ := h
  rfl
 obtain ⟨r,c,i,z,fs,kk,x,rfl,hr0,hd,gk,asc,hl,lk,kf,i0,i8,q⟩ := h
 refine ⟨_,(@pss_cons _ _ _ _ _ (@ps_set _ _ 2 _ _ _ _ sc_law_row_values.nd rfl (Or.inr rfl) (pe_callTy (call_dictFN (K := K) rfl rfl) rfl T.z_dict boot_dict (@pa_cons _ _ _ _ _ (@pe_ix _ _ _ _ _ _ _ (ix_tupPN (K := K) rfl) (@pe_ix _ _ _ _ _ _ _ (ix_tupPN (K := K) rfl) (pv 1) pe_int (fun _ _ => rfl)) pe_int (fun _ _ => rfl)) pa_nil (by rfl))) (by rfl) (by first | exact .inl rfl | exact .inr rfl | assumption)) (@pss_cons _ _ _ _ _ (@ps_set _ _ 3 _ _ _ _ sc_law_row_values.nd rfl (Or.inl rfl) (@pe_lst _ _ _ _ pa_nil) (by rfl) (by first | exact .inl rfl | exact .inr rfl | assumption)) (@pss_cons _ _ _ _ _ (@ps_set _ _ 4 _ _ _ _ sc_law_row_values.nd rfl (Or.inl rfl) (@pe_ix _ _ _ _ _ _ _ (ix_tupPN (K := K) rfl) (pv 1) pe_int (fun _ _ => rfl)) (by rfl) (by first | exact .inl rfl | exact .inr rfl | assumption)) (@pss_cons _ _ _ _ _ (@ps_if _ _ _ _ _ _ _ _ (@pt_val _ _ _ (pe_callB (call_anyN (K := K) rfl rfl) rfl T.z_any boot_any (@pa_cons _ _ _ _ _ (pe_comp rfl (csR (sc := defScope s_law_row_values) (NL := ["name"]) (N := ["row","kind","fields","items","most","key","pairs","name","value"]) (ρ := [2]) (N' := ["name","fields"]) rfl rfl rfl (by decide +kernel) (by decide +kernel) (by decide +kernel) rfl (by decide +kernel)) (pi_dict (pv 2)) (fun _ _ _ _ => (pg_name (i := 0) (show List.Nodup (α := Str) ["name","fields"] by decide +kernel) rfl (Or.inl rfl))) (fun _ _ _ _ => (pe_cmpR (op_in_seqK (K := K) rfl) (@pe_ix _ _ _ _ _ _ _ (ix_tupPN (K := K) rfl) (pe_dget (u1 hr.units) (pv 1) (pv 0) (fun _ _ => rfl)) pe_int (fun _ _ => rfl)) (@pe_lst _ _ _ _ (@pa_cons _ _ _ _ _ pe_str (@pa_cons _ _ _ _ _ pe_str (@pa_cons _ _ _ _ _ pe_str pa_nil (by rfl)) (by rfl)) (by rfl))) rfl))) pa_nil (by rfl))) (by intro _; rfl)) (@pss_one _ _ _ (@ps_set _ _ 4 _ _ _ _ sc_law_row_values.nd rfl (Or.inl rfl) (pe_callB (call_min2 rfl) rfl T.z_min boot_min (@pa_cons _ _ _ _ _ (pv 4) (@pa_cons _ _ _ _ _ pe_int pa_nil (by rfl)) (by rfl))) (by rfl) (by first | exact .inl rfl | exact .inr rfl | assumption))) pss_nil) (@pss_cons _ _ _ _ _ (ps_for PassesOwn.never rfl (pi_listN (K := K) rfl (pe_slice (sl_listN (K := K) rfl) (pe_call G_law_keys (hr.mono (by first | decide | lia)) rfl D_law_keys.m D_law_keys.F.kp D_law_keys.b .nil pass0 (@pa_cons _ _ _ _ _ (pv 0) (@pa_cons _ _ _ _ _ (pe_dget (u1 hr.units) (pv 2) (@pe_ix _ _ _ _ _ _ _ (ix_tupPN (K := K) rfl) (pv 1) pe_int (fun _ _ => rfl)) (fun _ _ => rfl)) pa_nil (by rfl)) (by rfl))) po_none (po_some (pv 4)))) (pg_name (i := 5) sc_law_row_values.nd rfl (Or.inl rfl))
    (@pss_cons _ _ _ _ _ (@ps_set _ _ 6 _ _ _ _ sc_law_row_values.nd rfl (Or.inl rfl) (@pe_lst _ _ _ _ pa_nil) (by rfl) (by first | exact .inl rfl | exact .inr rfl | assumption)) (@pss_cons _ _ _ _ _ (ps_for PassesOwn.never rfl (pi_listN (K := K) rfl (pe_callB (call_sortDR rfl) rfl T.z_sorted boot_sorted (@pa_cons _ _ _ _ _ (pv 2) pa_nil (by rfl)))) (pg_name (i := 7) sc_law_row_values.nd rfl (Or.inl rfl))
    (@pss_cons _ _ _ _ _ (@ps_set _ _ 8 _ _ _ _ sc_law_row_values.nd rfl (Or.inl rfl) (pv 5) (by rfl) (by first | exact .inl rfl | exact .inr rfl | assumption)) (@pss_cons _ _ _ _ _ (@ps_if _ _ _ _ _ _ _ _ (pt_cmpR op_ne (pv 7) (@pe_ix _ _ _ _ _ _ _ (ix_tupPN (K := K) rfl) (pv 1) pe_int (fun _ _ => rfl)) (nomark _)) (@pss_one _ _ _ (@ps_set _ _ 8 _ _ _ _ sc_law_row_values.nd rfl (Or.inl rfl) (pe_call G_law_value (hr.mono (by first | decide | lia)) rfl D_law_value.m D_law_value.F.kp D_law_value.b .nil pass0 (@pa_cons _ _ _ _ _ (pv 0) (@pa_cons _ _ _ _ _ (pe_dget (u1 hr.units) (pv 2) (pv 7) (fun _ _ => rfl)) pa_nil (by rfl)) (by rfl))) (by rfl) (by first | exact .inl rfl | exact .inr rfl | assumption))) pss_nil) (@pss_one _ _ _ (@ps_expr _ _ _ _ (pe_bm PySem.F.plainAttrs_list PySem.F.slot_list_append PySem.F.type_list_append mt_append (pv 6) (@pa_cons _ _ _ _ _ (@pe_tupPK _ K _ _ _ _ rfl (@pa_cons _ _ _ _ _ (pv 7) (@pa_cons _ _ _ _ _ (pv 8) pa_nil (by rfl)) (by rfl))) pa_nil (by rfl))) (by rfl)))))) (@pss_one _ _ _ (@ps_expr _ _ _ _ (pe_bm PySem.F.plainAttrs_list PySem.F.slot_list_append PySem.F.type_list_append mt_append (pv 3) (@pa_cons _ _ _ _ _ (@pe_tupPK _ K _ _ _ _ rfl (@pa_cons _ _ _ _ _ pe_str (@pa_cons _ _ _ _ _ (pe_callTy (call_tuplePN (K := K) rfl) rfl T.z_tuple boot_tuple (@pa_cons _ _ _ _ _ (pv 6) pa_nil (by rfl))) pa_nil (by rfl)) (by rfl))) pa_nil (by rfl))) (by rfl)))))) (@pss_one _ _ _ (@ps_ret _ _ _ _ (@pe_tupPK _ K _ _ _ _ rfl (@pa_cons _ _ _ _ _ pe_str (@pa_cons _ _ _ _ _ (pe_callTy (call_tuplePN (K := K) rfl) rfl T.z_tuple boot_tuple (@pa_cons _ _ _ _ _ (pv 3) pa_nil (by rfl))) pa_nil (by rfl)) (by rfl)))))))))),?_⟩
 have nd := lt_nodup asc
 refine s_ix rfl hd rfl fun v1 hv1 => ?_
 refine ⟨_,_,_,hv1,rfl,rfl,fun v2 hv2 => ?_⟩
 refine ⟨v2,fs,rfl,hv2,nd,by lia,fun p H1 hpn g1 dq => ?_⟩
 refine goal_name fun gg hgg => ?_
 obtain ⟨kvs,ep,ek,kval⟩ := dq
 refine hgg ?_
 clear hgg gg
 have ek' : kvs.map (·.1) = (fs.map (·.1)).map (Sum.inr : Str → Key) := by rw [ek,List.map_map]; rfl
 have nrp : r ≠ p := ne_of_none hr0 hpn
 have lk8 : kvs.length = fs.length := by have := congrArg List.length ek; simpa using this
 refine ⟨(by show 0 ≤ sizeLine; decide),fun pf hpf => ?_⟩
 have g2 := same_new hpf (.lst [])
 have np : p ≠ pf := ne_of_none ep hpf
 have nrf : r ≠ pf := ne_of_none (g1 _ _ hr0) hpf
 have hd2 := (hd.same g1).same g2
 refine s_ix rfl hd2 rfl fun v hv => ?_
 obtain rfl := isIntV hv
 refine join2 (fun σ' H' => ∃ (mst : Int) (ob : Obj),σ' = [some (.ref r),some x,some (.ref p),some (.ref pf),some (.int mst),none,none,none,none] ∧ 0 ≤ mst ∧ mst ≤ i ∧ H' p = some (.frz ob (.dK kvs)) ∧ H' r = some (.lst [.int c]) ∧ H' pf = some (.lst []) ∧ IsP K H' (.tup [.str "rows",.str z,.tup [.str "record",.tup (fs.map prD)],.int i]) x ∧ (∀ w d,lookS fs w = some d → ∃ v,valV kvs (Sum.inr w : Key) = some v ∧ IsP K H' d v) ∧ Same H H') ?_ ?_
 ·intro s9_ H3 hI9
  refine goal_name fun gg hgg => ?_
  obtain ⟨mst,ob,rfl,m0,m1,eF,rF,fF,hdF,kvF,SF⟩ := hI9
  refine hgg ?_
  clear hgg gg
  have s3 := Same.refl H3
  have eP := s3 _ _ eF
  have r3 := s3 _ _ rF
  have hd3 := hdF.same s3
  refine goal_name fun gg hgg => ?_
  obtain ⟨vk,h9,hvk⟩ := kvF z kk lk
  refine hgg ?_
  clear hgg gg
  refine ⟨_,rfl,_,rfl,_,rfl,_,_,_,hd3,rfl,rfl,fun v hv => ?_⟩
  obtain rfl := isStrV hv
  refine ⟨p,vk,rfl,.inl ⟨kvs,Sum.inr z,.inr ⟨ob,eP⟩,rfl,h9.symm⟩,?_⟩
  refine ⟨r,c,kk,vk,rfl,r3,hvk.same s3,kf,fun pk ks c4 H4 b4 hpk r4 e4 l4 kfor => ?_⟩
  refine ⟨_,rfl,_,rfl,pk,_,rfl,SqL.of e4,fun p5 hp5 => ?_⟩
  rw [cut_to _ _ m0]
  have g5 := same_new hp5 (.lst ((ks.map kV).take mst.toNat))
  have e5 : (upd H4 p5 (.lst ((ks.map kV).take mst.toNat))) p5 = some (.lst ((ks.map kV).take mst.toNat)) := upd_same
  have F4 : H4 pf = some (.lst []) := b4 _ _ nrf.symm (s3 _ _ fF)
  have P4 : H4 p = some (.frz ob (.dK kvs)) := b4 _ _ nrp.symm eP
  have n5r : p5 ≠ r := (ne_of_none r4 hp5).symm
  have n5f : p5 ≠ pf := (ne_of_none F4 hp5).symm
  generalize upd H4 p5 (.lst ((ks.map kV).take mst.toNat)) = H5 at g5 e5 ⊢
  have B5 : But r H3 H5 := b4.trans (But.same g5)
  have P5 := g5 _ _ P4
  have F5 := g5 _ _ F4
  have r5 := g5 _ _ r4
  have hd5 := hd3.but r3 B5
  have kv5 : ∀ w d,lookS fs w = some d → ∃ v,valV kvs (Sum.inr w : Key) = some v ∧ IsP K H5 d v := fun w d e => by
   refine goal_name fun gg hgg => ?_
   obtain ⟨v,h1,h2⟩ := kvF w d e
   refine hgg ?_
   clear hgg gg
   exact ⟨v,h1,(h2.same s3).but r3 B5⟩
  refine ⟨p5,rfl,⟨_,SqL.of e5⟩,for_list (xs := (ks.map kV).take mst.toNat) (fun t σ H' => ∃ (its : List Dt) (ys : List V) (c' : Int) (w5 w6 w7 w8 : Option V),But2 r pf H5 H' ∧ H' r = some (.lst [.int c']) ∧ H' pf = some (.lst ys) ∧ IsPs K H' its ys ∧ (∀ v ∈ its,FV (.tup [.str "record",.tup (fs.map prD)]) v) ∧ (its.map fun v => keyD v z) = (ks.take t).map kD ∧ its.length = t ∧ σ = [some (.ref r),some x,some (.ref p),some (.ref pf),some (.int mst),w5,w6,w7,w8])
   ⟨[],[],c4,none,none,none,none,But2.refl _ _ _,r5,F5,.nil,(by intro v hv; cases hv),rfl,rfl,rfl⟩ (fun t σ H' _ pv => by
    refine goal_name fun gg hgg => ?_
    obtain ⟨_,_,_,_,_,_,_,b,_⟩ := pv
    refine hgg ?_
    clear hgg gg
    exact SqL.of (b _ _ n5r n5f e5)) ?_ ?_⟩
  ·intro t u σ H6 hu hI9
   refine goal_name fun gg hgg => ?_
   obtain ⟨its,ys,c6,w5,w6,w7,w8,b6,r6,f6,hp6,fv6,ke6,le6,rfl⟩ := hI9
   refine hgg ?_
   clear hgg gg
   have hu' : (ks.map kV)[t]? = some u := by
    rw [List.getElem?_take] at hu
    split at hu
    ·exact hu
    ·cases hu
   rw [List.getElem?_map] at hu'
   refine goal_name fun gg hgg => ?_
   obtain ⟨key,hkey,rfl⟩ := Option.map_eq_some_iff.mp hu'
   refine hgg ?_
   clear hgg gg
   have ht8 : t < ks.length := (List.getElem?_eq_some_iff.mp hkey).1
   have np6 : p ≠ pf := np
   have P6 := b6 _ _ nrp.symm np6 P5
   refine ⟨(by show 0 ≤ sizeLine; decide),fun pp hpp => ?_⟩
   have g7 := same_new hpp (.lst [])
   have rp : r ≠ pp := ne_of_none r6 hpp
   have fp : pf ≠ pp := ne_of_none f6 hpp
   refine ⟨_,rfl,p,kvs,fs.map (·.1),rfl,.inr ⟨ob,g7 _ _ P6⟩,ek',by rw [List.length_map]; lia,fun pn ss' hpn' perm srt => ?_⟩
   obtain rfl := asc_perm (sorted_pw srt (perm.nodup_iff.mpr nd)) asc perm
   have g8 := same_new hpn' (.lst ((fs.map (·.1)).map V.str))
   have e8 : (upd (upd H6 pp (.lst [])) pn (.lst ((fs.map (·.1)).map V.str))) pn = some (.lst ((fs.map (·.1)).map V.str)) := upd_same
   have npn : pn ≠ pp := fun c => by rw [c,upd_same] at hpn'; cases hpn'
   have npr : pn ≠ r := fun c => by rw [c,g7 _ _ r6] at hpn'; cases hpn'
   have pp8 : (upd (upd H6 pp (.lst [])) pn (.lst ((fs.map (·.1)).map V.str))) pp = some (.lst []) := g8 _ _ upd_same
   have S8 : Same H6 (upd (upd H6 pp (.lst [])) pn (.lst ((fs.map (·.1)).map V.str))) := g7.trans g8
   generalize upd (upd H6 pp (.lst [])) pn (.lst ((fs.map (·.1)).map V.str)) = H8 at e8 pp8 S8 g8 ⊢
   have r8 := S8 _ _ r6
   have hd8 := (is_but2 r5 F5 b6 hd5).same S8
   have kv8 : ∀ w d,lookS fs w = some d → ∃ v,valV kvs (Sum.inr w : Key) = some v ∧ IsP K H8 d v := fun w d e => by
    refine goal_name fun gg hgg => ?_
    obtain ⟨v,h1,h2⟩ := kv5 w d e
    refine hgg ?_
    clear hgg gg
    exact ⟨v,h1,(is_but2 r5 F5 b6 h2).same S8⟩
   have P8 := S8 _ _ P6
   have hkd : ∀ (H' : Hp),IsP K H' (kD key) (kV key) := fun H' => by
    cases key with
    | inl i => exact .int
    | inr s => exact .str
   have fvk : FV kk (kD key) := keysFor_fv kfor (List.mem_of_getElem? hkey)
   refine ⟨pn,rfl,⟨_,SqL.of e8⟩,for_list (xs := (fs.map (·.1)).map V.str) (fun j σ H' => ∃ (gs : List (Str × Dt)) (ys' : List V) (c' : Int) (w7 w8 : Option V),But2 r pp H8 H' ∧ H' r = some (.lst [.int c']) ∧ H' pp = some (.lst ys') ∧ IsPs K H' (gs.map prD) ys' ∧ gs.map (·.1) = (fs.take j).map (·.1) ∧ (∀ (i : Nat) (f g : Str × Dt),fs[i]? = some f → gs[i]? = some g → FV f.2 g.2) ∧ (∀ g ∈ gs,g.1 = z → g.2 = kD key) ∧ σ = [some (.ref r),some x,some (.ref p),some (.ref pf),some (.int mst),some (kV key),some (.ref pp),w7,w8])
    ⟨[],[],c6,_,_,But2.refl _ _ _,r8,pp8,.nil,rfl,(by intro i f g _ e; simp at e),(by intro g hg; cases hg),rfl⟩ (fun j σ H' _ pv => by
     refine goal_name fun gg hgg => ?_
     obtain ⟨_,_,_,_,_,b,_⟩ := pv
     refine hgg ?_
     clear hgg gg
     exact SqL.of (b _ _ npr npn e8)) ?_ ?_⟩
   ·intro j un σ H9 hun hI9
    refine goal_name fun gg hgg => ?_
    obtain ⟨gs,ys',c9,w7,w8,b9,r9,p9,hp9,en,gv,kz,rfl⟩ := hI9
    refine hgg ?_
    clear hgg gg
    rw [List.getElem?_map] at hun
    refine goal_name fun gg hgg => ?_
    obtain ⟨wf,hwf,rfl⟩ := Option.map_eq_some_iff.mp hun
    refine hgg ?_
    clear hgg gg
    rw [List.getElem?_map] at hwf
    refine goal_name fun gg hgg => ?_
    obtain ⟨⟨wf',d⟩,hf,rfl⟩ := Option.map_eq_some_iff.mp hwf
    refine hgg ?_
    clear hgg gg
    have hjf : j < fs.length := (List.getElem?_eq_some_iff.mp hf).1
    have lg : gs.length = j := by
     have := congrArg List.length en
     simp only [List.length_map,List.length_take] at this
     lia
    have ly : ys'.length = j := by rw [← hp9.length,List.length_map,lg]
    have hd9 := is_but2 r8 pp8 b9 hd8
    have done : ∀ (e : Dt) (v : V) (c10 : Int) (H10 : Hp),But r H9 H10 → H10 r = some (.lst [.int c10]) → IsP K H10 e v → FV d e → (wf' = z → e = kD key) →
      ∀ (v11 : V) (H11 : Hp),Same H10 H11 → IsP K H11 (prD (wf',e)) v11 → ∃ (gs : List (Str × Dt)) (ys'' : List V) (c' : Int),But2 r pp H8 (upd H11 pp (.lst (ys' ++ [v11]))) ∧ (upd H11 pp (.lst (ys' ++ [v11]))) r = some (.lst [.int c']) ∧ (upd H11 pp (.lst (ys' ++ [v11]))) pp = some (.lst ys'') ∧ H11 pp = some (.lst ys') ∧ IsPs K (upd H11 pp (.lst (ys' ++ [v11]))) (gs.map prD) ys'' ∧ gs.map (·.1) = (fs.take (j + 1)).map (·.1) ∧ (∀ (i : Nat) (f g : Str × Dt),fs[i]? = some f → gs[i]? = some g → FV f.2 g.2) ∧ (∀ g ∈ gs,g.1 = z → g.2 = kD key) := by
     intro e v c10 H10 b10 r10 hv10 fv10 kz10 v11 H11 g11 hv11
     have p11 : H11 pp = some (.lst ys') := g11 _ _ (b10 _ _ rp.symm p9)
     have b12 : But pp H11 (upd H11 pp (.lst (ys' ++ [v11]))) := But.put
     refine ⟨gs ++ [(wf',e)],ys' ++ [v11],c10,fun y o n1 n2 ey => ?_,by rw [upd_ne rp]; exact g11 _ _ r10,upd_same,p11,?_,?_,fun jj f g hjf' hjg => ?_,fun g hg hgz => ?_⟩
     ·rw [upd_ne n2]
      exact g11 _ _ (b10 y o n1 (b9 y o n1 n2 ey))
     ·rw [List.map_append]
      exact (((hp9.but r9 b10).same g11).but p11 b12).append (.cons (hv11.but p11 b12) .nil)
     ·rw [List.map_append,en,List.take_add_one,hf,List.map_append]
      rfl
     ·by_cases hj : jj < gs.length
      ·rw [List.getElem?_append_left hj] at hjg
       exact gv jj f g hjf' hjg
      ·rw [List.getElem?_append_right (by lia)] at hjg
       have hj2 : jj = j := by
        have := (List.getElem?_eq_some_iff.mp hjg).1
        simp only [List.length_cons,List.length_nil] at this
        lia
       subst hj2
       rw [lg,Nat.sub_self] at hjg
       obtain rfl : (wf',e) = g := by simpa using hjg
       rw [hf] at hjf'
       obtain rfl := Option.some.inj hjf'
       exact fv10
     ·rcases List.mem_append.mp hg with h1 | h1
      ·exact kz g h1 hgz
      ·obtain rfl := List.mem_singleton.mp h1
       exact kz10 hgz
    refine ⟨_,rfl,_,rfl,_,rfl,_,_,_,hd9,rfl,rfl,fun v hv => ?_⟩
    obtain rfl := isStrV hv
    refine ⟨rfl,_,rfl,?_⟩
    by_cases hz : wf' = z
    ·subst hz
     have ed : d = kk := Option.some.inj ((look_at' nd hf).symm.trans lk)
     subst ed
     refine iteN' ?_
     refine ⟨_,rfl,.inl ⟨rfl,_,SqL.of p9⟩,_,rfl,_,rfl,[.str wf',kD key],.cons .str (.cons (hkd _) .nil),(by show 2 ≤ sizeLine; decide),fun v11 H11 g11 hv11 => ?_⟩
     refine goal_name fun gg hgg => ?_
     obtain ⟨gs',ys'',c',h1,h2,h3,h4,h5,h6,h7,h8⟩ := done (kD key) (kV key) c9 H9 (But.refl _ _) r9 (hkd _) fvk (fun _ => rfl) v11 H11 g11 hv11
     refine hgg ?_
     clear hgg gg
     exact ⟨pp,ys',_,rfl,rfl,h4,small1000 (by lia),gs',ys'',c',_,_,h1,h2,h3,h5,h6,h7,h8,rfl⟩
    ·refine iteY' (strNe hz) ?_
     refine goal_name fun gg hgg => ?_
     obtain ⟨v9,h9',hv9⟩ := kv8 wf' d (look_at' nd hf)
     refine hgg ?_
     clear hgg gg
     refine goal_name fun gg hgg => ?_
     obtain ⟨a9,ct9,ha9,fk9⟩ := gk _ (List.mem_of_getElem? hf)
     refine hgg ?_
     clear hgg gg
     refine ⟨_,rfl,_,rfl,_,rfl,p,v9,rfl,.inl ⟨kvs,Sum.inr wf',.inr ⟨ob,b9 _ _ nrp.symm (fun c => by rw [c,pp8] at P8; cases P8) P8⟩,rfl,h9'.symm⟩,?_⟩
     refine ⟨r,c9,a9,ct9,d,v9,ha9,rfl,r9,is_but2 r8 pp8 b9 hv9,fk9,fun v e c10 H10 b10 r10 hv10 fv10 => ?_⟩
     refine ⟨_,rfl,.inl ⟨rfl,_,SqL.of (b10 _ _ rp.symm p9)⟩,_,rfl,_,rfl,[.str wf',e],.cons .str (.cons hv10 .nil),(by show 2 ≤ sizeLine; decide),fun v11 H11 g11 hv11 => ?_⟩
     refine goal_name fun gg hgg => ?_
     obtain ⟨gs',ys'',c',h1,h2,h3,h4,h5,h6,h7,h8⟩ := done e v c10 H10 b10 r10 hv10 fv10 (fun c => absurd c hz) v11 H11 g11 hv11
     refine hgg ?_
     clear hgg gg
     exact ⟨pp,ys',_,rfl,rfl,h4,small1000 (by lia),gs',ys'',c',_,_,h1,h2,h3,h5,h6,h7,h8,rfl⟩
   ·intro σ H9 hI9
    refine goal_name fun gg hgg => ?_
    obtain ⟨gs,ys',c9,w7,w8,b9,r9,p9,hp9,en,gv,kz,rfl⟩ := hI9
    refine hgg ?_
    clear hgg gg
    rw [List.length_map,List.length_map,List.take_length] at en
    have f9 : H9 pf = some (.lst ys) := b9 _ _ nrf.symm fp (S8 _ _ f6)
    refine ⟨_,rfl,.inl ⟨rfl,_,SqL.of f9⟩,_,rfl,pp,ys',_,rfl,SqL.of p9,hp9,fun v10 H10 g10 hv10 => ?_⟩
    refine ⟨[.str "record",.tup (gs.map prD)],.cons .str (.cons hv10 .nil),(by show 2 ≤ sizeLine; decide),fun v11 H11 g11 hv11 => ?_⟩
    have f11 := g11 _ _ (g10 _ _ f9)
    have b12 : But pf H11 (upd H11 pf (.lst (ys ++ [v11]))) := But.put
    have ly6 : ys.length = t := by rw [← hp6.length,le6]
    refine ⟨pf,ys,_,rfl,rfl,f11,small1000 (by lia),?_⟩
    refine ⟨its ++ [.tup [.str "record",.tup (gs.map prD)]],ys ++ [v11],c9,_,_,_,_,fun y o n1 n2 ey => ?_,by rw [upd_ne nrf]; exact g11 _ _ (g10 _ _ r9),upd_same,?_,fun v hv => ?_,?_,by rw [List.length_append,le6]; rfl,rfl⟩
    ·rw [upd_ne n2]
     have ey6 := b6 y o n1 n2 ey
     exact g11 _ _ (g10 _ _ (b9 y o n1 (ne_of_none ey6 hpp) (S8 _ _ ey6)))
    ·exact ((((iss_but2 r8 pp8 b9 (hp6.same S8)).same g10).same g11).but f11 b12).append (.cons (hv11.but f11 b12) .nil)
    ·rcases List.mem_append.mp hv with h1 | h1
     ·exact fv6 v h1
     ·obtain rfl := List.mem_singleton.mp h1
      exact .rcd en gv
    ·rw [List.map_append,ke6,List.take_add_one,hkey,List.map_append]
     refine goal_name fun gg hgg => ?_
     obtain ⟨e,l1,l2⟩ := look_names en lk
     refine hgg ?_
     clear hgg gg
     have l3 := kz _ l2 rfl
     show _ ++ [keyD (.tup [.str "record",.tup (gs.map prD)]) z] = _
     have : keyD (.tup [.str "record",.tup (gs.map prD)]) z = kD key := by
      show (lookD (gs.map prD) z).getD .non = _
      rw [lookD_map,l1]
      exact l3
     rw [this]
     rfl
  ·intro σ H6 hI9
   refine goal_name fun gg hgg => ?_
   obtain ⟨its,ys,c6,w5,w6,w7,w8,b6,r6,f6,hp6,fv6,ke6,le6,rfl⟩ := hI9
   refine hgg ?_
   clear hgg gg
   refine ⟨_,rfl,pf,ys,_,rfl,SqL.of f6,hp6,fun v7 H7 g7 hv7 => ?_⟩
   refine ⟨[.str "rows",.tup its],.cons .str (.cons hv7 .nil),(by show 2 ≤ sizeLine; decide),fun v8 H8 g8 hv8 => ?_⟩
   have hfH : H pf = none := g1.free hpf
   refine q v8 its c6 H8 (fun y o ny ey => g8 _ _ (g7 _ _ (b6 y o ny (ne_of_none ey hfH) (B5 y o ny (s3 _ _ (SF y o ey)))))) (g8 _ _ (g7 _ _ r6)) hv8 (.rows fv6 ?_ ?_)
   ·rw [le6,List.length_take]
    lia
   ·rw [ke6]
    exact keysFor_asc kfor _
 ·intro jkey
  have ep2 := g2 _ _ ep
  refine ⟨_,rfl,p,kvs,rfl,ep2,fun ob l hln => ?_⟩
  have bp : But p (upd H1 pf (.lst [])) (upd (upd H1 pf (.lst [])) p (.frz ob (.dK kvs))) := But.put
  have eF : (upd (upd H1 pf (.lst [])) p (.frz ob (.dK kvs))) p = some (.frz ob (.dK kvs)) := upd_same
  have rF := bp _ _ nrp (g2 _ _ (g1 _ _ hr0))
  have fF := bp _ _ np.symm (upd_same (H := H1) (a := pf) (o := .lst []))
  have hdF := isP_butD ep2 bp hd2
  have kvF : ∀ w d,lookS fs w = some d → ∃ v,valV kvs (Sum.inr w : Key) = some v ∧ IsP K (upd (upd H1 pf (.lst [])) p (.frz ob (.dK kvs))) d v := fun w d e => by
   refine goal_name fun gg hgg => ?_
   obtain ⟨v,h1,h2⟩ := (kval w).2 d e
   refine hgg ?_
   clear hgg gg
   exact ⟨v,h1,isP_butD ep2 bp (h2.same g2)⟩
  have SF : Same H (upd (upd H1 pf (.lst [])) p (.frz ob (.dK kvs))) := fun a o e => bp a o (ne_of_none e hpn) (g2 _ _ (g1 _ _ e))
  generalize upd (upd H1 pf (.lst [])) p (.frz ob (.dK kvs)) = HF at hln bp eF rF fF hdF kvF SF ⊢
  refine comp_dictR (a := p) (ob := ob) (kvs := kvs) (fun j ys σ H' => ∃ bs : List Bool,Same HF H' ∧ H' l = some (.lst ys) ∧ ys = bls bs ∧ ys.length ≤ j ∧ ∃ v1,σ = [v1,some (.ref p)])
   ⟨[],same_new hln _,upd_same,rfl,Nat.le_refl _,none,rfl⟩ (fun j ys σ H' _ pv => by
    refine goal_name fun gg hgg => ?_
    obtain ⟨_,s,_⟩ := pv
    refine hgg ?_
    clear hgg gg
    exact s _ _ eF) ?_ ?_
  ·rintro j ⟨key,v0⟩ ys σ H3 N hj ⟨bs,s3,e3,rfl,hle,v1,rfl⟩ next
   have hj8 : j < kvs.length := (List.getElem?_eq_some_iff.mp hj).1
   have hk : (kvs.map (·.1))[j]? = some key := by rw [List.getElem?_map,hj]; rfl
   rw [ek,List.getElem?_map] at hk
   refine goal_name fun gg hgg => ?_
   obtain ⟨⟨wf,d⟩,hf,rfl⟩ := Option.map_eq_some_iff.mp hk
   refine hgg ?_
   clear hgg gg
   refine goal_name fun gg hgg => ?_
   obtain ⟨v9,h9,hv9⟩ := kvF wf d (look_at' nd hf)
   refine hgg ?_
   clear hgg gg
   refine goal_name fun gg hgg => ?_
   obtain ⟨a9,ct9,_,hfk⟩ := gk _ (List.mem_of_getElem? hf)
   refine hgg ?_
   clear hgg gg
   refine goal_name fun gg hgg => ?_
   obtain ⟨w',rest,ed⟩ := fk_head hfk
   refine hgg ?_
   clear hgg gg
   have ed' : d = .tup (.str w' :: rest) := ed
   subst ed'
   have at1 : atI (Dt.str w' :: rest) ((0 : Nat) : Int) = some (.str w') := atI_nat (by simp)
   refine ⟨_,rfl,_,rfl,p,v9,rfl,.inl ⟨kvs,Sum.inr wf,.inr ⟨ob,s3 _ _ eF⟩,rfl,h9.symm⟩,_,_,_,hv9.same s3,rfl,at1,fun v hv => ?_⟩
   obtain rfl := isStrV hv
   refine ⟨(by show 3 ≤ sizeLine; decide),fun p4 hp4 => ?_⟩
   have g4 := same_new hp4 (.lst [.str "list",.str "rows",.str "record"])
   have e4 := g4 _ _ e3
   refine ⟨p4,_,rfl,.inl (SqL.of upd_same),rfl,rfl,e4,small1000 (by lia),next _ _ _ ⟨bs ++ [inV (V.str w') [V.str "list",V.str "rows",V.str "record"]],fun c o ec => ?_,upd_same,?_,?_,_,rfl⟩⟩
   ·rw [upd_ne (ne_of_none ec hln)]
    exact g4 _ _ (s3 _ _ ec)
   ·unfold bls; rw [List.map_append]; rfl
   ·rw [List.length_append]; simp only [List.length_cons,List.length_nil]; lia
  ·intro ys σ H3 hI9
   refine goal_name fun gg hgg => ?_
   obtain ⟨bs,s3,e3,rfl,hle,v1,rfl⟩ := hI9
   refine hgg ?_
   clear hgg gg
   refine ⟨l,bs,rfl,rfl,SqL.of e3,_,rfl,?_⟩
   refine ite2 (fun _ => ?_) (fun _ => ?_)
   ·refine ⟨_,rfl,_,_,rfl,?_⟩
    have mm : (0 : Int) ≤ (if 2 < i then 2 else i) ∧ (if 2 < i then 2 else i) ≤ i := by split <;> lia
    exact jkey _ _ ⟨_,ob,rfl,mm.1,mm.2,s3 _ _ eF,s3 _ _ rF,s3 _ _ fF,hdF.same s3,fun w d e => (kvF w d e).elim fun v h => ⟨v,h.1,h.2.same s3⟩,SF.trans s3⟩
   ·exact jkey _ _ ⟨i,ob,rfl,i0,Int.le_refl _,s3 _ _ eF,s3 _ _ rF,s3 _ _ fF,hdF.same s3,fun w d e => (kvF w d e).elim fun v h => ⟨v,h.1,h.2.same s3⟩,SF.trans s3⟩
theorem fk_rcd {a c : Nat} {d : Dt} (h : FK a c d) : ∀ l,d = .tup [.str "record",.tup l] → ∃ gs : List G4,l = (gs.map nk).map prD ∧ (∀ g ∈ gs,FK g.2.2.1 g.2.2.2 g.2.1) ∧ ((gs.map nk).map (·.1)).Pairwise ltS ∧ gs.length ≤ 8 ∧ ∀ g ∈ gs,g.2.2.1 < a := by
 cases h with
 | @rcd gs g asc nm hl =>
  intro l e
  have e' : gs.map prG = l := by simpa using e
  refine ⟨gs,?_,g,?_,hl,fun x hx => ?_⟩
  ·rw [← e',List.map_map]
   rfl
  ·rw [List.map_map]
   exact asc
  ·have := le_max (List.mem_map_of_mem (f := fun g : G4 => g.2.2.1) hx)
   lia
 | _ =>
  intro l e
  simp at e <;> first | exact absurd e.1 (by decide) | exact absurd e (by decide)
theorem key_fk {a c : Nat} {d : Dt} (h : FK a c d) : ∀ w r,d = .tup (.str w :: r) → (w = "number" ∨ w = "text") → KeyFK d := by
 cases h with
 | text i h1 h2 => intro w r _ _; exact .inr ⟨i,rfl,h1,h2⟩
 | number i j h1 h2 h3 => intro w r _ _; exact .inl ⟨i,j,rfl,h1,h2,h3⟩
 | _ =>
  intro w r e hw
  simp at e
  obtain ⟨rfl,_⟩ := e
  rcases hw with h | h <;> exact absurd h (by decide)
theorem ok_law_value (T : Tx K mg ad) {f fk : Addr} {fd fdk : FuncData} (n : Nat) (D_law_value : Gn K mg "_law_value" s_law_value ["row","kind"] f fd) (D_law_row_values : Gn K mg "_law_row_values" s_law_row_values ["row","kind"] fk fdk)
  (G_law_value : FnOk P w K mg base CX0 (2 * n + 3) f fd ["row","kind"] (svalue K n)) (G_law_row_values : FnOk P w K mg base CX0 (2 * n + 4) fk fdk ["row","kind"] (srowv K n)) : FnOk P w K mg base CX0 (2 * n + 4 + 1) f fd ["row","kind"] (svalue K (n + 1)) := by
 obtain ⟨f_law_digit,fd_law_digit,D_law_digit⟩ := T.law_digit
 have G_law_digit := ok_law_digit (P := P) (w := w) (base := base) T D_law_digit
 obtain ⟨f_law_text,fd_law_text,D_law_text⟩ := T.law_text
 have G_law_text := ok_law_text (P := P) (w := w) (base := base) T D_law_text
 refine D_law_value.F.ok sc_law_value (fun vs H Q E h => ?_) (fun cdv A outer s H vs Q E hr h => ?_)
 ·obtain ⟨r,c,a,ct,d,x,_,rfl,_⟩ := h
  rfl
 obtain ⟨r,c,a,ct,d,x,hm,rfl,hr0,hd,gk,q⟩ := h
 refine ⟨_,(@pss_cons _ _ _ _ _ (@ps_set _ _ 2 _ _ _ _ sc_law_value.nd rfl (Or.inl rfl) (@pe_ix _ _ _ _ _ _ _ (ix_tupPN (K := K) rfl) (pv 1) pe_int (fun _ _ => rfl)) (by rfl) (by first | exact .inl rfl | exact .inr rfl | assumption)) (@pss_cons _ _ _ _ _ (@ps_if _ _ _ _ _ _ _ _ (pt_cmpR op_eq (pv 2) pe_str (nomark _)) (@pss_cons _ _ _ _ _ (@ps_set _ _ 3 _ _ _ _ sc_law_value.nd rfl (Or.inl rfl) (pe_call G_law_digit (hr.mono (by first | decide | lia)) rfl D_law_digit.m D_law_digit.F.kp D_law_digit.b .nil pass0 (@pa_cons _ _ _ _ _ (pv 0) (@pa_cons _ _ _ _ _ pe_int pa_nil (by rfl)) (by rfl))) (by rfl) (by first | exact .inl rfl | exact .inr rfl | assumption)) (@pss_cons _ _ _ _ _ (@ps_if _ _ _ _ _ _ _ _ (pt_cmpR op_lt (pv 3) pe_int (nomark _)) (@pss_one _ _ _ (@ps_ret _ _ _ _ (@pe_ix _ _ _ _ _ _ _ (ix_tupPN (K := K) rfl) (pv 1) (@pe_op _ _ _ _ _ _ _ _ op_add pe_int (pv 3)) (fun _ _ => rfl)))) pss_nil) (@pss_one _ _ _ (@ps_ret _ _ _ _ (@pe_op _ _ _ _ _ _ _ _ op_add (@pe_ix _ _ _ _ _ _ _ (ix_tupPN (K := K) rfl) (pv 1) pe_int (fun _ _ => rfl)) (pe_call G_law_digit (hr.mono (by first | decide | lia)) rfl D_law_digit.m D_law_digit.F.kp D_law_digit.b .nil pass0 (@pa_cons _ _ _ _ _ (pv 0) (@pa_cons _ _ _ _ _ (@pe_op _ _ _ _ _ _ _ _ op_add (@pe_op _ _ _ _ _ _ _ _ op_sub (@pe_ix _ _ _ _ _ _ _ (ix_tupPN (K := K) rfl) (pv 1) pe_int (fun _ _ => rfl)) (@pe_ix _ _ _ _ _ _ _ (ix_tupPN (K := K) rfl) (pv 1) pe_int (fun _ _ => rfl))) pe_int) pa_nil (by rfl)) (by rfl)))))))) pss_nil) (@pss_cons _ _ _ _ _ (@ps_if _ _ _ _ _ _ _ _ (pt_cmpR op_eq (pv 2) pe_str (nomark _)) (@pss_one _ _ _ (@ps_ret _ _ _ _ (pe_call G_law_text (hr.mono (by first | decide | lia)) rfl D_law_text.m D_law_text.F.kp D_law_text.b .nil pass0 (@pa_cons _ _ _ _ _ (pv 0) (@pa_cons _ _ _ _ _ (@pe_ix _ _ _ _ _ _ _ (ix_tupPN (K := K) rfl) (pv 1) pe_int (fun _ _ => rfl)) pa_nil (by rfl)) (by rfl))))) pss_nil) (@pss_cons _ _ _ _ _ (@ps_if _ _ _ _ _ _ _ _ (pt_cmpR op_eq (pv 2) pe_str (nomark _)) (@pss_one _ _ _ (@ps_ret _ _ _ _ (@pe_ix _ _ _ _ _ _ _ (ix_tupPN (K := K) rfl) (@pe_ix _ _ _ _ _ _ _ (ix_tupPN (K := K) rfl) (pv 1) pe_int (fun _ _ => rfl)) (pe_call G_law_digit (hr.mono (by first | decide | lia)) rfl D_law_digit.m D_law_digit.F.kp D_law_digit.b .nil pass0 (@pa_cons _ _ _ _ _ (pv 0) (@pa_cons _ _ _ _ _ (pe_callB (call_lenDN (K := K) rfl) rfl T.z_len PySem.boot_len (@pa_cons _ _ _ _ _ (@pe_ix _ _ _ _ _ _ _ (ix_tupPN (K := K) rfl) (pv 1) pe_int (fun _ _ => rfl)) pa_nil (by rfl))) pa_nil (by rfl)) (by rfl))) (fun _ _ => rfl)))) pss_nil) (@pss_cons _ _ _ _ _ (@ps_if _ _ _ _ _ _ _ _ (pt_cmpR op_eq (pv 2) pe_str (nomark _)) (@pss_cons _ _ _ _ _ (@ps_set _ _ 4 _ _ _ _ sc_law_value.nd rfl (Or.inl rfl) (pe_call G_law_digit (hr.mono (by first | decide | lia)) rfl D_law_digit.m D_law_digit.F.kp D_law_digit.b .nil pass0 (@pa_cons _ _ _ _ _ (pv 0) (@pa_cons _ _ _ _ _ (@pe_op _ _ _ _ _ _ _ _ op_add (@pe_ix _ _ _ _ _ _ _ (ix_tupPN (K := K) rfl) (pv 1) pe_int (fun _ _ => rfl)) pe_int) pa_nil (by rfl)) (by rfl))) (by rfl) (by first | exact .inl rfl | exact .inr rfl | assumption)) (@pss_cons _ _ _ _ _ (@ps_if _ _ _ _ _ _ _ _ (pt_cmpR (op_in_seqK (K := K) rfl) (@pe_ix _ _ _ _ _ _ _ (ix_tupPN (K := K) rfl) (@pe_ix _ _ _ _ _ _ _ (ix_tupPN (K := K) rfl) (pv 1) pe_int (fun _ _ => rfl)) pe_int (fun _ _ => rfl)) (@pe_lst _ _ _ _ (@pa_cons _ _ _ _ _ pe_str (@pa_cons _ _ _ _ _ pe_str (@pa_cons _ _ _ _ _ pe_str pa_nil (by rfl)) (by rfl)) (by rfl))) rfl) (@pss_one _ _ _ (@ps_set _ _ 4 _ _ _ _ sc_law_value.nd rfl (Or.inl rfl) (pe_callB (call_min2 rfl) rfl T.z_min boot_min (@pa_cons _ _ _ _ _ (pv 4) (@pa_cons _ _ _ _ _ pe_int pa_nil (by rfl)) (by rfl))) (by rfl) (by first | exact .inl rfl | exact .inr rfl | assumption))) pss_nil) (@pss_one _ _ _ (@ps_ret _ _ _ _ (@pe_tupPK _ K _ _ _ _ rfl (@pa_cons _ _ _ _ _ pe_str (@pa_cons _ _ _ _ _ (pe_callTy (call_tuplePN (K := K) rfl) rfl T.z_tuple boot_tuple (@pa_cons _ _ _ _ _ (pe_comp rfl (csR (sc := defScope s_law_value) (NL := ["k"]) (N := ["row","kind","word","edge","many"]) (ρ := [0,1]) (N' := ["k","row","kind"]) rfl rfl rfl (by decide +kernel) (by decide +kernel) (by decide +kernel) rfl (by decide +kernel)) (pi_range1 rfl T.z_range (@pa_cons _ _ _ _ _ (pv 4) pa_nil (by rfl))) (fun _ _ _ _ => (pg_name (i := 0) (show List.Nodup (α := Str) ["k","row","kind"] by decide +kernel) rfl (Or.inl rfl))) (fun _ _ _ _ => (pe_call G_law_value (hr.mono (by first | decide | lia)) rfl D_law_value.m D_law_value.F.kp D_law_value.b .nil pass0 (@pa_cons _ _ _ _ _ (pv 1) (@pa_cons _ _ _ _ _ (@pe_ix _ _ _ _ _ _ _ (ix_tupPN (K := K) rfl) (pv 2) pe_int (fun _ _ => rfl)) pa_nil (by rfl)) (by rfl))))) pa_nil (by rfl))) pa_nil (by rfl)) (by rfl))))))) pss_nil) (@pss_cons _ _ _ _ _ (@ps_if _ _ _ _ _ _ _ _ (pt_cmpR op_eq (pv 2) pe_str (nomark _)) (@pss_one _ _ _ (@ps_ret _ _ _ _ (@pe_tupPK _ K _ _ _ _ rfl (@pa_cons _ _ _ _ _ pe_str (@pa_cons _ _ _ _ _ (pe_callTy (call_tuplePN (K := K) rfl) rfl T.z_tuple boot_tuple (@pa_cons _ _ _ _ _ (pe_comp rfl (csR (sc := defScope s_law_value) (NL := ["name","inner"]) (N := ["row","kind","word","edge","many"]) (ρ := [0]) (N' := ["name","inner","row"]) rfl rfl rfl (by decide +kernel) (by decide +kernel) (by decide +kernel) rfl (by decide +kernel)) (pi_tupN (K := K) rfl (@pe_ix _ _ _ _ _ _ _ (ix_tupPN (K := K) rfl) (pv 1) pe_int (fun _ _ => rfl))) (fun _ _ _ _ => (pg_tupK (K := K) (n := 2) rfl rfl (pgs_cons (pg_name (i := 0) (show List.Nodup (α := Str) ["name","inner","row"] by decide +kernel) rfl (Or.inl rfl)) (pgs_cons (pg_name (i := 1) (show List.Nodup (α := Str) ["name","inner","row"] by decide +kernel) rfl (Or.inl rfl)) pgs_nil)))) (fun _ _ _ _ => (pe_tupPK (K := K) rfl (@pa_cons _ _ _ _ _ (pv 0) (@pa_cons _ _ _ _ _ (pe_call G_law_value (hr.mono (by first | decide | lia)) rfl D_law_value.m D_law_value.F.kp D_law_value.b .nil pass0 (@pa_cons _ _ _ _ _ (pv 2) (@pa_cons _ _ _ _ _ (pv 1) pa_nil (by rfl)) (by rfl))) pa_nil (by rfl)) (by rfl))))) pa_nil (by rfl))) pa_nil (by rfl)) (by rfl))))) pss_nil) (@pss_one _ _ _ (@ps_ret _ _ _ _ (pe_call G_law_row_values (hr.mono (by first | decide | lia)) rfl D_law_row_values.m D_law_row_values.F.kp D_law_row_values.b .nil pass0 (@pa_cons _ _ _ _ _ (pv 0) (@pa_cons _ _ _ _ _ (pv 1) pa_nil (by rfl)) (by rfl))))))))))),?_⟩
 cases gk with
 | number i j b1 b2 b3 =>
  refine s_ix rfl hd rfl fun v hv => ?_
  obtain rfl := isStrV hv
  refine t_yes rfl ?_
  obtain ⟨d0,d1⟩ := mod_lt c (m := 4) (by decide)
  refine ⟨_,rfl,r,c,4,rfl,hr0,by decide,by decide,?_⟩
  have b0 : But r H (upd H r (.lst [.int (c / 4)])) := But.put
  have hd1 := hd.but hr0 b0
  have r1 : (upd H r (.lst [.int (c / 4)])) r = some (.lst [.int (c / 4)]) := upd_same
  generalize upd H r (.lst [.int (c / 4)]) = H1 at b0 hd1 r1 ⊢
  refine ⟨_,rfl,_,_,rfl,rfl,_,rfl,ite2 (fun c1 => ?_) (fun c1 => ?_)⟩
  ·have c1' : c % 4 < 2 := of_decide_eq_true c1
   have at3 : atI [Dt.str "number",.int i,.int j] (1 + c % 4) = some (if c % 4 = 0 then .int i else .int j) := by
    rcases (show c % 4 = 0 ∨ c % 4 = 1 by lia) with e | e <;> rw [e] <;> rfl
   refine ⟨_,rfl,_,rfl,_,_,rfl,rfl,_,_,_,hd1,rfl,at3,fun v hv => ?_⟩
   by_cases e : c % 4 = 0
   ·rw [if_pos e] at hv
    exact q v _ _ H1 b0 r1 hv (.number (Int.le_refl _) b2)
   ·rw [if_neg e] at hv
    exact q v _ _ H1 b0 r1 hv (.number b2 (Int.le_refl _))
  ·refine ⟨_,rfl,_,_,_,hd1,rfl,rfl,fun v hv => ?_⟩
   obtain rfl := isIntV hv
   refine ⟨_,rfl,_,rfl,_,_,_,hd1,rfl,rfl,fun v hv => ?_⟩
   obtain rfl := isIntV hv
   refine s_ix rfl hd1 rfl fun v hv => ?_
   obtain rfl := isIntV hv
   obtain ⟨e0,e1⟩ := mod_lt (c / 4) (m := j - i + 1) (by lia)
   refine ⟨_,_,rfl,rfl,_,_,rfl,rfl,r,c / 4,_,rfl,r1,by lia,by lia,_,_,rfl,rfl,?_⟩
   exact q _ _ _ _ (b0.trans But.put) upd_same .int (.number (by lia) (by lia))
 | text i b1 b2 =>
  refine s_ix rfl hd rfl fun v hv => ?_
  obtain rfl := isStrV hv
  refine t_no rfl (by decide) ?_
  refine t_yes rfl ?_
  refine ⟨_,rfl,_,rfl,_,_,_,hd,rfl,rfl,fun v hv => ?_⟩
  obtain rfl := isIntV hv
  exact ⟨r,c,i,rfl,hr0,b1,b2,fun z c' H' b e h1 h2 => q _ _ c' H' b e .str (.text h1 h2)⟩
 | choice ws hw ho =>
  refine s_ix rfl hd rfl fun v hv => ?_
  obtain rfl := isStrV hv
  refine t_no rfl (by decide) ?_
  refine t_no rfl (by decide) ?_
  refine t_yes rfl ?_
  have hw1 : 1 ≤ ws.length ∧ ws.length ≤ 8 := by
   unfold wordsB at hw
   simp only [Bool.and_eq_true,decide_eq_true_eq] at hw
   lia
  refine s_ix rfl hd rfl fun v1 hv1 => ?_
  refine ⟨_,rfl,_,rfl,_,_,_,hd,rfl,rfl,fun v2 hv2 => ?_⟩
  obtain ⟨d0,d1⟩ := mod_lt c (m := ((ws.map Dt.str).length : Int)) (by rw [List.length_map]; lia)
  refine goal_name fun gg hgg => ?_
  obtain ⟨e,me,ee⟩ := pick (xs := ws.map Dt.str) d0 d1
  refine hgg ?_
  clear hgg gg
  refine goal_name fun gg hgg => ?_
  obtain ⟨z,hz,rfl⟩ := List.mem_map.mp me
  refine hgg ?_
  clear hgg gg
  exact ⟨v2,_,rfl,hv2.d,r,c,_,rfl,hr0,by rw [List.length_map]; lia,by rw [List.length_map]; lia,_,_,_,hv1.but hr0 But.put,rfl,ee,fun v hv => q v _ _ _ But.put upd_same hv (.choice hz)⟩
 | @list a' c'' k i g b1 b2 =>
  refine s_ix rfl hd rfl fun v hv => ?_
  obtain rfl := isStrV hv
  refine t_no rfl (by decide) ?_
  refine t_no rfl (by decide) ?_
  refine t_no rfl (by decide) ?_
  refine t_yes rfl ?_
  refine ⟨_,rfl,_,rfl,_,_,_,hd,rfl,rfl,fun v hv => ?_⟩
  obtain rfl := isIntV hv
  obtain ⟨d0,d1⟩ := mod_lt c (m := i + 1) (by lia)
  refine ⟨_,_,rfl,rfl,r,c,_,rfl,hr0,by lia,by lia,?_⟩
  have b0 : But r H (upd H r (.lst [.int (c / (i + 1))])) := But.put
  have r0 : (upd H r (.lst [.int (c / (i + 1))])) r = some (.lst [.int (c / (i + 1))]) := upd_same
  generalize upd H r (.lst [.int (c / (i + 1))]) = H0 at b0 r0 ⊢
  have hd0 := hd.but hr0 b0
  refine goal_name fun gg hgg => ?_
  obtain ⟨w',rest,ed⟩ := fk_head g
  refine hgg ?_
  clear hgg gg
  have at1 : atI (Dt.str w' :: rest) ((0 : Nat) : Int) = some (.str w') := atI_nat (by simp)
  refine s_ix rfl hd0 rfl fun v1 hv1 => ?_
  have hv1' : IsP K H0 (.tup (.str w' :: rest)) v1 := ed ▸ hv1
  refine ⟨_,_,_,hv1',rfl,at1,fun v hv => ?_⟩
  obtain rfl := isStrV hv
  refine ⟨(by show 3 ≤ sizeLine; decide),fun p4 hp4 => ?_⟩
  have g4 := same_new hp4 (.lst [.str "list",.str "rows",.str "record"])
  have BL : But r H (upd H0 p4 (.lst [.str "list",.str "rows",.str "record"])) := b0.trans (But.same g4)
  have rL := g4 _ _ r0
  refine ⟨p4,_,rfl,.inl (SqL.of upd_same),rfl,rfl,_,rfl,?_⟩
  generalize upd H0 p4 (.lst [.str "list",.str "rows",.str "record"]) = HL at BL rL ⊢
  refine ite2 (fun _ => ?_) (fun _ => ?_)
  ·refine ⟨_,rfl,_,_,rfl,?_⟩
   obtain ⟨m0,m1⟩ : (0 : Int) ≤ (if 2 < c % (i + 1) then 2 else c % (i + 1)) ∧ (if 2 < c % (i + 1) then 2 else c % (i + 1)) ≤ i := by split <;> lia
   generalize (if (2 : Int) < c % (i + 1) then (2 : Int) else c % (i + 1)) = mst at m0 m1 ⊢
   refine ⟨_,rfl,?_⟩
   refine ⟨_,rfl,by lia,by lia,fun l hln => ?_⟩
   have nlr : r ≠ l := ne_of_none rL hln
   have lH : H l = none := by
    cases e' : H l with
    | none => rfl
    | some o => rw [BL l o nlr.symm e'] at hln; cases hln
   refine comp_rangeR (lo := 0) (n := mst.toNat) (fun j ys σ H' => ∃ (es : List Dt) (c' : Int),But r H H' ∧ H' r = some (.lst [.int c']) ∧ H' l = some (.lst ys) ∧ IsPs K H' es ys ∧ ys.length = j ∧ (∀ e ∈ es,FV k e) ∧ ∃ v1,σ = [v1,some (.ref r),some x])
    ⟨[],_,BL.trans (But.same (same_new hln _)),(by rw [upd_ne nlr]; exact rL),upd_same,.nil,rfl,(by intro e he; cases he),none,rfl⟩ ?_ ?_
   ·rintro j ys σ H1 N hj ⟨es,c',b1,e1,e2,hp,hle,gv,v1,rfl⟩ next
    have hd1 := hd.but hr0 b1
    refine ⟨_,rfl,_,rfl,_,_,_,hd1,rfl,rfl,fun v5 hv5 => ?_⟩
    refine ⟨r,c',a',c'',k,v5,by lia,rfl,e1,hv5,g,fun v e c2 H2 b2 e3 hv2 g2 => ?_⟩
    have f2 := b2 _ _ nlr.symm e2
    have b5 : But l H2 (upd H2 l (.lst (ys ++ [v]))) := But.put
    refine ⟨f2,small1000 (by lia),next _ _ _ ⟨es ++ [e],c2,fun x o nx ex => ?_,?_,upd_same,?_,?_,fun e' he => ?_,_,rfl⟩⟩
    ·rw [upd_ne (ne_of_none ex lH)]
     exact b2 x o nx (b1 x o nx ex)
    ·rw [upd_ne nlr]
     exact e3
    ·exact ((hp.but e1 b2).but f2 b5).append (.cons (hv2.but f2 b5) .nil)
    ·rw [List.length_append,hle]; rfl
    ·rcases List.mem_append.mp he with h1 | h1
     ·exact gv e' h1
     ·obtain rfl := List.mem_singleton.mp h1
      exact g2
   ·intro ys σ H1 hI9
    refine goal_name fun gg hgg => ?_
    obtain ⟨es,c',b1,e1,e2,hp,hle,gv,v1,rfl⟩ := hI9
    refine hgg ?_
    clear hgg gg
    refine ⟨l,ys,_,rfl,SqL.of e2,hp,fun v2 H2 g2 hv2 => ?_⟩
    refine ⟨[.str "list",.tup es],.cons .str (.cons hv2 .nil),(by show 2 ≤ sizeLine; decide),fun v H3 g3 hv => ?_⟩
    refine q v _ c' H3 ((b1.trans (But.same g2)).trans (But.same g3)) (g3 _ _ (g2 _ _ e1)) hv (.list gv ?_)
    rw [hp.length,hle]
    lia
  ·have m1 : c % (i + 1) ≤ i := by lia
   generalize c % (i + 1) = mst at d0 m1 ⊢
   refine ⟨_,rfl,?_⟩
   refine ⟨_,rfl,by lia,by lia,fun l hln => ?_⟩
   have nlr : r ≠ l := ne_of_none rL hln
   have lH : H l = none := by
    cases e' : H l with
    | none => rfl
    | some o => rw [BL l o nlr.symm e'] at hln; cases hln
   refine comp_rangeR (lo := 0) (n := mst.toNat) (fun j ys σ H' => ∃ (es : List Dt) (c' : Int),But r H H' ∧ H' r = some (.lst [.int c']) ∧ H' l = some (.lst ys) ∧ IsPs K H' es ys ∧ ys.length = j ∧ (∀ e ∈ es,FV k e) ∧ ∃ v1,σ = [v1,some (.ref r),some x])
    ⟨[],_,BL.trans (But.same (same_new hln _)),(by rw [upd_ne nlr]; exact rL),upd_same,.nil,rfl,(by intro e he; cases he),none,rfl⟩ ?_ ?_
   ·rintro j ys σ H1 N hj ⟨es,c',b1,e1,e2,hp,hle,gv,v1,rfl⟩ next
    have hd1 := hd.but hr0 b1
    refine ⟨_,rfl,_,rfl,_,_,_,hd1,rfl,rfl,fun v5 hv5 => ?_⟩
    refine ⟨r,c',a',c'',k,v5,by lia,rfl,e1,hv5,g,fun v e c2 H2 b2 e3 hv2 g2 => ?_⟩
    have f2 := b2 _ _ nlr.symm e2
    have b5 : But l H2 (upd H2 l (.lst (ys ++ [v]))) := But.put
    refine ⟨f2,small1000 (by lia),next _ _ _ ⟨es ++ [e],c2,fun x o nx ex => ?_,?_,upd_same,?_,?_,fun e' he => ?_,_,rfl⟩⟩
    ·rw [upd_ne (ne_of_none ex lH)]
     exact b2 x o nx (b1 x o nx ex)
    ·rw [upd_ne nlr]
     exact e3
    ·exact ((hp.but e1 b2).but f2 b5).append (.cons (hv2.but f2 b5) .nil)
    ·rw [List.length_append,hle]; rfl
    ·rcases List.mem_append.mp he with h1 | h1
     ·exact gv e' h1
     ·obtain rfl := List.mem_singleton.mp h1
      exact g2
   ·intro ys σ H1 hI9
    refine goal_name fun gg hgg => ?_
    obtain ⟨es,c',b1,e1,e2,hp,hle,gv,v1,rfl⟩ := hI9
    refine hgg ?_
    clear hgg gg
    refine ⟨l,ys,_,rfl,SqL.of e2,hp,fun v2 H2 g2 hv2 => ?_⟩
    refine ⟨[.str "list",.tup es],.cons .str (.cons hv2 .nil),(by show 2 ≤ sizeLine; decide),fun v H3 g3 hv => ?_⟩
    refine q v _ c' H3 ((b1.trans (But.same g2)).trans (But.same g3)) (g3 _ _ (g2 _ _ e1)) hv (.list gv ?_)
    rw [hp.length,hle]
    lia
 | @rcd gs g asc nm hl =>
  refine s_ix rfl hd rfl fun v hv => ?_
  obtain rfl := isStrV hv
  refine t_no rfl (by decide) ?_
  refine t_no rfl (by decide) ?_
  refine t_no rfl (by decide) ?_
  refine t_no rfl (by decide) ?_
  refine t_yes rfl ?_
  obtain ⟨fs,efs⟩ : ∃ fs : List (Str × Dt),fs = gs.map nk := ⟨_,rfl⟩
  have ep : gs.map prG = fs.map prD := by rw [efs,List.map_map]; rfl
  rw [ep] at hd q
  have gk : ∀ f ∈ fs,∃ a ct,a ≤ n ∧ FK a ct f.2 := fun f hf => by
   rw [efs] at hf
   refine goal_name fun gg hgg => ?_
   obtain ⟨x,hx,rfl⟩ := List.mem_map.mp hf
   refine hgg ?_
   clear hgg gg
   have := le_max (List.mem_map_of_mem (f := fun g : G4 => g.2.2.1) hx)
   exact ⟨_,_,by lia,g x hx⟩
  have hl8 : fs.length ≤ 8 := by rw [efs,List.length_map]; exact hl
  refine s_ix rfl hd rfl fun v hv => ?_
  refine goal_name fun gg hgg => ?_
  obtain ⟨aa,xs,rfl,ha,pa,ra⟩ := hv.unref
  refine hgg ?_
  clear hgg gg
  have el := ra.length
  rw [List.length_map] at el
  have nar : aa ≠ r := by
   refine goal_name fun gg hgg => ?_
   obtain ⟨o,u,e,_⟩ := pa
   refine hgg ?_
   clear hgg gg
   exact ne_of e hr0 (by intro c; cases c)
  refine ⟨aa,rfl,⟨xs,ha⟩,fun l hln => ?_⟩
  have nlr : r ≠ l := ne_of_none hr0 hln
  refine comp_tupR (K := K) (xs := xs) (fun i ys σ H' => ∃ (gs : List (Str × Dt)) (c' : Int),But r H H' ∧ H' r = some (.lst [.int c']) ∧ H' l = some (.lst ys) ∧ IsPs K H' (gs.map prD) ys ∧ gs.map (·.1) = (fs.take i).map (·.1) ∧ (∀ (i : Nat) (f g : Str × Dt),fs[i]? = some f → gs[i]? = some g → FV f.2 g.2) ∧ ∃ v1 v2,σ = [v1,v2,some (.ref r)])
   ⟨[],c,But.same (same_new hln _),(by rw [upd_ne nlr]; exact hr0),upd_same,.nil,rfl,(by intro i f g _ e; simp at e),none,none,rfl⟩ (fun i ys σ H' _ p => by
    refine goal_name fun gg hgg => ?_
    obtain ⟨_,_,b,_⟩ := p
    refine hgg ?_
    clear hgg gg
    exact b.tup nar ha) ?_ ?_
  ·rintro i u ys σ H1 N hu ⟨gs',c',b1,e1,e2,hp,en,gv,v1,v2,rfl⟩ next
   have hi : i < fs.length := by
    rw [el]
    exact (List.getElem?_eq_some_iff.mp hu).1
   refine goal_name fun gg hgg => ?_
   obtain ⟨e,he,hx⟩ := ra.get' hu
   refine hgg ?_
   clear hgg gg
   rw [List.getElem?_map] at he
   refine goal_name fun gg hgg => ?_
   obtain ⟨⟨w',d'⟩,hf,rfl⟩ := Option.map_eq_some_iff.mp he
   refine hgg ?_
   clear hgg gg
   have lg : gs'.length = i := by
    have := congrArg List.length en
    simp only [List.length_map,List.length_take] at this
    lia
   have ly : ys.length = i := by rw [← hp.length,List.length_map,lg]
   refine goal_name fun gg hgg => ?_
   obtain ⟨b,zs,rfl,hb,pb,rb⟩ := hx.unref
   refine hgg ?_
   clear hgg gg
   have nbr : b ≠ r := by
    refine goal_name fun gg hgg => ?_
    obtain ⟨o,u,e,_⟩ := pb
    refine hgg ?_
    clear hgg gg
    exact ne_of e hr0 (by intro c; cases c)
   cases rb with
   | cons r1 rb =>
    cases rb with
    | @cons _ _ y2 _ r2 rb =>
     cases rb
     obtain rfl := isStrV r1
     refine goal_name fun gg hgg => ?_
     obtain ⟨a9,ct9,ha9,fk9⟩ := gk _ (List.mem_of_getElem? hf)
     refine hgg ?_
     clear hgg gg
     refine ⟨b,_,rfl,b1.tup nbr hb,rfl,_,_,rfl,_,_,rfl,rfl,?_⟩
     refine ⟨_,rfl,_,rfl,_,rfl,r,c',a9,ct9,d',y2,ha9,rfl,e1,r2.but hr0 b1,fk9,fun v e c2 H2 b2 e3 hv2 g2 => ?_⟩
     refine ⟨[.str w',e],.cons .str (.cons hv2 .nil),(by show 2 ≤ sizeLine; decide),fun v4 H4 g4 hv4 => ?_⟩
     have f2 := b2 _ _ nlr.symm e2
     have f4 := g4 _ _ f2
     have b5 : But l H4 (upd H4 l (.lst (ys ++ [v4]))) := But.put
     refine ⟨f4,small1000 (by lia),next _ _ _ ⟨gs' ++ [(w',e)],c2,fun x o nx ex => ?_,?_,upd_same,?_,?_,fun j f g hjf hjg => ?_,_,_,rfl⟩⟩
     ·rw [upd_ne (ne_of_none ex hln)]
      exact g4 _ _ (b2 x o nx (b1 x o nx ex))
     ·rw [upd_ne nlr]
      exact g4 _ _ e3
     ·rw [List.map_append]
      exact (((hp.but e1 b2).same g4).but f4 b5).append (.cons (hv4.but f4 b5) .nil)
     ·rw [List.map_append,en,List.take_add_one,hf,List.map_append]
      rfl
     ·by_cases hj : j < gs'.length
      ·rw [List.getElem?_append_left hj] at hjg
       exact gv j f g hjf hjg
      ·rw [List.getElem?_append_right (by lia)] at hjg
       have hj2 : j = i := by
        have := (List.getElem?_eq_some_iff.mp hjg).1
        simp only [List.length_cons,List.length_nil] at this
        lia
       subst hj2
       rw [lg,Nat.sub_self] at hjg
       obtain rfl : (w',e) = g := by simpa using hjg
       rw [hf] at hjf
       obtain rfl := Option.some.inj hjf
       exact g2
  ·intro ys σ H1 hI9
   refine goal_name fun gg hgg => ?_
   obtain ⟨gs',c',b1,e1,e2,hp,en,gv,v1,v2,rfl⟩ := hI9
   refine hgg ?_
   clear hgg gg
   refine ⟨l,ys,_,rfl,SqL.of e2,hp,fun v2 H2 g2 hv2 => ?_⟩
   refine ⟨[.str "record",.tup (List.map prD gs')],.cons .str (.cons hv2 .nil),(by show 2 ≤ sizeLine; decide),fun v H3 g3 hv => ?_⟩
   refine q v _ c' H3 ((b1.trans (But.same g2)).trans (But.same g3)) (g3 _ _ (g2 _ _ e1)) hv (.rcd ?_ gv)
   rw [en,← el,List.take_length]
 | @rows a' c'' z l i g kl b1 b2 =>
  refine s_ix rfl hd rfl fun v hv => ?_
  obtain rfl := isStrV hv
  refine t_no rfl (by decide) ?_
  refine t_no rfl (by decide) ?_
  refine t_no rfl (by decide) ?_
  refine t_no rfl (by decide) ?_
  refine t_no rfl (by decide) ?_
  refine goal_name fun gg hgg => ?_
  obtain ⟨gs,rfl,fg,asc,hl,lt⟩ := fk_rcd g l rfl
  refine hgg ?_
  clear hgg gg
  refine goal_name fun gg hgg => ?_
  obtain ⟨w',rr,hm',hw⟩ := kl
  refine hgg ?_
  clear hgg gg
  refine goal_name fun gg hgg => ?_
  obtain ⟨f0,hf0,ef0⟩ := List.mem_map.mp hm'
  refine hgg ?_
  clear hgg gg
  refine goal_name fun gg hgg => ?_
  obtain ⟨g0,hg0,rfl⟩ := List.mem_map.mp hf0
  refine hgg ?_
  clear hgg gg
  have ez : g0.1 = z ∧ g0.2.1 = .tup (.str w' :: rr) := by simpa [prD] using ef0
  obtain ⟨j0,hj0⟩ := List.mem_iff_getElem?.mp hf0
  have lk : lookS (gs.map nk) z = some g0.2.1 := look_at' (lt_nodup asc) (by rw [hj0,← ez.1])
  refine ⟨_,rfl,_,rfl,r,c,i,z,gs.map nk,g0.2.1,x,rfl,hr0,hd,fun f hf => ?_,asc,by rw [List.length_map]; exact hl,lk,key_fk (fg g0 hg0) w' rr ez.2 hw,b1,b2,fun v vs' c' H' b e hv fv => q v _ c' H' b e hv fv⟩
  refine goal_name fun gg hgg => ?_
  obtain ⟨x',hx',rfl⟩ := List.mem_map.mp hf
  refine hgg ?_
  clear hgg gg
  have := lt x' hx'
  exact ⟨_,_,by lia,fg x' hx'⟩
theorem vals_all (T : Tx K mg ad) {f fk : Addr} {fd fdk : FuncData} (V : Gn K mg "_law_value" s_law_value ["row","kind"] f fd) (R : Gn K mg "_law_row_values" s_law_row_values ["row","kind"] fk fdk) : FnOk P w K mg base CX0 13 f fd ["row","kind"] (svalue K 5) := by
 have v0 : FnOk P w K mg base CX0 (2 * 0 + 3) f fd ["row","kind"] (svalue K 0) := fn_none fun vs H Q E z => by
  obtain ⟨_,_,a,_,_,_,e,_,_,_,g,_⟩ := z
  have := g.pos
  lia
 have p0 := ok_law_row_values T 0 R V v0
 have v1 := ok_law_value T 0 V R v0 p0
 have p1 := ok_law_row_values T 1 R V v1
 have v2 := ok_law_value T 1 V R v1 p1
 have p2 := ok_law_row_values T 2 R V v2
 have v3 := ok_law_value T 2 V R v2 p2
 have p3 := ok_law_row_values T 3 R V v3
 have v4 := ok_law_value T 3 V R v3 p3
 have p4 := ok_law_row_values T 4 R V v4
 exact ok_law_value T 4 V R v4 p4
theorem at0 {α : Type} (c : α) (r : List α) : atI (c :: r) 0 = some c := by
 have e : atI (c :: r) ((0 : Nat) : Int) = some c := atI_nat (by rfl)
 exact e
theorem at1 {α : Type} (c d : α) (r : List α) : atI (c :: d :: r) 1 = some d := by
 have e : atI (c :: d :: r) ((1 : Nat) : Int) = some d := atI_nat (by rfl)
 exact e
inductive Sz : Dt → Prop
 | int (i : Int) : Sz (.int i)
 | str (z : Str) : z.length ≤ 100 → Sz (.str z)
 | tup {l : List Dt} : (∀ x ∈ l,Sz x) → l.length ≤ 20 → Sz (.tup l)
noncomputable def isInt : Dt → Bool
 | .int _ => true
 | _ => false
noncomputable def numB (i j : Int) : Dt → Bool
 | .int x => decide (i ≤ x) && decide (x ≤ j)
 | _ => false
noncomputable def txtB (i : Int) : Dt → Bool
 | .str z => decide ((z.length : Int) ≤ i) && z.cps.toList.all okC
 | _ => false
noncomputable def htB (w : Str) : Dt → Bool
 | .tup [a,.tup _] => eqD a (.str w)
 | _ => false
inductive I_sp_is_whole (K : PySem.W.Frag)   (vs : List V) (H : Hp) (Q : VK) : Prop
 | mk (d : Dt) (x : V) : (vs = [x]) → (IsP K H d x) → (Sz d) → (Q (.bl (isInt d)) H) → I_sp_is_whole K vs H Q
noncomputable def sp_is_whole (K : PySem.W.Frag) (_ : Ads)  : Sp := fun vs H Q _ => I_sp_is_whole K vs H Q
theorem ok_is_whole (T : Tx K mg ad) {f : Addr} {fd : FuncData} (F : Gn K mg "is_whole" s_is_whole ["thing"] f fd) : FnOk P w K mg base CX0 1 f fd ["thing"] (sp_is_whole K ad) := by
 refine F.F.ok sc_is_whole (fun vs H Q E h => ?_) (fun cdv A outer s H vs Q E hr h => ?_)
 ·obtain ⟨d,x,rfl,_⟩ := h
  rfl
 obtain ⟨d,x,rfl,hd,sz,q⟩ := h
 refine ⟨_,(@pss_one _ _ _ (@ps_ret _ _ _ _ (pe_and (pe_callB (call_isiN' (K := K) rfl) rfl T.z_isinstance boot_isinstance (@pa_cons _ _ _ _ _ (pv 0) (@pa_cons _ _ _ _ _ (pe_gty rfl T.z_int boot_int) pa_nil (by rfl)) (by rfl))) (pe_one (pe_not (pe_callB (call_isiN' (K := K) rfl) rfl T.z_isinstance boot_isinstance (@pa_cons _ _ _ _ _ (pv 0) (@pa_cons _ _ _ _ _ (pe_gty rfl T.z_bool boot_bool) pa_nil (by rfl)) (by rfl)))))))),?_⟩
 cases sz with
 | int i =>
  obtain rfl := isIntV hd
  exact ⟨_,rfl,_,_,_,rfl,.int_int,_,rfl,iteT ⟨_,rfl,_,_,_,rfl,.int_bool,_,rfl,q⟩⟩
 | str z _ =>
  obtain rfl := isStrV hd
  exact ⟨_,rfl,_,_,_,rfl,.str_int,_,rfl,iteF q⟩
 | tup h1 h2 =>
  refine goal_name fun gg hgg => ?_
  obtain ⟨a,xs,ex,ha,_⟩ := hd.unref
  refine hgg ?_
  clear hgg gg
  have isi : IsiB K H x "int" false := by rw [ex]; exact .tup_int ha
  exact ⟨_,rfl,_,_,_,rfl,isi,_,rfl,iteF q⟩
inductive I_sp_is_whole_within (K : PySem.W.Frag)   (vs : List V) (H : Hp) (Q : VK) : Prop
 | mk (d : Dt) (x : V) (i j : Int) : (vs = [x,.int i,.int j]) → (IsP K H d x) → (Sz d) → (Q (.bl (numB i j d)) H) → I_sp_is_whole_within K vs H Q
noncomputable def sp_is_whole_within (K : PySem.W.Frag) (_ : Ads)  : Sp := fun vs H Q _ => I_sp_is_whole_within K vs H Q
theorem ok_is_whole_within (T : Tx K mg ad) {f : Addr} {fd : FuncData} (F : Gn K mg "is_whole_within" s_is_whole_within ["thing","low","high"] f fd) : FnOk P w K mg base CX0 2 f fd ["thing","low","high"] (sp_is_whole_within K ad) := by
 obtain ⟨f_is_whole,fd_is_whole,D_is_whole⟩ := T.is_whole
 have G_is_whole := ok_is_whole (P := P) (w := w) (base := base) T D_is_whole
 refine F.F.ok sc_is_whole_within (fun vs H Q E h => ?_) (fun cdv A outer s H vs Q E hr h => ?_)
 ·obtain ⟨d,x,i,j,rfl,_⟩ := h
  rfl
 obtain ⟨d,x,i,j,rfl,hd,sz,q⟩ := h
 refine ⟨_,(@pss_one _ _ _ (@ps_ret _ _ _ _ (pe_and (pe_call G_is_whole (hr.mono (by first | decide | lia)) rfl D_is_whole.m D_is_whole.F.kp D_is_whole.b .nil pass0 (@pa_cons _ _ _ _ _ (pv 0) pa_nil (by rfl))) (pe_one (pe_chain op_le op_le (pv 1) (pv 0) (pv 2)))))),?_⟩
 cases sz with
 | int v =>
  obtain rfl := isIntV hd
  refine ⟨_,rfl,.int v,_,rfl,.int,.int v,_,rfl,iteT ?_⟩
  refine ⟨_,rfl,_,rfl,_,_,rfl,rfl,_,rfl,?_⟩
  by_cases h1 : i ≤ v
  ·rw [decide_eq_true h1]
   refine iteT ⟨_,rfl,_,_,rfl,rfl,?_⟩
   have e : numB i j (.int v) = decide (v ≤ j) := by simp [numB,h1]
   rw [e] at q
   exact q
  ·rw [decide_eq_false h1]
   refine iteF ?_
   have e : numB i j (.int v) = false := by simp [numB,h1]
   rw [e] at q
   exact q
 | str z hz => exact ⟨_,rfl,.str z,_,rfl,hd,.str z hz,_,rfl,iteF q⟩
 | tup h1 h2 => exact ⟨_,rfl,_,_,rfl,hd,.tup h1 h2,_,rfl,iteF q⟩
inductive I_sp_is_sign    (vs : List V) (H : Hp) (Q : VK) : Prop
 | mk (c : Nat) : (vs = [.str ⟨#[c]⟩]) → (Q (.bl (okC c)) H) → I_sp_is_sign  vs H Q
noncomputable def sp_is_sign (_ : PySem.W.Frag) (_ : Ads)  : Sp := fun vs H Q _ => I_sp_is_sign  vs H Q
theorem lt1 {a b : Nat} : (([a] : List Nat) < [b]) ↔ a < b := by
 rw [List.cons_lt_cons_iff]
 constructor
 ·rintro (h | ⟨_,h⟩)
  ·exact h
  ·exact absurd h (List.lt_irrefl _)
 ·exact .inl
theorem okC_eq (c : Nat) : okC c = ((decide (32 ≤ c) && decide (c ≤ 126)) && (!decide (c = 34) && !decide (c = 37))) := by
 unfold okC
 simp only [Bool.and_assoc]
theorem ok_is_sign (T : Tx K mg ad) {f : Addr} {fd : FuncData} (F : Gn K mg "is_sign" s_is_sign ["letter"] f fd) : FnOk P w K mg base CX0 1 f fd ["letter"] (sp_is_sign K ad) := by
 obtain ⟨t_PERCENT,c_PERCENT⟩ := T.PERCENT
 refine F.F.ok sc_is_sign (fun vs H Q E h => ?_) (fun cdv A outer s H vs Q E hr h => ?_)
 ·obtain ⟨c,rfl,_⟩ := h
  rfl
 obtain ⟨c,rfl,q⟩ := h
 rw [okC_eq] at q
 refine ⟨_,(@pss_one _ _ _ (@ps_ret _ _ _ _ (pe_and (pe_chain op_le_str op_le_str pe_str (pv 0) pe_str) (pe_and (pe_cmpR op_ne (pv 0) pe_str (nomark _)) (pe_one (pe_cmpR op_ne (pe_callB call_ord rfl T.z_ord boot_ord (@pa_cons _ _ _ _ _ (pv 0) pa_nil (by rfl))) (pe_gint rfl c_PERCENT) (nomark _))))))),?_⟩
 refine ⟨_,rfl,_,_,rfl,rfl,_,rfl,?_⟩
 have e1 : (!decide ((⟨#[c]⟩ : Str).cps.toList < (" " : Str).cps.toList)) = decide (32 ≤ c) := by
  have : ((⟨#[c]⟩ : Str).cps.toList < (" " : Str).cps.toList) ↔ c < 32 := lt1
  by_cases h : c < 32
  ·rw [decide_eq_true (this.mpr h),decide_eq_false (show ¬ 32 ≤ c by lia)]
   rfl
  ·rw [decide_eq_false (fun x => h (this.mp x)),decide_eq_true (show 32 ≤ c by lia)]
   rfl
 have e2 : (!decide (("~" : Str).cps.toList < (⟨#[c]⟩ : Str).cps.toList)) = decide (c ≤ 126) := by
  have : (("~" : Str).cps.toList < (⟨#[c]⟩ : Str).cps.toList) ↔ 126 < c := lt1
  by_cases h : 126 < c
  ·rw [decide_eq_true (this.mpr h),decide_eq_false (show ¬ c ≤ 126 by lia)]
   rfl
  ·rw [decide_eq_false (fun x => h (this.mp x)),decide_eq_true (show c ≤ 126 by lia)]
   rfl
 have e3 : (!decide (V.str ⟨#[c]⟩ = V.str "\"")) = !decide (c = 34) := by
  congr 1
  refine decide_eq_decide.mpr ⟨fun e => ?_,fun e => by rw [e]; rfl⟩
  have h5 : ([c] : List Nat) = ("\"" : Str).cps.toList := congrArg (fun z : Str => z.cps.toList) (V.str.inj e)
  rw [show ("\"" : Str).cps.toList = [34] by decide +kernel] at h5
  exact (List.cons.inj h5).1
 have e4 : (!decide (V.int ((⟨#[c]⟩ : Str).cps.getD 0 0 : Nat) = V.int 37)) = !decide (c = 37) := by
  congr 1
  refine decide_eq_decide.mpr ⟨fun e => ?_,fun e => by rw [e]; rfl⟩
  have e2 : (((c : Nat)) : Int) = 37 := V.int.inj e
  lia
 rw [e1]
 by_cases h1 : 32 ≤ c
 ·rw [decide_eq_true h1] at q ⊢
  refine iteT ⟨_,_,rfl,rfl,?_⟩
  rw [e2]
  by_cases h2 : c ≤ 126
  ·rw [decide_eq_true h2] at q ⊢
   refine ⟨_,rfl,iteT ⟨_,rfl,rfl,_,rfl,?_⟩⟩
   rw [e3]
   by_cases h3 : c = 34
   ·rw [decide_eq_true h3] at q ⊢
    exact iteF q
   ·rw [decide_eq_false h3] at q ⊢
    refine iteT ⟨_,rfl,_,rfl,rfl,rfl,?_⟩
    rw [e4]
    exact q
  ·rw [decide_eq_false h2] at q ⊢
   exact ⟨_,rfl,iteF q⟩
 ·rw [decide_eq_false h1] at q ⊢
  exact iteF ⟨_,rfl,iteF q⟩
inductive I_sp_is_text_of (K : PySem.W.Frag)   (vs : List V) (H : Hp) (Q : VK) : Prop
 | mk (d : Dt) (x : V) (i : Int) : (vs = [x,.int i]) → (IsP K H d x) → (Sz d) → (∀ H',Same H H' → Q (.bl (txtB i d)) H') → I_sp_is_text_of K vs H Q
noncomputable def sp_is_text_of (K : PySem.W.Frag) (_ : Ads)  : Sp := fun vs H Q _ => I_sp_is_text_of K vs H Q
theorem ok_is_text_of (T : Tx K mg ad) {f : Addr} {fd : FuncData} (F : Gn K mg "is_text_of" s_is_text_of ["value","most"] f fd) : FnOk P w K mg base CX0 2 f fd ["value","most"] (sp_is_text_of K ad) := by
 obtain ⟨f_is_sign,fd_is_sign,D_is_sign⟩ := T.is_sign
 have G_is_sign := ok_is_sign (P := P) (w := w) (base := base) T D_is_sign
 refine F.F.ok sc_is_text_of (fun vs H Q E h => ?_) (fun cdv A outer s H vs Q E hr h => ?_)
 ·obtain ⟨d,x,i,rfl,_⟩ := h
  rfl
 obtain ⟨d,x,i,rfl,hd,sz,q⟩ := h
 refine ⟨_,(@pss_cons _ _ _ _ _ (@ps_if _ _ _ _ _ _ _ _ (PW.pt (@pw_or _ _ _ _ _ _ _ (@pt_not _ _ _ _ (@pt_val _ _ _ (pe_callB (call_isiN' (K := K) rfl) rfl T.z_isinstance boot_isinstance (@pa_cons _ _ _ _ _ (pv 0) (@pa_cons _ _ _ _ _ (pe_gty rfl T.z_str boot_str) pa_nil (by rfl)) (by rfl))) (by intro _; rfl))) (@pw_or1 _ _ _ _ (pt_cmpR op_gt (pe_callB call_len_str rfl T.z_len PySem.boot_len (@pa_cons _ _ _ _ _ (pv 0) pa_nil (by rfl))) (pv 1) (nomark _))))) (@pss_one _ _ _ (@ps_ret _ _ _ _ pe_bl)) pss_nil) (@pss_one _ _ _ (@ps_ret _ _ _ _ (pe_callB (call_allN (K := K) rfl rfl) rfl T.z_all boot_all (@pa_cons _ _ _ _ _ (pe_comp rfl (cs0 (NL := ["letter"]) rfl (by decide +kernel) (by decide +kernel)) (pi_str (pv 0)) (fun _ _ _ _ => (pg_name (i := 0) (show List.Nodup (α := Str) ["letter"] by decide +kernel) rfl (Or.inl rfl))) (fun _ _ _ _ => (pe_call G_is_sign (hr.mono (by first | decide | lia)) rfl D_is_sign.m D_is_sign.F.kp D_is_sign.b .nil pass0 (@pa_cons _ _ _ _ _ (pv 0) pa_nil (by rfl))))) pa_nil (by rfl)))))),?_⟩
 cases sz with
 | int v =>
  obtain rfl := isIntV hd
  exact ⟨_,rfl,_,_,_,rfl,.int_str,_,rfl,iteT (iteT (q H (Same.refl _)))⟩
 | tup h1 h2 =>
  refine goal_name fun gg hgg => ?_
  obtain ⟨a,xs,ex,ha,_⟩ := hd.unref
  refine hgg ?_
  clear hgg gg
  have isi : IsiB K H x "str" false := by rw [ex]; exact .tup_str ha
  exact ⟨_,rfl,_,_,_,rfl,isi,_,rfl,iteT (iteT (q H (Same.refl _)))⟩
 | str z hz =>
  obtain rfl := isStrV hd
  refine ⟨_,rfl,_,_,_,rfl,.str_str,_,rfl,iteF ?_⟩
  refine ⟨_,rfl,_,rfl,small (by lia),_,rfl,_,_,rfl,rfl,_,rfl,?_⟩
  by_cases hl : i < (z.length : Int)
  ·rw [decide_eq_true hl]
   refine iteT ?_
   have e : txtB i (.str z) = false := by
    simp [txtB]
    intro h
    lia
   rw [e] at q
   exact q H (Same.refl _)
  ·rw [decide_eq_false hl]
   refine iteF ?_
   refine ⟨_,rfl,_,rfl,fun l hln => ?_⟩
   refine comp_strR (fun j ys σ H' => ys = bls ((z.cps.toList.take j).map okC) ∧ j ≤ z.length ∧ Same H H' ∧ H' l = some (.lst ys) ∧ ∃ v1,σ = [v1]) ⟨rfl,Nat.zero_le _,same_new hln _,upd_same,none,rfl⟩ ?_ ?_
   ·rintro j c ys σ H1 N hc ⟨rfl,hj,g1,e1,v1,rfl⟩ next
    have hj2 : j < z.cps.size := (Array.getElem?_eq_some_iff.mp hc).1
    have hzz : z.cps.size = z.length := rfl
    have hc' : z.cps.toList[j]? = some c := by rw [Array.getElem?_toList]; exact hc
    refine ⟨_,rfl,c,rfl,e1,?_,next _ _ _ ⟨?_,by lia,same_upd hln g1,upd_same,_,rfl⟩⟩
    ·rw [bls,List.length_map,List.length_map,List.length_take]; exact small1000 (by lia)
    ·unfold bls
     rw [List.take_add_one,hc',List.map_append,List.map_append]
     rfl
   ·intro ys σ H1 hI9
    refine goal_name fun gg hgg => ?_
    obtain ⟨rfl,hj,g1,e1,v1,rfl⟩ := hI9
    refine hgg ?_
    clear hgg gg
    refine ⟨l,_,rfl,rfl,SqL.of e1,?_⟩
    have e : txtB i (.str z) = ((z.cps.toList.take z.cps.size).map okC).all id := by
     rw [show z.cps.size = z.cps.toList.length from Array.length_toList.symm,List.take_length,List.all_map]
     show (decide ((z.length : Int) ≤ i) && z.cps.toList.all okC) = _
     rw [decide_eq_true (by lia),Bool.true_and]
     rfl
    rw [e] at q
    exact q H1 g1
inductive I_sp_holds_tuple (K : PySem.W.Frag)   (vs : List V) (H : Hp) (Q : VK) : Prop
 | mk (d : Dt) (x : V) (z : Str) : (vs = [x,.str z]) → (IsP K H d x) → (Sz d) → (d.dep ≤ 55) → (Q (.bl (htB z d)) H) → I_sp_holds_tuple K vs H Q
noncomputable def sp_holds_tuple (K : PySem.W.Frag) (_ : Ads)  : Sp := fun vs H Q _ => I_sp_holds_tuple K vs H Q
theorem isi_tup {K : PySem.W.Frag} {H : Hp} {d : Dt} {x : V} (hd : IsP K H d x) (sz : Sz d) : IsiB K H x "tuple" (match d with | .tup _ => true | _ => false) := by
 cases sz with
 | int i => obtain rfl := isIntV hd; exact .int_tuple
 | str z _ => obtain rfl := isStrV hd; exact .str_tuple
 | tup h1 h2 =>
  obtain ⟨a,xs,rfl,ha,_⟩ := hd.unref
  exact .tup_tuple ha
theorem dep_mem : ∀ {l : List Dt} {x : Dt},x ∈ l → x.dep ≤ depS l
 | d :: l,x,h => by
  simp only [depS]
  rcases List.mem_cons.mp h with rfl | h
  ·lia
  ·have := dep_mem h
   lia
theorem ok_holds_tuple (T : Tx K mg ad) {f : Addr} {fd : FuncData} (F : Gn K mg "holds_tuple" s_holds_tuple ["value","word"] f fd) : FnOk P w K mg base CX0 1 f fd ["value","word"] (sp_holds_tuple K ad) := by
 refine F.F.ok sc_holds_tuple (fun vs H Q E h => ?_) (fun cdv A outer s H vs Q E hr h => ?_)
 ·obtain ⟨d,x,z,rfl,_⟩ := h
  rfl
 obtain ⟨d,x,z,rfl,hd,sz,dp,q⟩ := h
 refine ⟨_,(@pss_one _ _ _ (@ps_ret _ _ _ _ (pe_and (pe_callB (call_isiN' (K := K) rfl) rfl T.z_isinstance boot_isinstance (@pa_cons _ _ _ _ _ (pv 0) (@pa_cons _ _ _ _ _ (pe_gty rfl T.z_tuple boot_tuple) pa_nil (by rfl)) (by rfl))) (pe_and (pe_cmpR op_eq (pe_callB (call_lenDN (K := K) rfl) rfl T.z_len PySem.boot_len (@pa_cons _ _ _ _ _ (pv 0) pa_nil (by rfl))) pe_int (nomark _)) (pe_and (pe_cmpR (op_eqDK (K := K) rfl hr.units) (@pe_ix _ _ _ _ _ _ _ (ix_tupPN (K := K) rfl) (pv 0) pe_int (fun _ _ => rfl)) (pv 1) (nomark _)) (pe_one (pe_callB (call_isiN' (K := K) rfl) rfl T.z_isinstance boot_isinstance (@pa_cons _ _ _ _ _ (@pe_ix _ _ _ _ _ _ _ (ix_tupPN (K := K) rfl) (pv 0) pe_int (fun _ _ => rfl)) (@pa_cons _ _ _ _ _ (pe_gty rfl T.z_tuple boot_tuple) pa_nil (by rfl)) (by rfl))))))))),?_⟩
 have isi := isi_tup hd sz
 cases sz with
 | int i => exact ⟨_,rfl,_,_,_,rfl,isi,_,rfl,iteF q⟩
 | str z' _ => exact ⟨_,rfl,_,_,_,rfl,isi,_,rfl,iteF q⟩
 | @tup l h1 h2 =>
  refine ⟨_,rfl,_,_,_,rfl,isi,_,rfl,iteT ?_⟩
  refine ⟨_,rfl,x,_,rfl,hd.d,rfl,_,rfl,?_⟩
  match l,h1,h2,hd,isi,dp,q with
  | [a,b],h1,h2,hd,isi,dp,q =>
   refine iteY ?_
   have sa := h1 a List.mem_cons_self
   have sb := h1 b (List.mem_cons_of_mem _ List.mem_cons_self)
   refine s_ix rfl hd rfl fun v hv => ?_
   refine ⟨_,rfl,a,.str z,hv.d,.str,?_,_,rfl,?_⟩
   ·have := dep_mem (l := [a,b]) (x := a) List.mem_cons_self
    simp only [Dt.dep] at dp
    lia
   cases he : eqD a (.str z) with
   | false =>
    refine iteF ?_
    have e : htB z (.tup [a,b]) = false := by
     cases sb with
     | int _ => rfl
     | str _ _ => rfl
     | tup _ _ => exact he
    rw [e] at q
    exact q
   | true =>
    refine iteT ?_
    refine s_ix rfl hd rfl fun v2 hv2 => ?_
    refine ⟨_,_,_,rfl,isi_tup hv2 sb,?_⟩
    cases sb with
    | int _ => exact q
    | str _ _ => exact q
    | @tup l' _ _ =>
     have e : htB z (.tup [a,.tup l']) = true := he
     rw [e] at q
     exact q
  | [],h1,h2,hd,isi,dp,q => exact iteN (by decide) q
  | [a],h1,h2,hd,isi,dp,q => exact iteN (fun e => absurd (V.int.inj e) (by simp)) q
  | a :: b :: c :: r,h1,h2,hd,isi,dp,q =>
   have e : htB z (.tup (a :: b :: c :: r)) = false := by cases b <;> rfl
   rw [e] at q
   refine iteN ?_ q
   intro e
   have := V.int.inj e
   simp only [List.length_cons] at this
   lia
theorem cutV_tail' (xs : List V) : cutV xs (some 1) none = xs.drop 1 := by
 have e1 : HT.sIx xs.length 0 (some 1) = min 1 xs.length := by
  have := HT.sIx_nat xs.length 0 1
  exact this
 have e2 : HT.sIx xs.length xs.length none = xs.length := HT.sIx_none _ _
 unfold cutV
 rw [e1,e2]
 cases xs with
 | nil => rfl
 | cons x r =>
  rw [show min 1 (x :: r).length = 1 from Nat.min_eq_left (by simp)]
  simp
noncomputable def ltD : Dt → Dt → Bool
 | .int m,.int n => decide (m < n)
 | .str s,.str t => decide (ltS s t)
 | _,_ => false
noncomputable def ascB (l : List Dt) : Bool := ((l.zip (l.drop 1)).map fun p => ltD p.1 p.2).all id
noncomputable def choB (ws : List Dt) : Dt → Bool
 | .str z => ws.any fun d => eqD d (.str z)
 | _ => false
noncomputable def itF (f : Dt → Dt → Bool) (w : Str) (k : Dt) (i : Int) : Dt → Bool
 | .tup [a,.tup l] => eqD a (.str w) && (decide ((l.length : Int) ≤ i) && l.all (f k))
 | _ => false
noncomputable def prF (f : Dt → Dt → Bool) (p : Dt × Dt) : Bool := match p with
 | (.tup [b,v],.tup [c,k]) => eqD b c && f k v
 | _ => false
noncomputable def rcF (f : Dt → Dt → Bool) (fs : List Dt) : Dt → Bool
 | .tup [a,.tup l] => eqD a (.str "record") && (decide (l.length = fs.length) && (l.zip fs).all (prF f))
 | _ => false
noncomputable def kyB (z : Str) : Dt → Bool
 | .tup [_,.tup l] => ascB (l.map fun v => keyD v z)
 | _ => false
noncomputable def of1 (f : Dt → Dt → Bool) (w : Str) (x e : Dt) : Bool := match x with
 | .int i => txtB i e
 | .tup l => if w = "choice" then choB l e else rcF f l e
 | _ => false
noncomputable def of2 (f : Dt → Dt → Bool) (w : Str) (x y e : Dt) : Bool := match y with
 | .int j => if w = "number" then (match x with
  | .int i => numB i j e
  | _ => false) else itF f "list" x j e
 | _ => false
noncomputable def of3 (f : Dt → Dt → Bool) (x y z e : Dt) : Bool := match x,z with
 | .str s,.int i => itF f "rows" y i e && kyB s e
 | _,_ => false
noncomputable def ofF (f : Dt → Dt → Bool) (d e : Dt) : Bool := match d with
 | .tup (.str w :: r) => (match r with
  | [x] => of1 f w x e
  | [x,y] => of2 f w x y e
  | [x,y,z] => of3 f x y z e
  | _ => false)
 | _ => false
noncomputable def ofN : Nat → Dt → Dt → Bool
 | 0,_,_ => false
 | n + 1,d,e => ofF (ofN n) d e
theorem of_number (n : Nat) (i j : Int) (e : Dt) : ofN (n + 1) (.tup [.str "number",.int i,.int j]) e = numB i j e := by
 show of2 (ofN n) "number" (.int i) (.int j) e = _
 unfold of2
 simp
theorem of_text (n : Nat) (i : Int) (e : Dt) : ofN (n + 1) (.tup [.str "text",.int i]) e = txtB i e := rfl
theorem of_choice (n : Nat) (ws : List Dt) (e : Dt) : ofN (n + 1) (.tup [.str "choice",.tup ws]) e = choB ws e := by
 show of1 (ofN n) "choice" (.tup ws) e = _
 unfold of1
 simp
theorem of_list (n : Nat) (k : Dt) (i : Int) (e : Dt) : ofN (n + 1) (.tup [.str "list",k,.int i]) e = itF (ofN n) "list" k i e := by
 show of2 (ofN n) "list" k (.int i) e = _
 unfold of2
 simp only
 rw [if_neg (by decide)]
theorem of_record (n : Nat) (fs : List Dt) (e : Dt) : ofN (n + 1) (.tup [.str "record",.tup fs]) e = rcF (ofN n) fs e := by
 show of1 (ofN n) "record" (.tup fs) e = _
 unfold of1
 simp only
 rw [if_neg (by decide)]
theorem of_rows (n : Nat) (z : Str) (k : Dt) (i : Int) (e : Dt) : ofN (n + 1) (.tup [.str "rows",.str z,k,.int i]) e = (itF (ofN n) "rows" k i e && kyB z e) := rfl
theorem eqD_str {a : Dt} {z : Str} (h : eqD a (.str z) = true) : a = .str z := by
 cases a with
 | str y =>
  have : y = z := by simpa [eqD] using h
  rw [this]
 | non => simp [eqD] at h
 | bl _ => simp [eqD] at h
 | int _ => simp [eqD] at h
 | tup _ => simp [eqD] at h
theorem ht_true {z : Str} {e : Dt} (h : htB z e = true) : ∃ l,e = .tup [.str z,.tup l] := by
 unfold htB at h
 split at h
 ·exact ⟨_,by rw [eqD_str h]⟩
 ·cases h
theorem ht_it {z : Str} {e k : Dt} {i : Int} {f : Dt → Dt → Bool} (h : htB z e = false) : itF f z k i e = false := by
 unfold itF
 split
 ·rename_i a l
  have h' : eqD a (.str z) = false := h
  rw [h']
  rfl
 ·rfl
theorem ht_rc {e : Dt} {fs : List Dt} {f : Dt → Dt → Bool} (h : htB "record" e = false) : rcF f fs e = false := by
 unfold rcF
 split
 ·rename_i a l
  have h' : eqD a (.str "record") = false := h
  rw [h']
  rfl
 ·rfl
theorem sz_in {z : Str} {l : List Dt} (h : Sz (.tup [.str z,.tup l])) : (∀ x ∈ l,Sz x) ∧ l.length ≤ 20 := by
 cases h with
 | tup h1 h2 =>
  have := h1 (.tup l) (List.mem_cons_of_mem _ List.mem_cons_self)
  cases this with
  | tup h3 h4 => exact ⟨h3,h4⟩
theorem dep_in {z : Str} {l : List Dt} {B : Nat} (h : (Dt.tup [.str z,.tup l]).dep ≤ B) : ∀ x ∈ l,x.dep + 2 ≤ B := by
 intro x hx
 have := dep_mem hx
 simp only [Dt.dep,depS] at h
 lia
inductive I_sisof (K : PySem.W.Frag) (n : Nat)  (vs : List V) (H : Hp) (Q : VK) : Prop
 | mk (a ct : Nat) (d e : Dt) (x y : V) : (a ≤ n) → (vs = [y,x]) → (IsP K H d x) → (IsP K H e y) → (FK a ct d) → (Sz e) → (e.dep ≤ 55) → (∀ H',Same H H' → Q (.bl (ofN n d e)) H') → I_sisof K n vs H Q
noncomputable def sisof (K : PySem.W.Frag) (n : Nat)  : Sp := fun vs H Q _ => I_sisof K n vs H Q
inductive I_sitems (K : PySem.W.Frag) (n : Nat)  (vs : List V) (H : Hp) (Q : VK) : Prop
 | mk (a ct : Nat) (d e : Dt) (z : Str) (x y : V) (i : Int) : (a ≤ n) → (vs = [y,.str z,x,.int i]) → (IsP K H d x) → (IsP K H e y) → (FK a ct d) → (Sz e) → (e.dep ≤ 55) → (∀ H',Same H H' → Q (.bl (itF (ofN n) z d i e)) H') → I_sitems K n vs H Q
noncomputable def sitems (K : PySem.W.Frag) (n : Nat)  : Sp := fun vs H Q _ => I_sitems K n vs H Q
inductive I_spairo (K : PySem.W.Frag) (n : Nat)  (vs : List V) (H : Hp) (Q : VK) : Prop
 | mk (a ct : Nat) (d e : Dt) (z : Str) (x y : V) : (a ≤ n) → (vs = [y,x]) → (IsP K H (prD (z,d)) x) → (IsP K H e y) → (FK a ct d) → (Sz e) → (e.dep ≤ 55) → (∀ H',Same H H' → Q (.bl (prF (ofN n) (e,prD (z,d)))) H') → I_spairo K n vs H Q
noncomputable def spairo (K : PySem.W.Frag) (n : Nat)  : Sp := fun vs H Q _ => I_spairo K n vs H Q
inductive I_srecof (K : PySem.W.Frag) (n : Nat)  (vs : List V) (H : Hp) (Q : VK) : Prop
 | mk (fs : List (Str × Dt)) (e : Dt) (x y : V) : (vs = [y,x]) → (IsP K H (.tup (fs.map prD)) x) → (IsP K H e y) → ((∀ f ∈ fs,∃ a ct,a ≤ n ∧ FK a ct f.2)) → (fs.length ≤ 8) → (Sz e) → (e.dep ≤ 55) → (∀ H',Same H H' → Q (.bl (rcF (ofN n) (fs.map prD) e)) H') → I_srecof K n vs H Q
noncomputable def srecof (K : PySem.W.Frag) (n : Nat)  : Sp := fun vs H Q _ => I_srecof K n vs H Q
theorem ok_holds_items (T : Tx K mg ad) {f fk : Addr} {fd fdk : FuncData} (n : Nat) (F : Gn K mg "holds_items" s_holds_items ["value","word","kind","most"] f fd) (D_is_of : Gn K mg "is_of" s_is_of ["value","kind"] fk fdk)
  (G_is_of : FnOk P w K mg base CX0 (3 * n + 3) fk fdk ["value","kind"] (sisof K n)) : FnOk P w K mg base CX0 (3 * n + 3 + 1) f fd ["value","word","kind","most"] (sitems K n) := by
 obtain ⟨f_holds_tuple,fd_holds_tuple,D_holds_tuple⟩ := T.holds_tuple
 have G_holds_tuple := ok_holds_tuple (P := P) (w := w) (base := base) T D_holds_tuple
 refine F.F.ok sc_holds_items (fun vs H Q E h => ?_) (fun cdv A outer s H vs Q E hr h => ?_)
 ·obtain ⟨a,ct,d,e,z,x,y,i,_,rfl,_⟩ := h
  rfl
 obtain ⟨a,ct,d,e,z,x,y,i,ha,rfl,hd,he,gk,sz,dp,q⟩ := h
 refine ⟨_,(@pss_cons _ _ _ _ _ (@ps_if _ _ _ _ _ _ _ _ (PW.pt (@pw_or _ _ _ _ _ _ _ (@pt_not _ _ _ _ (@pt_val _ _ _ (pe_call G_holds_tuple (hr.mono (by first | decide | lia)) rfl D_holds_tuple.m D_holds_tuple.F.kp D_holds_tuple.b .nil pass0 (@pa_cons _ _ _ _ _ (pv 0) (@pa_cons _ _ _ _ _ (pv 1) pa_nil (by rfl)) (by rfl))) (by intro _; rfl))) (@pw_or1 _ _ _ _ (pt_cmpR op_gt (pe_callB (call_lenDN (K := K) rfl) rfl T.z_len PySem.boot_len (@pa_cons _ _ _ _ _ (@pe_ix _ _ _ _ _ _ _ (ix_tupPN (K := K) rfl) (pv 0) pe_int (fun _ _ => rfl)) pa_nil (by rfl))) (pv 3) (nomark _))))) (@pss_one _ _ _ (@ps_ret _ _ _ _ pe_bl)) pss_nil) (@pss_one _ _ _ (@ps_ret _ _ _ _ (pe_callB (call_allN (K := K) rfl rfl) rfl T.z_all boot_all (@pa_cons _ _ _ _ _ (pe_comp rfl (csR (sc := defScope s_holds_items) (NL := ["item"]) (N := ["value","word","kind","most"]) (ρ := [2]) (N' := ["item","kind"]) rfl rfl rfl (by decide +kernel) (by decide +kernel) (by decide +kernel) rfl (by decide +kernel)) (pi_tupN (K := K) rfl (@pe_ix _ _ _ _ _ _ _ (ix_tupPN (K := K) rfl) (pv 0) pe_int (fun _ _ => rfl))) (fun _ _ _ _ => (pg_name (i := 0) (show List.Nodup (α := Str) ["item","kind"] by decide +kernel) rfl (Or.inl rfl))) (fun _ _ _ _ => (pe_call G_is_of (hr.mono (by first | decide | lia)) rfl D_is_of.m D_is_of.F.kp D_is_of.b .nil pass0 (@pa_cons _ _ _ _ _ (pv 0) (@pa_cons _ _ _ _ _ (pv 1) pa_nil (by rfl)) (by rfl))))) pa_nil (by rfl)))))),?_⟩
 refine ⟨_,rfl,_,rfl,e,y,z,rfl,he,sz,dp,_,rfl,?_⟩
 cases ht : htB z e with
 | false =>
  rw [ht_it ht] at q
  exact iteT (iteT (q H (Same.refl _)))
 | true =>
  refine iteF ?_
  obtain ⟨l,rfl⟩ := ht_true ht
  obtain ⟨szl,l20⟩ := sz_in sz
  have dpl := dep_in dp
  have eit : itF (ofN n) z d i (.tup [.str z,.tup l]) = (decide ((l.length : Int) ≤ i) && l.all (ofN n d)) := by
   show (eqD (.str z) (.str z) && _) = _
   rw [eqD_refl,Bool.true_and]
  rw [eit] at q
  refine ⟨_,rfl,_,_,_,he,rfl,rfl,fun v hv => ⟨v,_,rfl,hv.d,_,rfl,_,_,rfl,rfl,_,rfl,?_⟩⟩
  by_cases hl : i < (l.length : Int)
  ·rw [decide_eq_true hl]
   rw [decide_eq_false (show ¬ (l.length : Int) ≤ i by lia)] at q
   exact iteT (q H (Same.refl _))
  ·rw [decide_eq_false hl]
   rw [decide_eq_true (show (l.length : Int) ≤ i by lia),Bool.true_and] at q
   refine iteF ?_
   refine s_ix rfl he rfl fun v hv => ?_
   refine goal_name fun gg hgg => ?_
   obtain ⟨b,xs,rfl,hb,pb,rb⟩ := hv.unref
   refine hgg ?_
   clear hgg gg
   have el := rb.length
   refine ⟨b,rfl,⟨xs,hb⟩,fun l2 hl2 => ?_⟩
   refine comp_tupR (K := K) (xs := xs) (fun i ys σ H' => ys = bls ((l.take i).map (ofN n d)) ∧ i ≤ l.length ∧ Same H H' ∧ H' l2 = some (.lst ys) ∧ ∃ v1,σ = [v1,some x]) ⟨rfl,Nat.zero_le _,same_new hl2 _,upd_same,none,rfl⟩ (fun i ys σ H' _ r => r.2.2.1.tup hb) ?_ ?_
   ·rintro j u ys σ H2 N hu ⟨rfl,hj,g2,e2,v1,rfl⟩ next
    have hj2 : j < xs.length := (List.getElem?_eq_some_iff.mp hu).1
    refine goal_name fun gg hgg => ?_
    obtain ⟨e,he',hp⟩ := rb.get' hu
    refine hgg ?_
    clear hgg gg
    have me := List.mem_of_getElem? he'
    refine ⟨_,rfl,_,rfl,a,ct,d,e,x,u,ha,rfl,hd.same g2,hp.same g2,gk,szl e me,by have := dpl e me; lia,fun H3 g3 => ?_⟩
    refine ⟨g3 _ _ e2,?_,next _ _ _ ⟨?_,by lia,same_upd hl2 (g2.trans g3),upd_same,_,rfl⟩⟩
    ·rw [bls,List.length_map,List.length_map,List.length_take]; exact small1000 (by lia)
    ·unfold bls
     rw [List.take_add_one,he',List.map_append,List.map_append]
     rfl
   ·intro ys σ H2 hI9
    refine goal_name fun gg hgg => ?_
    obtain ⟨rfl,hj,g2,e2,v1,rfl⟩ := hI9
    refine hgg ?_
    clear hgg gg
    refine ⟨l2,_,rfl,rfl,SqL.of e2,?_⟩
    rw [← el,List.take_length,List.all_map]
    exact q H2 g2
theorem ok_is_pair_of (T : Tx K mg ad) {f fk : Addr} {fd fdk : FuncData} (n : Nat) (F : Gn K mg "is_pair_of" s_is_pair_of ["pair","field"] f fd) (D_is_of : Gn K mg "is_of" s_is_of ["value","kind"] fk fdk)
  (G_is_of : FnOk P w K mg base CX0 (3 * n + 3) fk fdk ["value","kind"] (sisof K n)) : FnOk P w K mg base CX0 (3 * n + 3 + 1) f fd ["pair","field"] (spairo K n) := by
 refine F.F.ok sc_is_pair_of (fun vs H Q E h => ?_) (fun cdv A outer s H vs Q E hr h => ?_)
 ·obtain ⟨a,ct,d,e,z,x,y,_,rfl,_⟩ := h
  rfl
 obtain ⟨a,ct,d,e,z,x,y,ha,rfl,hd,he,gk,sz,dp,q⟩ := h
 refine ⟨_,(@pss_cons _ _ _ _ _ (@ps_if _ _ _ _ _ _ _ _ (PW.pt (@pw_or _ _ _ _ _ _ _ (@pt_not _ _ _ _ (@pt_val _ _ _ (pe_callB (call_isiN' (K := K) rfl) rfl T.z_isinstance boot_isinstance (@pa_cons _ _ _ _ _ (pv 0) (@pa_cons _ _ _ _ _ (pe_gty rfl T.z_tuple boot_tuple) pa_nil (by rfl)) (by rfl))) (by intro _; rfl))) (@pw_or1 _ _ _ _ (pt_cmpR op_ne (pe_callB (call_lenDN (K := K) rfl) rfl T.z_len PySem.boot_len (@pa_cons _ _ _ _ _ (pv 0) pa_nil (by rfl))) pe_int (nomark _))))) (@pss_one _ _ _ (@ps_ret _ _ _ _ pe_bl)) pss_nil) (@pss_one _ _ _ (@ps_ret _ _ _ _ (pe_and (pe_cmpR (op_eqDK (K := K) rfl hr.units) (@pe_ix _ _ _ _ _ _ _ (ix_tupPN (K := K) rfl) (pv 0) pe_int (fun _ _ => rfl)) (@pe_ix _ _ _ _ _ _ _ (ix_tupPN (K := K) rfl) (pv 1) pe_int (fun _ _ => rfl)) (nomark _)) (pe_one (pe_call G_is_of (hr.mono (by first | decide | lia)) rfl D_is_of.m D_is_of.F.kp D_is_of.b .nil pass0 (@pa_cons _ _ _ _ _ (@pe_ix _ _ _ _ _ _ _ (ix_tupPN (K := K) rfl) (pv 0) pe_int (fun _ _ => rfl)) (@pa_cons _ _ _ _ _ (@pe_ix _ _ _ _ _ _ _ (ix_tupPN (K := K) rfl) (pv 1) pe_int (fun _ _ => rfl)) pa_nil (by rfl)) (by rfl)))))))),?_⟩
 have hd' : IsP K H (.tup [.str z,d]) x := hd
 have isi := isi_tup he sz
 have fin := q H (Same.refl _)
 cases sz with
 | int i => exact ⟨_,rfl,_,_,_,rfl,isi,_,rfl,iteT (iteT fin)⟩
 | str z' _ => exact ⟨_,rfl,_,_,_,rfl,isi,_,rfl,iteT (iteT fin)⟩
 | @tup l h1 h2 =>
  refine ⟨_,rfl,_,_,_,rfl,isi,_,rfl,iteF ?_⟩
  refine ⟨_,rfl,y,_,rfl,he.d,rfl,_,rfl,?_⟩
  match l,h1,h2,he,isi,dp,q,fin with
  | [a',b],h1,h2,he,isi,dp,q,fin =>
   refine iteN' ?_
   have d1 := dep_mem (l := [a',b]) (x := a') List.mem_cons_self
   have d2 := dep_mem (l := [a',b]) (x := b) (List.mem_cons_of_mem _ List.mem_cons_self)
   have d3 : (Dt.tup [a',b]).dep = depS [a',b] + 1 := by simp only [Dt.dep]
   have sb := h1 b (List.mem_cons_of_mem _ List.mem_cons_self)
   refine s_ix rfl he rfl fun v hv => ?_
   refine s_ix rfl hd' rfl fun v2 hv2 => ?_
   refine ⟨a',.str z,hv.d,hv2.d,by lia,_,rfl,?_⟩
   cases hq : eqD a' (.str z) with
   | false =>
    refine iteF ?_
    have e : prF (ofN n) (.tup [a',b],prD (z,d)) = false := by
     show (eqD a' (.str z) && ofN n d b) = false
     rw [hq]
     rfl
    rw [e] at fin
    exact fin
   | true =>
    refine iteT ?_
    have e : prF (ofN n) (.tup [a',b],prD (z,d)) = ofN n d b := by
     show (eqD a' (.str z) && ofN n d b) = _
     rw [hq]
     rfl
    rw [e] at q
    refine s_ix rfl he rfl fun v3 hv3 => ?_
    refine s_ix rfl hd' rfl fun v4 hv4 => ?_
    exact ⟨a,ct,d,b,v4,v3,ha,rfl,hv4,hv3,gk,sb,by lia,q⟩
  | [],h1,h2,he,isi,dp,q,fin => exact iteY' (by decide) fin
  | [a'],h1,h2,he,isi,dp,q,fin => exact iteY' (fun e => absurd (V.int.inj e) (by simp)) fin
  | a' :: b :: c :: r,h1,h2,he,isi,dp,q,fin =>
   refine iteY' ?_ fin
   intro e
   have := V.int.inj e
   simp only [List.length_cons] at this
   lia
theorem ok_is_record_of (T : Tx K mg ad) {f fk : Addr} {fd fdk : FuncData} (n : Nat) (F : Gn K mg "is_record_of" s_is_record_of ["value","fields"] f fd) (D_is_pair_of : Gn K mg "is_pair_of" s_is_pair_of ["pair","field"] fk fdk)
  (G_is_pair_of : FnOk P w K mg base CX0 (3 * n + 4) fk fdk ["pair","field"] (spairo K n)) : FnOk P w K mg base CX0 (3 * n + 4 + 1) f fd ["value","fields"] (srecof K n) := by
 obtain ⟨f_holds_tuple,fd_holds_tuple,D_holds_tuple⟩ := T.holds_tuple
 have G_holds_tuple := ok_holds_tuple (P := P) (w := w) (base := base) T D_holds_tuple
 refine F.F.ok sc_is_record_of (fun vs H Q E h => ?_) (fun cdv A outer s H vs Q E hr h => ?_)
 ·obtain ⟨fs,e,x,y,rfl,_⟩ := h
  rfl
 obtain ⟨fs,e,x,y,rfl,hd,he,gk,h8,sz,dp,q⟩ := h
 refine ⟨_,(@pss_cons _ _ _ _ _ (@ps_if _ _ _ _ _ _ _ _ (PW.pt (@pw_or _ _ _ _ _ _ _ (@pt_not _ _ _ _ (@pt_val _ _ _ (pe_call G_holds_tuple (hr.mono (by first | decide | lia)) rfl D_holds_tuple.m D_holds_tuple.F.kp D_holds_tuple.b .nil pass0 (@pa_cons _ _ _ _ _ (pv 0) (@pa_cons _ _ _ _ _ pe_str pa_nil (by rfl)) (by rfl))) (by intro _; rfl))) (@pw_or1 _ _ _ _ (pt_cmpR op_ne (pe_callB (call_lenDN (K := K) rfl) rfl T.z_len PySem.boot_len (@pa_cons _ _ _ _ _ (@pe_ix _ _ _ _ _ _ _ (ix_tupPN (K := K) rfl) (pv 0) pe_int (fun _ _ => rfl)) pa_nil (by rfl))) (pe_callB (call_lenDN (K := K) rfl) rfl T.z_len PySem.boot_len (@pa_cons _ _ _ _ _ (pv 1) pa_nil (by rfl))) (nomark _))))) (@pss_one _ _ _ (@ps_ret _ _ _ _ pe_bl)) pss_nil) (@pss_one _ _ _ (@ps_ret _ _ _ _ (pe_callB (call_allN (K := K) rfl rfl) rfl T.z_all boot_all (@pa_cons _ _ _ _ _ (pe_comp rfl (cs0 (NL := ["pair","field"]) rfl (by decide +kernel) (by decide +kernel)) (pi_zipT rfl T.z_zip (@pa_cons _ _ _ _ _ (@pe_ix _ _ _ _ _ _ _ (ix_tupPN (K := K) rfl) (pv 0) pe_int (fun _ _ => rfl)) (@pa_cons _ _ _ _ _ (pv 1) pa_nil (by rfl)) (by rfl))) (fun _ _ _ _ => (pg_tupK (K := K) (n := 2) rfl rfl (pgs_cons (pg_name (i := 0) (show List.Nodup (α := Str) ["pair","field"] by decide +kernel) rfl (Or.inl rfl)) (pgs_cons (pg_name (i := 1) (show List.Nodup (α := Str) ["pair","field"] by decide +kernel) rfl (Or.inl rfl)) pgs_nil)))) (fun _ _ _ _ => (pe_call G_is_pair_of (hr.mono (by first | decide | lia)) rfl D_is_pair_of.m D_is_pair_of.F.kp D_is_pair_of.b .nil pass0 (@pa_cons _ _ _ _ _ (pv 0) (@pa_cons _ _ _ _ _ (pv 1) pa_nil (by rfl)) (by rfl))))) pa_nil (by rfl)))))),?_⟩
 refine ⟨_,rfl,e,y,"record",rfl,he,sz,dp,_,rfl,?_⟩
 cases ht : htB "record" e with
 | false =>
  rw [ht_rc ht] at q
  exact iteT (iteT (q H (Same.refl _)))
 | true =>
  refine iteF ?_
  obtain ⟨l,rfl⟩ := ht_true ht
  obtain ⟨szl,l20⟩ := sz_in sz
  have dpl := dep_in dp
  have erc : rcF (ofN n) (fs.map prD) (.tup [.str "record",.tup l]) = (decide (l.length = (fs.map prD).length) && (l.zip (fs.map prD)).all (prF (ofN n))) := by
   show (eqD (.str "record") (.str "record") && (decide (l.length = (fs.map prD).length) && (l.zip (fs.map prD)).all (prF (ofN n)))) = _
   rw [eqD_refl]
   exact Bool.true_and _
  rw [erc] at q
  refine ⟨_,rfl,_,_,_,he,rfl,rfl,fun v hv => ⟨v,_,rfl,hv.d,?_⟩⟩
  refine ⟨_,rfl,x,_,rfl,hd.d,rfl,_,rfl,?_⟩
  by_cases hl : l.length = (fs.map prD).length
  rotate_left
  ·rw [decide_eq_false hl] at q
   refine iteY' (fun e => hl (Int.ofNat.inj (V.int.inj e))) (q H (Same.refl _))
  ·rw [decide_eq_true hl,Bool.true_and] at q
   rw [hl]
   refine iteN' ?_
   refine s_ix rfl he rfl fun v1 hv1 => ?_
   refine goal_name fun gg hgg => ?_
   obtain ⟨b,xs,rfl,hb,pb,rb⟩ := hv1.unref
   refine hgg ?_
   clear hgg gg
   refine goal_name fun gg hgg => ?_
   obtain ⟨b2,xs2,rfl,hb2,pb2,rb2⟩ := hd.unref
   refine hgg ?_
   clear hgg gg
   have el := rb.length
   have el2 := rb2.length
   have lfs : (fs.map prD).length = fs.length := List.length_map _
   refine ⟨_,rfl,b,b2,rfl,⟨xs,hb⟩,⟨xs2,hb2⟩,fun l2 hln => ?_⟩
   refine comp_zipTR (K := K) (xs := xs) (ys := xs2) (fun i us σ H' => us = bls (((l.zip (fs.map prD)).take i).map (prF (ofN n))) ∧ i ≤ 8 ∧ Same H H' ∧ H' l2 = some (.lst us) ∧ ∃ v1 v2,σ = [v1,v2]) ⟨rfl,Nat.zero_le _,same_new hln _,upd_same,none,none,rfl⟩ (fun i us σ H' r => ⟨r.2.2.1.tup hb,r.2.2.1.tup hb2⟩) ?_ ?_
   ·rintro i u v Tt us σ H5 N hu hv hT ⟨rfl,hi8,g5,e5,w1,w2,rfl⟩ next
    refine goal_name fun gg hgg => ?_
    obtain ⟨da,hda,hu'⟩ := rb.get' hu
    refine hgg ?_
    clear hgg gg
    refine goal_name fun gg hgg => ?_
    obtain ⟨db,hdb,hv'⟩ := rb2.get' hv
    refine hgg ?_
    clear hgg gg
    have hz : (l.zip (fs.map prD))[i]? = some (da,db) := by
     rw [List.getElem?_zip_eq_some]
     exact ⟨hda,hdb⟩
    rw [List.getElem?_map] at hdb
    refine goal_name fun gg hgg => ?_
    obtain ⟨⟨z2,d1⟩,hf,rfl⟩ := Option.map_eq_some_iff.mp hdb
    refine hgg ?_
    clear hgg gg
    have li : i < fs.length := (List.getElem?_eq_some_iff.mp hf).1
    refine goal_name fun gg hgg => ?_
    obtain ⟨a9,ct9,ha9,fk9⟩ := gk _ (List.mem_of_getElem? hf)
    refine hgg ?_
    clear hgg gg
    have gT := same_new hT (.tup [u,v])
    have ma := List.mem_of_getElem? hda
    refine ⟨Tt,_,rfl,.inl (.inl upd_same),rfl,_,_,rfl,_,_,rfl,rfl,?_⟩
    refine ⟨_,rfl,_,rfl,a9,ct9,d1,da,z2,v,u,ha9,rfl,(hv'.same g5).same gT,(hu'.same g5).same gT,fk9,szl da ma,by have := dpl da ma; lia,fun H6 g6 => ?_⟩
    refine ⟨g6 _ _ (gT _ _ e5),?_,next _ _ _ ⟨?_,by lia,same_upd hln ((g5.trans gT).trans g6),upd_same,_,_,rfl⟩⟩
    ·rw [bls,List.length_map,List.length_map,List.length_take]; exact small1000 (by lia)
    ·unfold bls
     rw [List.take_add_one,hz,List.map_append,List.map_append]
     rfl
   ·intro us σ H5 hI9
    refine goal_name fun gg hgg => ?_
    obtain ⟨rfl,hi8,g5,e5,w1,w2,rfl⟩ := hI9
    refine hgg ?_
    clear hgg gg
    refine ⟨l2,_,rfl,rfl,SqL.of e5,?_⟩
    have ez : (l.zip (fs.map prD)).length = min xs.length xs2.length := by rw [List.length_zip,el,el2]
    rw [← ez,List.take_length,List.all_map]
    exact q H5 g5
inductive I_sp_field_of (K : PySem.W.Frag)   (vs : List V) (H : Hp) (Q : VK) : Prop
 | mk (gs : List (Str × Dt)) (z : Str) (e : Dt) (x : V) : (vs = [x,.str z]) → (IsP K H (.tup [.str "record",.tup (gs.map prD)]) x) → (lookS gs z = some e) → (∀ v,IsP K H e v → Q v H) → I_sp_field_of K vs H Q
noncomputable def sp_field_of (K : PySem.W.Frag) (_ : Ads)  : Sp := fun vs H Q _ => I_sp_field_of K vs H Q
theorem look_here {z : Str} {d : Dt} : ∀ {fs : List (Str × Dt)} {i : Nat},fs[i]? = some (z,d) → (∀ j f,j < i → fs[j]? = some f → f.1 ≠ z) → lookS fs z = some d
 | [],i,h,_ => by simp at h
 | f :: fs,0,h,_ => by
  obtain rfl : f = (z,d) := by simpa using h
  simp [lookS]
 | f :: fs,i + 1,h,pre => by
  have hz : ¬ f.1 = z := pre 0 f (Nat.succ_pos _) rfl
  have h2 : fs[i]? = some (z,d) := by simpa using h
  have e : lookS (f :: fs) z = lookS fs z := by simp [lookS,hz]
  rw [e]
  exact look_here h2 fun j g hj hg => pre (j + 1) g (Nat.succ_lt_succ hj) (by simpa using hg)
theorem look_no {z : Str} : ∀ {fs : List (Str × Dt)},(∀ f ∈ fs,f.1 ≠ z) → lookS fs z = none
 | [],_ => by simp [lookS]
 | f :: fs,h => by
  have hz : ¬ f.1 = z := h f List.mem_cons_self
  have e : lookS (f :: fs) z = lookS fs z := by simp [lookS,hz]
  rw [e]
  exact look_no fun g hg => h g (List.mem_cons_of_mem _ hg)
theorem ok_field_of (T : Tx K mg ad) {f : Addr} {fd : FuncData} (F : Gn K mg "field_of" s_field_of ["record","name"] f fd) : FnOk P w K mg base CX0 1 f fd ["record","name"] (sp_field_of K ad) := by
 refine F.F.ok sc_field_of (fun vs H Q E h => ?_) (fun cdv A outer s H vs Q E hr h => ?_)
 ·obtain ⟨gs,z,e,x,rfl,_⟩ := h
  rfl
 obtain ⟨gs,z,e0,x,rfl,hd,lk,q⟩ := h
 refine ⟨_,(@pss_cons _ _ _ _ _ (ps_for PassesOwn.never rfl (pi_tupN (K := K) rfl (@pe_ix _ _ _ _ _ _ _ (ix_tupPN (K := K) rfl) (pv 0) pe_int (fun _ _ => rfl))) (pg_tup rfl (pgs_cons (pg_name (i := 2) sc_field_of.nd rfl (Or.inl rfl)) (pgs_cons (pg_name (i := 3) sc_field_of.nd rfl (Or.inl rfl)) pgs_nil)))
    (@pss_one _ _ _ (@ps_if _ _ _ _ _ _ _ _ (pt_cmpR op_eq (pv 2) (pv 1) (nomark _)) (@pss_one _ _ _ (@ps_ret _ _ _ _ (pv 3))) pss_nil))) (@pss_one _ _ _ (@ps_ret _ _ _ _ pe_non))),?_⟩
 refine s_ix rfl hd rfl fun v hv => ?_
 refine goal_name fun gg hgg => ?_
 obtain ⟨a,xs,rfl,ha,pa,ra⟩ := hv.unref
 refine hgg ?_
 clear hgg gg
 have el := ra.length
 rw [List.length_map] at el
 refine ⟨a,rfl,⟨xs,ha⟩,for_tup (xs := xs) (fun i σ H' => H' = H ∧ (∀ j f,j < i → gs[j]? = some f → f.1 ≠ z) ∧ ∃ v1 v2,σ = [some x,some (.str z),v1,v2]) ⟨rfl,fun j f hj => absurd hj (Nat.not_lt_zero _),_,_,rfl⟩ (fun i σ H' _ p => p.1 ▸ ha) ?_ ?_⟩
 ·intro i y σ H' hy hI9
  refine goal_name fun gg hgg => ?_
  obtain ⟨rfl,pre,v1,v2,rfl⟩ := hI9
  refine hgg ?_
  clear hgg gg
  refine goal_name fun gg hgg => ?_
  obtain ⟨e,he,hp⟩ := ra.get' hy
  refine hgg ?_
  clear hgg gg
  rw [List.getElem?_map] at he
  refine goal_name fun gg hgg => ?_
  obtain ⟨⟨w,e'⟩,hf,rfl⟩ := Option.map_eq_some_iff.mp he
  refine hgg ?_
  clear hgg gg
  refine goal_name fun gg hgg => ?_
  obtain ⟨b,ys,rfl,hb,pb,rb⟩ := hp.unref
  refine hgg ?_
  clear hgg gg
  cases rb with
  | cons r1 rb =>
   cases rb with
   | @cons _ _ y2 _ r2 rb =>
    cases rb
    obtain rfl := isStrV r1
    refine ⟨b,_,rfl,hb,rfl,_,_,rfl,_,_,rfl,rfl,?_⟩
    refine ⟨_,rfl,_,rfl,rfl,_,rfl,?_⟩
    by_cases hz : w = z
    ·subst hz
     rw [look_here hf pre] at lk
     obtain rfl := Option.some.inj lk
     exact iteY ⟨_,rfl,q _ r2⟩
    ·refine iteN (strNe hz) ⟨rfl,fun j f hj hjf => ?_,_,_,rfl⟩
     rcases Nat.lt_succ_iff_lt_or_eq.mp hj with h1 | h1
     ·exact pre j f h1 hjf
     ·subst h1
      rw [hf] at hjf
      obtain rfl := Option.some.inj hjf
      exact hz
 ·intro σ H' hI9
  refine goal_name fun gg hgg => ?_
  obtain ⟨rfl,pre,v1,v2,rfl⟩ := hI9
  refine hgg ?_
  clear hgg gg
  rw [look_no (fun f hf => by
   refine goal_name fun gg hgg => ?_
   obtain ⟨j,hj,e⟩ := List.mem_iff_getElem.mp hf
   refine hgg ?_
   clear hgg gg
   exact pre j f (by lia) (by rw [List.getElem?_eq_getElem hj,e]))] at lk
  cases lk
theorem prD_inj : ∀ {fs gs : List (Str × Dt)},fs.map prD = gs.map prD → fs = gs
 | [],[],_ => rfl
 | [],g :: gs,h => by simp at h
 | f :: fs,[],h => by simp at h
 | (a,b) :: fs,(c,d) :: gs,h => by
  have h' := List.cons.inj (show prD (a,b) :: fs.map prD = prD (c,d) :: gs.map prD from h)
  have h1 := h'.1
  simp only [prD,Dt.tup.injEq,List.cons.injEq,Dt.str.injEq,and_true] at h1
  rw [prD_inj h'.2,h1.1,h1.2]
theorem strs_vals {K : PySem.W.Frag} {H : Hp} : ∀ {ws : List Str} {xs : List V},IsPs K H (ws.map Dt.str) xs → xs = ws.map V.str
 | [],xs,h => by cases h; rfl
 | w :: ws,xs,h => by
  cases h with
  | cons h1 h2 =>
   rw [isStrV h1,strs_vals h2]
   rfl
theorem flat_strs : ∀ ws : List Str,(ws.map V.str).all flatV = true
 | [] => rfl
 | w :: ws => by
  show (flatV (V.str w) && (ws.map V.str).all flatV) = true
  rw [flat_strs ws]
  rfl
inductive I_sp_are_keyed (K : PySem.W.Frag)   (vs : List V) (H : Hp) (Q : VK) : Prop
 | mk (z : Str) (l : List Dt) (x : V) : (vs = [x,.str z]) → (IsP K H (.tup l) x) → ((∀ v ∈ l,∃ gs e,v = .tup [.str "record",.tup (gs.map prD)] ∧ lookS gs z = some e)) → (l.length ≤ 20) → (((∃ ns : List Int,(l.map fun v => keyD v z) = ns.map Dt.int) ∨ ∃ ss : List Str,(l.map fun v => keyD v z) = ss.map Dt.str)) → (∀ H',Same H H' → Q (.bl (ascB (l.map fun v => keyD v z))) H') → I_sp_are_keyed K vs H Q
noncomputable def sp_are_keyed (K : PySem.W.Frag) (_ : Ads)  : Sp := fun vs H Q _ => I_sp_are_keyed K vs H Q
theorem ok_are_keyed (T : Tx K mg ad) {f : Addr} {fd : FuncData} (F : Gn K mg "are_keyed" s_are_keyed ["items","key"] f fd) : FnOk P w K mg base CX0 2 f fd ["items","key"] (sp_are_keyed K ad) := by
 obtain ⟨f_field_of,fd_field_of,D_field_of⟩ := T.field_of
 have G_field_of := ok_field_of (P := P) (w := w) (base := base) T D_field_of
 refine F.F.ok sc_are_keyed (fun vs H Q E h => ?_) (fun cdv A outer s H vs Q E hr h => ?_)
 ·obtain ⟨z,l,x,rfl,_⟩ := h
  rfl
 obtain ⟨z,l,x,rfl,hd,rcs,hl8,sorts,q⟩ := h
 refine ⟨_,(@pss_cons _ _ _ _ _ (ps_setC (j := 2) sc_are_keyed.nd rfl (Or.inl rfl) rfl (csR (sc := defScope s_are_keyed) (NL := ["item"]) (N := ["items","key","keys"]) (ρ := [1]) (N' := ["item","key"]) rfl rfl rfl (by decide +kernel) (by decide +kernel) (by decide +kernel) rfl (by decide +kernel)) (pi_tupN (K := K) rfl (pv 0)) (fun _ _ _ _ => (pg_name (i := 0) (show List.Nodup (α := Str) ["item","key"] by decide +kernel) rfl (Or.inl rfl))) (fun _ _ _ _ => (pe_call G_field_of (hr.mono (by first | decide | lia)) rfl D_field_of.m D_field_of.F.kp D_field_of.b .nil pass0 (@pa_cons _ _ _ _ _ (pv 0) (@pa_cons _ _ _ _ _ (pv 1) pa_nil (by rfl)) (by rfl))))) (@pss_one _ _ _ (@ps_ret _ _ _ _ (pe_callB (call_allN (K := K) rfl rfl) rfl T.z_all boot_all (@pa_cons _ _ _ _ _ (pe_comp rfl (cs0 (NL := ["ahead","behind"]) rfl (by decide +kernel) (by decide +kernel)) (pi_zip rfl T.z_zip (@pa_cons _ _ _ _ _ (pv 2) (@pa_cons _ _ _ _ _ (pe_slice (sl_listN (K := K) rfl) (pv 2) (po_some pe_int) po_none) pa_nil (by rfl)) (by rfl))) (fun _ _ _ _ => (pg_tupK (K := K) (n := 2) rfl rfl (pgs_cons (pg_name (i := 0) (show List.Nodup (α := Str) ["ahead","behind"] by decide +kernel) rfl (Or.inl rfl)) (pgs_cons (pg_name (i := 1) (show List.Nodup (α := Str) ["ahead","behind"] by decide +kernel) rfl (Or.inl rfl)) pgs_nil)))) (fun _ _ _ _ => (pe_cmpR op_ltIS (pv 0) (pv 1) (nomark _)))) pa_nil (by rfl)))))),?_⟩
 refine goal_name fun gg hgg => ?_
 obtain ⟨a,xs,rfl,ha,pa,ra⟩ := hd.unref
 refine hgg ?_
 clear hgg gg
 have el := ra.length
 refine ⟨_,rfl,a,rfl,⟨xs,ha⟩,fun l2 hl2 => ?_⟩
 refine comp_tupR (K := K) (xs := xs) (fun i ys σ H' => Same H H' ∧ H' l2 = some (.lst ys) ∧ IsPs K H' ((l.take i).map fun v => keyD v z) ys ∧ ys.length = i ∧ ∃ v1,σ = [v1,some (.str z)]) ⟨same_new hl2 _,upd_same,.nil,rfl,none,rfl⟩ (fun i ys σ H' _ r => r.1.tup ha) ?_ ?_
 ·rintro i y ys σ H2 N hy ⟨g2,e2,hp2,le2,v1,rfl⟩ next
  have hi : i < xs.length := (List.getElem?_eq_some_iff.mp hy).1
  refine goal_name fun gg hgg => ?_
  obtain ⟨d,hdi,hp⟩ := ra.get' hy
  refine hgg ?_
  clear hgg gg
  refine goal_name fun gg hgg => ?_
  obtain ⟨gs,e,rfl,lk⟩ := rcs d (List.mem_of_getElem? hdi)
  refine hgg ?_
  clear hgg gg
  refine ⟨_,rfl,_,rfl,gs,z,e,y,rfl,hp.same g2,lk,fun v hv => ?_⟩
  have b6 : But l2 H2 (upd H2 l2 (.lst (ys ++ [v]))) := But.put
  refine ⟨e2,small1000 (by lia),next _ _ _ ⟨same_upd hl2 g2,upd_same,?_,by rw [List.length_append,le2]; rfl,_,rfl⟩⟩
  rw [← take_next (fun v => keyD v z) hdi]
  refine (hp2.but e2 b6).append (.cons ?_ .nil)
  have ek : keyD (.tup [.str "record",.tup (gs.map prD)]) z = e := by
   show (lookD (gs.map prD) z).getD .non = e
   rw [lookD_map,lk]
   rfl
  rw [ek]
  exact hv.but e2 b6
 ·intro ys σ H2 hI9
  refine goal_name fun gg hgg => ?_
  obtain ⟨g2,e2,hp2,le2,v1,rfl⟩ := hI9
  refine hgg ?_
  clear hgg gg
  rw [← el,List.take_length] at hp2
  generalize hks : (l.map fun v => keyD v z) = ks at hp2 sorts q
  have lks : ks.length = ys.length := hp2.length
  refine ⟨_,rfl,_,rfl,_,rfl,l2,_,rfl,SqL.of e2,fun l3 hl3 => ?_⟩
  rw [cutV_tail']
  have g3 := same_new hl3 (.lst (ys.drop 1))
  have e3 : (upd H2 l3 (.lst (ys.drop 1))) l3 = some (.lst (ys.drop 1)) := upd_same
  have e2' := g3 _ _ e2
  have hp3 := hp2.same g3
  generalize upd H2 l3 (.lst (ys.drop 1)) = H3 at g3 e3 e2' hp3 ⊢
  refine ⟨l2,l3,rfl,⟨_,SqL.of e2'⟩,⟨_,SqL.of e3⟩,fun l4 hl4 => ?_⟩
  refine comp_zipR (K := K) (xs := ys) (ys := ys.drop 1) (fun i us σ H' => us = bls (((ks.zip (ks.drop 1)).take i).map fun p => ltD p.1 p.2) ∧ i ≤ 20 ∧ Same H3 H' ∧ H' l4 = some (.lst us) ∧ ∃ v1 v2,σ = [v1,v2]) ⟨rfl,Nat.zero_le _,same_new hl4 _,upd_same,none,none,rfl⟩ (fun i us σ H' r => ⟨SqL.of (r.2.2.1 _ _ e2'),SqL.of (r.2.2.1 _ _ e3)⟩) ?_ ?_
  ·rintro i u v Tt us σ H5 N hu hv hT ⟨rfl,hi8,g5,e5,w1,w2,rfl⟩ next
   refine goal_name fun gg hgg => ?_
   obtain ⟨da,hda,hu'⟩ := hp3.get' hu
   refine hgg ?_
   clear hgg gg
   refine goal_name fun gg hgg => ?_
   obtain ⟨db,hdb,hv'⟩ := (hp3.drop 1).get' hv
   refine hgg ?_
   clear hgg gg
   have li : i < ys.length := (List.getElem?_eq_some_iff.mp hu).1
   have n4 : l4 ≠ Tt := ne_of_none e5 hT
   have hz : (ks.zip (ks.drop 1))[i]? = some (da,db) := by
    rw [List.getElem?_zip_eq_some]
    exact ⟨hda,hdb⟩
   have ls : ys.length ≤ 20 := by rw [← lks,← hks,List.length_map]; exact hl8
   refine ⟨Tt,_,rfl,.inl (.inl upd_same),rfl,_,_,rfl,_,_,rfl,rfl,?_⟩
   have hbl : (upd H5 Tt (.tup [u,v])) l4 = some (.lst (bls (((ks.zip (ks.drop 1)).take i).map fun p => ltD p.1 p.2))) := by rw [upd_ne n4]; exact e5
   have nx : (bls (((ks.zip (ks.drop 1)).take i).map fun p => ltD p.1 p.2)).length < sizeLine := by rw [bls,List.length_map,List.length_map,List.length_take]; exact small1000 (by lia)
   have st := next (bls (((ks.zip (ks.drop 1)).take i).map fun p => ltD p.1 p.2) ++ [.bl (ltD da db)]) [some u,some v] (upd (upd H5 Tt (.tup [u,v])) l4 (.lst (bls (((ks.zip (ks.drop 1)).take i).map fun p => ltD p.1 p.2) ++ [.bl (ltD da db)]))) ⟨by unfold bls; rw [List.take_add_one,hz,List.map_append,List.map_append]; rfl,by lia,same_upd hl4 (g5.trans (same_new hT _)),upd_same,_,_,rfl⟩
   rcases sorts with ⟨ns,rfl⟩ | ⟨ss,rfl⟩
   ·refine goal_name fun gg hgg => ?_
    obtain ⟨m,_,rfl⟩ := List.mem_map.mp (List.mem_of_getElem? hda)
    refine hgg ?_
    clear hgg gg
    refine goal_name fun gg hgg => ?_
    obtain ⟨n,_,rfl⟩ := List.mem_map.mp (List.mem_of_mem_drop (List.mem_of_getElem? hdb))
    refine hgg ?_
    clear hgg gg
    obtain rfl := isIntV hu'
    obtain rfl := isIntV hv'
    exact ⟨_,rfl,_,rfl,.inl ⟨m,n,rfl,rfl,hbl,nx,st⟩⟩
   ·refine goal_name fun gg hgg => ?_
    obtain ⟨m,_,rfl⟩ := List.mem_map.mp (List.mem_of_getElem? hda)
    refine hgg ?_
    clear hgg gg
    refine goal_name fun gg hgg => ?_
    obtain ⟨n,_,rfl⟩ := List.mem_map.mp (List.mem_of_mem_drop (List.mem_of_getElem? hdb))
    refine hgg ?_
    clear hgg gg
    obtain rfl := isStrV hu'
    obtain rfl := isStrV hv'
    exact ⟨_,rfl,_,rfl,.inr ⟨m,n,rfl,rfl,hbl,nx,st⟩⟩
  ·intro us σ H5 hI9
   refine goal_name fun gg hgg => ?_
   obtain ⟨rfl,hi8,g5,e5,w1,w2,rfl⟩ := hI9
   refine hgg ?_
   clear hgg gg
   refine ⟨l4,_,rfl,rfl,SqL.of e5,?_⟩
   have ez : (ks.zip (ks.drop 1)).length = min ys.length (ys.drop 1).length := by rw [List.length_zip,List.length_drop,List.length_drop,lks]
   rw [← ez,List.take_length]
   exact q H5 ((g2.trans g3).trans g5)
theorem zip_inv {f : Dt → Dt → Bool} : ∀ (l : List Dt) (fs : List (Str × Dt)),l.length = (fs.map prD).length → (l.zip (fs.map prD)).all (prF f) = true →
  ∃ gs : List (Str × Dt),l = gs.map prD ∧ gs.map (·.1) = fs.map (·.1) ∧ ∀ (i : Nat) (f' g : Str × Dt),fs[i]? = some f' → gs[i]? = some g → f f'.2 g.2 = true
 | [],[],_,_ => ⟨[],rfl,rfl,fun i f' g h => by simp at h⟩
 | [],_ :: _,h,_ => by simp at h
 | _ :: _,[],h,_ => by simp at h
 | a :: l,(z,k) :: fs,h,ha => by
  have ha' : (prF f (a,prD (z,k)) && (l.zip (fs.map prD)).all (prF f)) = true := ha
  rw [Bool.and_eq_true] at ha'
  obtain ⟨gs,rfl,en,gg⟩ := zip_inv l fs (by simpa using h) ha'.2
  have h1 := ha'.1
  unfold prF at h1
  split at h1
  ·rename_i p b v c k' e
   have e1 := congrArg Prod.fst e
   have e2 := congrArg Prod.snd e
   simp only [prD] at e1 e2
   injection e2 with e2
   injection e2 with e3 e4
   injection e4 with e4 _
   rw [Bool.and_eq_true] at h1
   obtain ⟨h2,h3⟩ := h1
   rw [← e3] at h2
   have eb := eqD_str h2
   refine ⟨(z,v) :: gs,?_,?_,fun i f' g hf hg => ?_⟩
   ·rw [e1,eb]
    rfl
   ·show z :: gs.map (·.1) = z :: fs.map (·.1)
    rw [en]
   ·cases i with
    | zero =>
     obtain rfl : (z,k) = f' := by simpa using hf
     obtain rfl : (z,v) = g := by simpa using hg
     show f k v = true
     rw [e4]
     exact h3
    | succ i => exact gg i f' g (by simpa using hf) (by simpa using hg)
  ·cases h1
theorem rc_inv {f : Dt → Dt → Bool} {fs : List (Str × Dt)} {v : Dt} (h : rcF f (fs.map prD) v = true) : ∃ gs : List (Str × Dt),v = .tup [.str "record",.tup (gs.map prD)] ∧ gs.map (·.1) = fs.map (·.1) ∧ ∀ (i : Nat) (f' g : Str × Dt),fs[i]? = some f' → gs[i]? = some g → f f'.2 g.2 = true := by
 unfold rcF at h
 split at h
 ·rename_i a l
  rw [Bool.and_eq_true,Bool.and_eq_true,decide_eq_true_eq] at h
  obtain ⟨gs,rfl,en,gg⟩ := zip_inv l fs h.2.1 h.2.2
  exact ⟨gs,by rw [eqD_str h.1],en,gg⟩
 ·cases h
theorem cho_in (z : Str) : ∀ ws : List Str,choB (ws.map Dt.str) (.str z) = inV (V.str z) (ws.map V.str)
 | [] => rfl
 | w :: ws => by
  show (eqD (.str w) (.str z) || choB (ws.map Dt.str) (.str z)) = (eqV (V.str w) (V.str z) || inV (V.str z) (ws.map V.str))
  rw [cho_in z ws]
  rfl
theorem look_idx {z : Str} {kk : Dt} : ∀ {fs gs : List (Str × Dt)},gs.map (·.1) = fs.map (·.1) → lookS fs z = some kk → ∃ (i : Nat) (e : Dt),fs[i]? = some (z,kk) ∧ gs[i]? = some (z,e) ∧ lookS gs z = some e
 | [],_,_,h => by simp [lookS] at h
 | f :: fs,[],e,_ => by simp at e
 | f :: fs,g :: gs,e,h => by
  have e1 : g.1 = f.1 := (List.cons.inj (show g.1 :: gs.map (·.1) = f.1 :: fs.map (·.1) from e)).1
  have e2 : gs.map (·.1) = fs.map (·.1) := (List.cons.inj (show g.1 :: gs.map (·.1) = f.1 :: fs.map (·.1) from e)).2
  by_cases hz : f.1 = z
  ·have h' : lookS (f :: fs) z = some f.2 := by simp [lookS,hz]
   rw [h'] at h
   obtain rfl := Option.some.inj h
   refine ⟨0,g.2,?_,?_,by simp [lookS,e1,hz]⟩
   ·show some f = _
    rw [← hz]
   ·show some g = _
    rw [← hz,← e1]
  ·have h' : lookS (f :: fs) z = lookS fs z := by simp [lookS,hz]
   rw [h'] at h
   obtain ⟨i,d,h1,h2,h3⟩ := look_idx e2 h
   exact ⟨i + 1,d,by simpa using h1,by simpa using h2,by rw [← h3]; simp [lookS,e1,hz]⟩
theorem keys_of {m : Nat} {fs : List (Str × Dt)} {z : Str} {kk : Dt} (lk : lookS fs z = some kk) (hk : KeyFK kk) : ∀ l : List Dt,l.all (ofN (m + 2) (.tup [.str "record",.tup (fs.map prD)])) = true →
  (∀ v ∈ l,∃ gs e,v = .tup [.str "record",.tup (gs.map prD)] ∧ lookS gs z = some e) ∧ ((∃ ns : List Int,(l.map fun v => keyD v z) = ns.map Dt.int) ∨ ∃ ss : List Str,(l.map fun v => keyD v z) = ss.map Dt.str) := by
 intro l h
 have one : ∀ v ∈ l,∃ gs e,v = .tup [.str "record",.tup (gs.map prD)] ∧ lookS gs z = some e ∧ ofN (m + 1) kk e = true := fun v hv => by
  have h1 := List.all_eq_true.mp h v hv
  rw [of_record] at h1
  obtain ⟨gs,rfl,en,gg⟩ := rc_inv h1
  obtain ⟨i,e,hf,hg,hl⟩ := look_idx en lk
  exact ⟨gs,e,rfl,hl,gg i _ _ hf hg⟩
 refine ⟨fun v hv => ?_,?_⟩
 ·obtain ⟨gs,e,h1,h2,_⟩ := one v hv
  exact ⟨gs,e,h1,h2⟩
 ·have key : ∀ v ∈ l,∃ e,keyD v z = e ∧ ofN (m + 1) kk e = true := fun v hv => by
   obtain ⟨gs,e,rfl,h2,h3⟩ := one v hv
   refine ⟨e,?_,h3⟩
   show (lookD (gs.map prD) z).getD .non = e
   rw [lookD_map,h2]
   rfl
  rcases hk with ⟨i,j,rfl,_⟩ | ⟨i,rfl,_⟩
  ·refine .inl ?_
   clear one h
   induction l with
   | nil => exact ⟨[],rfl⟩
   | cons v l ih =>
    obtain ⟨ns,hn⟩ := ih fun v hv => key v (List.mem_cons_of_mem _ hv)
    obtain ⟨e,h1,h2⟩ := key v List.mem_cons_self
    rw [of_number] at h2
    cases e with
    | int x => exact ⟨x :: ns,by rw [List.map_cons,h1,hn]; rfl⟩
    | _ => cases h2
  ·refine .inr ?_
   clear one h
   induction l with
   | nil => exact ⟨[],rfl⟩
   | cons v l ih =>
    obtain ⟨ns,hn⟩ := ih fun v hv => key v (List.mem_cons_of_mem _ hv)
    obtain ⟨e,h1,h2⟩ := key v List.mem_cons_self
    rw [of_text] at h2
    cases e with
    | str x => exact ⟨x :: ns,by rw [List.map_cons,h1,hn]; rfl⟩
    | _ => cases h2
theorem it_true {f : Dt → Dt → Bool} {w : Str} {k e : Dt} {i : Int} (h : itF f w k i e = true) : ∃ l,e = .tup [.str w,.tup l] ∧ (l.length : Int) ≤ i ∧ l.all (f k) = true := by
 unfold itF at h
 split at h
 ·rename_i a l
  rw [Bool.and_eq_true,Bool.and_eq_true,decide_eq_true_eq] at h
  exact ⟨l,by rw [eqD_str h.1],h.2.1,h.2.2⟩
 ·cases h
theorem rows_key {a' c' : Nat} {z : Str} {l : List Dt} (g : FK a' c' (.tup [.str "record",.tup l])) (kl : keyL l z) : ∃ fs kk,l = fs.map prD ∧ lookS fs z = some kk ∧ KeyFK kk ∧ fs.length ≤ 8 ∧ (fs.map (·.1)).Pairwise ltS ∧ (∀ f ∈ fs,∃ a ct,a < a' ∧ FK a ct f.2) ∧ 2 ≤ a' := by
 obtain ⟨gs,rfl,fg,asc,hl,lt⟩ := fk_rcd g l rfl
 obtain ⟨w',rr,hm',hw⟩ := kl
 obtain ⟨f0,hf0,ef0⟩ := List.mem_map.mp hm'
 obtain ⟨g0,hg0,rfl⟩ := List.mem_map.mp hf0
 have ez : g0.1 = z ∧ g0.2.1 = .tup (.str w' :: rr) := by simpa [prD] using ef0
 obtain ⟨j0,hj0⟩ := List.mem_iff_getElem?.mp hf0
 have lk : lookS (gs.map nk) z = some g0.2.1 := look_at' (lt_nodup asc) (by rw [hj0,← ez.1])
 refine ⟨gs.map nk,g0.2.1,rfl,lk,key_fk (fg g0 hg0) w' rr ez.2 hw,by rw [List.length_map]; exact hl,asc,fun f hf => ?_,?_⟩
 ·obtain ⟨x',hx',rfl⟩ := List.mem_map.mp hf
  exact ⟨_,_,lt x' hx',fg x' hx'⟩
 ·have h1 := lt g0 hg0
  have h2 := (fg g0 hg0).pos
  lia
theorem ok_is_of (T : Tx K mg ad) {f f1 f2 : Addr} {fd fd1 fd2 : FuncData} (n : Nat) (F : Gn K mg "is_of" s_is_of ["value","kind"] f fd) (D_holds_items : Gn K mg "holds_items" s_holds_items ["value","word","kind","most"] f1 fd1) (D_is_record_of : Gn K mg "is_record_of" s_is_record_of ["value","fields"] f2 fd2)
  (G_holds_items : FnOk P w K mg base CX0 (3 * n + 4) f1 fd1 ["value","word","kind","most"] (sitems K n)) (G_is_record_of : FnOk P w K mg base CX0 (3 * n + 5) f2 fd2 ["value","fields"] (srecof K n)) : FnOk P w K mg base CX0 (3 * n + 5 + 1) f fd ["value","kind"] (sisof K (n + 1)) := by
 obtain ⟨f_is_whole_within,fd_is_whole_within,D_is_whole_within⟩ := T.is_whole_within
 have G_is_whole_within := ok_is_whole_within (P := P) (w := w) (base := base) T D_is_whole_within
 obtain ⟨f_is_text_of,fd_is_text_of,D_is_text_of⟩ := T.is_text_of
 have G_is_text_of := ok_is_text_of (P := P) (w := w) (base := base) T D_is_text_of
 obtain ⟨f_are_keyed,fd_are_keyed,D_are_keyed⟩ := T.are_keyed
 have G_are_keyed := ok_are_keyed (P := P) (w := w) (base := base) T D_are_keyed
 refine F.F.ok sc_is_of (fun vs H Q E h => ?_) (fun cdv A outer s H vs Q E hr h => ?_)
 ·obtain ⟨a,ct,d,e,x,y,_,rfl,_⟩ := h
  rfl
 obtain ⟨a,ct,d,e,x,y,ha,rfl,hd,he,gk,sz,dp,q⟩ := h
 refine ⟨_,(@pss_cons _ _ _ _ _ (@ps_set _ _ 2 _ _ _ _ sc_is_of.nd rfl (Or.inl rfl) (@pe_ix _ _ _ _ _ _ _ (ix_tupPN (K := K) rfl) (pv 1) pe_int (fun _ _ => rfl)) (by rfl) (by first | exact .inl rfl | exact .inr rfl | assumption)) (@pss_cons _ _ _ _ _ (@ps_if _ _ _ _ _ _ _ _ (pt_cmpR op_eq (pv 2) pe_str (nomark _)) (@pss_one _ _ _ (@ps_ret _ _ _ _ (pe_call G_is_whole_within (hr.mono (by first | decide | lia)) rfl D_is_whole_within.m D_is_whole_within.F.kp D_is_whole_within.b .nil pass0 (@pa_cons _ _ _ _ _ (pv 0) (@pa_cons _ _ _ _ _ (@pe_ix _ _ _ _ _ _ _ (ix_tupPN (K := K) rfl) (pv 1) pe_int (fun _ _ => rfl)) (@pa_cons _ _ _ _ _ (@pe_ix _ _ _ _ _ _ _ (ix_tupPN (K := K) rfl) (pv 1) pe_int (fun _ _ => rfl)) pa_nil (by rfl)) (by rfl)) (by rfl))))) pss_nil) (@pss_cons _ _ _ _ _ (@ps_if _ _ _ _ _ _ _ _ (pt_cmpR op_eq (pv 2) pe_str (nomark _)) (@pss_one _ _ _ (@ps_ret _ _ _ _ (pe_call G_is_text_of (hr.mono (by first | decide | lia)) rfl D_is_text_of.m D_is_text_of.F.kp D_is_text_of.b .nil pass0 (@pa_cons _ _ _ _ _ (pv 0) (@pa_cons _ _ _ _ _ (@pe_ix _ _ _ _ _ _ _ (ix_tupPN (K := K) rfl) (pv 1) pe_int (fun _ _ => rfl)) pa_nil (by rfl)) (by rfl))))) pss_nil) (@pss_cons _ _ _ _ _ (@ps_if _ _ _ _ _ _ _ _ (pt_cmpR op_eq (pv 2) pe_str (nomark _)) (@pss_one _ _ _ (@ps_ret _ _ _ _ (pe_and (pe_callB (call_isiN' (K := K) rfl) rfl T.z_isinstance boot_isinstance (@pa_cons _ _ _ _ _ (pv 0) (@pa_cons _ _ _ _ _ (pe_gty rfl T.z_str boot_str) pa_nil (by rfl)) (by rfl))) (pe_one (pe_cmpR (op_in_seqK (K := K) rfl) (pv 0) (@pe_ix _ _ _ _ _ _ _ (ix_tupPN (K := K) rfl) (pv 1) pe_int (fun _ _ => rfl)) rfl))))) pss_nil) (@pss_cons _ _ _ _ _ (@ps_if _ _ _ _ _ _ _ _ (pt_cmpR op_eq (pv 2) pe_str (nomark _)) (@pss_one _ _ _ (@ps_ret _ _ _ _ (pe_call G_holds_items (hr.mono (by first | decide | lia)) rfl D_holds_items.m D_holds_items.F.kp D_holds_items.b .nil pass0 (@pa_cons _ _ _ _ _ (pv 0) (@pa_cons _ _ _ _ _ pe_str (@pa_cons _ _ _ _ _ (@pe_ix _ _ _ _ _ _ _ (ix_tupPN (K := K) rfl) (pv 1) pe_int (fun _ _ => rfl)) (@pa_cons _ _ _ _ _ (@pe_ix _ _ _ _ _ _ _ (ix_tupPN (K := K) rfl) (pv 1) pe_int (fun _ _ => rfl)) pa_nil (by rfl)) (by rfl)) (by rfl)) (by rfl))))) pss_nil) (@pss_cons _ _ _ _ _ (@ps_if _ _ _ _ _ _ _ _ (pt_cmpR op_eq (pv 2) pe_str (nomark _)) (@pss_one _ _ _ (@ps_ret _ _ _ _ (pe_call G_is_record_of (hr.mono (by first | decide | lia)) rfl D_is_record_of.m D_is_record_of.F.kp D_is_record_of.b .nil pass0 (@pa_cons _ _ _ _ _ (pv 0) (@pa_cons _ _ _ _ _ (@pe_ix _ _ _ _ _ _ _ (ix_tupPN (K := K) rfl) (pv 1) pe_int (fun _ _ => rfl)) pa_nil (by rfl)) (by rfl))))) pss_nil) (@pss_one _ _ _ (@ps_ret _ _ _ _ (pe_and (pe_call G_holds_items (hr.mono (by first | decide | lia)) rfl D_holds_items.m D_holds_items.F.kp D_holds_items.b .nil pass0 (@pa_cons _ _ _ _ _ (pv 0) (@pa_cons _ _ _ _ _ pe_str (@pa_cons _ _ _ _ _ (@pe_ix _ _ _ _ _ _ _ (ix_tupPN (K := K) rfl) (pv 1) pe_int (fun _ _ => rfl)) (@pa_cons _ _ _ _ _ (@pe_ix _ _ _ _ _ _ _ (ix_tupPN (K := K) rfl) (pv 1) pe_int (fun _ _ => rfl)) pa_nil (by rfl)) (by rfl)) (by rfl)) (by rfl))) (pe_one (pe_call G_are_keyed (hr.mono (by first | decide | lia)) rfl D_are_keyed.m D_are_keyed.F.kp D_are_keyed.b .nil pass0 (@pa_cons _ _ _ _ _ (@pe_ix _ _ _ _ _ _ _ (ix_tupPN (K := K) rfl) (pv 0) pe_int (fun _ _ => rfl)) (@pa_cons _ _ _ _ _ (@pe_ix _ _ _ _ _ _ _ (ix_tupPN (K := K) rfl) (pv 1) pe_int (fun _ _ => rfl)) pa_nil (by rfl)) (by rfl))))))))))))),?_⟩
 cases gk with
 | number i j b1 b2 b3 =>
  rw [of_number] at q
  refine s_ix rfl hd rfl fun v hv => ?_
  obtain rfl := isStrV hv
  refine t_yes rfl ?_
  refine ⟨_,rfl,_,rfl,_,_,_,hd,rfl,rfl,fun v hv => ?_⟩
  obtain rfl := isIntV hv
  refine s_ix rfl hd rfl fun v hv => ?_
  obtain rfl := isIntV hv
  exact ⟨e,y,i,j,rfl,he,sz,q H (Same.refl _)⟩
 | text i b1 b2 =>
  rw [of_text] at q
  refine s_ix rfl hd rfl fun v hv => ?_
  obtain rfl := isStrV hv
  refine t_no rfl (by decide) ?_
  refine t_yes rfl ?_
  refine ⟨_,rfl,_,rfl,_,_,_,hd,rfl,rfl,fun v hv => ?_⟩
  obtain rfl := isIntV hv
  exact ⟨e,y,i,rfl,he,sz,q⟩
 | choice ws hw ho =>
  rw [of_choice] at q
  refine s_ix rfl hd rfl fun v hv => ?_
  obtain rfl := isStrV hv
  refine t_no rfl (by decide) ?_
  refine t_no rfl (by decide) ?_
  refine t_yes rfl ?_
  cases sz with
  | int i =>
   obtain rfl := isIntV he
   exact ⟨_,rfl,_,_,_,rfl,.int_str,_,rfl,iteF (q H (Same.refl _))⟩
  | tup h1 h2 =>
   refine goal_name fun gg hgg => ?_
   obtain ⟨a',xs,ex,ha',_⟩ := he.unref
   refine hgg ?_
   clear hgg gg
   have isi : IsiB K H y "str" false := by rw [ex]; exact .tup_str ha'
   exact ⟨_,rfl,_,_,_,rfl,isi,_,rfl,iteF (q H (Same.refl _))⟩
  | str z hz =>
   obtain rfl := isStrV he
   refine ⟨_,rfl,_,_,_,rfl,.str_str,_,rfl,iteT ?_⟩
   refine ⟨_,rfl,_,rfl,_,_,_,hd,rfl,rfl,fun v hv => ?_⟩
   refine goal_name fun gg hgg => ?_
   obtain ⟨b,xs,rfl,hb,pb,rb⟩ := hv.unref
   refine hgg ?_
   clear hgg gg
   have ex : xs = ws.map V.str := strs_vals rb
   rw [cho_in,← ex] at q
   refine ⟨b,xs,rfl,.inr hb,rfl,?_,q H (Same.refl _)⟩
   rw [ex]
   exact flat_strs ws
 | @list a' c' k i g b1 b2 =>
  rw [of_list] at q
  refine s_ix rfl hd rfl fun v hv => ?_
  obtain rfl := isStrV hv
  refine t_no rfl (by decide) ?_
  refine t_no rfl (by decide) ?_
  refine t_no rfl (by decide) ?_
  refine t_yes rfl ?_
  refine ⟨_,rfl,_,rfl,_,_,_,hd,rfl,rfl,fun v1 hv1 => ?_⟩
  refine s_ix rfl hd rfl fun v hv => ?_
  obtain rfl := isIntV hv
  exact ⟨a',c',k,e,"list",v1,y,i,by lia,rfl,hv1,he,g,sz,dp,q⟩
 | @rcd gs g asc nm hl =>
  obtain ⟨fs,efs⟩ : ∃ fs : List (Str × Dt),fs = gs.map nk := ⟨_,rfl⟩
  have ep : gs.map prG = fs.map prD := by rw [efs,List.map_map]; rfl
  rw [ep] at hd q
  rw [of_record] at q
  refine s_ix rfl hd rfl fun v hv => ?_
  obtain rfl := isStrV hv
  refine t_no rfl (by decide) ?_
  refine t_no rfl (by decide) ?_
  refine t_no rfl (by decide) ?_
  refine t_no rfl (by decide) ?_
  refine t_yes rfl ?_
  refine ⟨_,rfl,_,rfl,_,_,_,hd,rfl,rfl,fun v1 hv1 => ?_⟩
  refine ⟨fs,e,v1,y,rfl,hv1,he,fun f hf => ?_,by rw [efs,List.length_map]; exact hl,sz,dp,q⟩
  rw [efs] at hf
  refine goal_name fun gg hgg => ?_
  obtain ⟨x',hx',rfl⟩ := List.mem_map.mp hf
  refine hgg ?_
  clear hgg gg
  have := le_max (List.mem_map_of_mem (f := fun g : G4 => g.2.2.1) hx')
  exact ⟨_,_,by lia,g x' hx'⟩
 | @rows a' c' z l i g kl b1 b2 =>
  rw [of_rows] at q
  refine s_ix rfl hd rfl fun v hv => ?_
  obtain rfl := isStrV hv
  refine t_no rfl (by decide) ?_
  refine t_no rfl (by decide) ?_
  refine t_no rfl (by decide) ?_
  refine t_no rfl (by decide) ?_
  refine t_no rfl (by decide) ?_
  refine ⟨_,rfl,_,rfl,_,_,_,hd,rfl,rfl,fun v1 hv1 => ?_⟩
  refine s_ix rfl hd rfl fun v hv => ?_
  obtain rfl := isIntV hv
  refine ⟨a',c',_,e,"rows",v1,y,i,by lia,rfl,hv1,he,g,sz,dp,fun H1 g1 => ?_⟩
  refine ⟨_,rfl,?_⟩
  cases hi : itF (ofN n) "rows" (.tup [.str "record",.tup l]) i e with
  | false =>
   rw [hi] at q
   exact iteF (q H1 g1)
  | true =>
   rw [hi,Bool.true_and] at q
   refine iteT ?_
   refine goal_name fun gg hgg => ?_
   obtain ⟨l',rfl,hl',hall⟩ := it_true hi
   refine hgg ?_
   clear hgg gg
   refine goal_name fun gg hgg => ?_
   obtain ⟨fs,kk,rfl,lk,kf,_,_,_,ha2⟩ := rows_key g kl
   refine hgg ?_
   clear hgg gg
   obtain ⟨m,rfl⟩ : ∃ m,n = m + 2 := ⟨n - 2,by lia⟩
   obtain ⟨rcs,sorts⟩ := keys_of lk kf l' hall
   obtain ⟨_,l20⟩ := sz_in sz
   refine s_ix rfl (he.same g1) rfl fun v2 hv2 => ?_
   refine s_ix rfl (hd.same g1) rfl fun v hv => ?_
   obtain rfl := isStrV hv
   exact ⟨z,l',v2,rfl,hv2,rcs,l20,sorts,fun H2 g2 => q H2 (g1.trans g2)⟩
theorem isof_all (T : Tx K mg ad) {f f1 f2 f3 : Addr} {fd fd1 fd2 fd3 : FuncData} (F : Gn K mg "is_of" s_is_of ["value","kind"] f fd) (D1 : Gn K mg "holds_items" s_holds_items ["value","word","kind","most"] f1 fd1) (D2 : Gn K mg "is_record_of" s_is_record_of ["value","fields"] f2 fd2) (D3 : Gn K mg "is_pair_of" s_is_pair_of ["pair","field"] f3 fd3) :
  ∀ n,FnOk P w K mg base CX0 (3 * n + 3) f fd ["value","kind"] (sisof K n)
 | 0 => fn_none fun vs H Q E z => by
  obtain ⟨a,_,_,_,_,_,h1,_,_,_,g,_⟩ := z
  have := g.pos
  lia
 | n + 1 => by
  have ih := isof_all T F D1 D2 D3 n
  have hp := ok_is_pair_of T n D3 F ih
  exact ok_is_of T n F D1 D2 (ok_holds_items T n D1 F ih) (ok_is_record_of T n D2 D3 hp)
noncomputable def Bad (d e : Dt) : Prop := Sz e ∧ e.dep ≤ 30 ∧ ∀ n,ofN n d e = false
theorem bad_of {d e : Dt} (sz : Sz e) (dp : e.dep ≤ 30) (h : ∀ n,ofN (n + 1) d e = false) : Bad d e := ⟨sz,dp,fun n => by
 cases n with
 | zero => rfl
 | succ n => exact h n⟩
theorem pick_odd {K : PySem.W.Frag} {H : Hp} {ds : List Dt} {ys : List V} (h : IsPs K H ds ys) (c : Int) (h1 : 0 < ys.length) : ∃ v e,atI ys (c % ((ys.length : Nat) : Int)) = some v ∧ e ∈ ds ∧ IsP K H e v := by
 obtain ⟨d0,d1⟩ := mod_lt c (m := ((ys.length : Nat) : Int)) (by lia)
 have hk : (c % ((ys.length : Nat) : Int)).toNat < ys.length := by lia
 have ek : (((c % ((ys.length : Nat) : Int)).toNat : Nat) : Int) = c % ((ys.length : Nat) : Int) := by lia
 have e1 : atI ys (((c % ((ys.length : Nat) : Int)).toNat : Nat) : Int) = some ys[(c % ((ys.length : Nat) : Int)).toNat] := atI_nat (by simp [hk])
 rw [ek] at e1
 obtain ⟨d,hd,hp⟩ := h.get' (List.getElem?_eq_getElem hk)
 exact ⟨_,d,e1,List.mem_of_getElem? hd,hp⟩
theorem sz_str {z : Str} (h : z.length ≤ 100) : Sz (.str z) := .str z h
theorem sz2 {a b : Dt} (ha : Sz a) (hb : Sz b) : Sz (.tup [a,b]) := .tup (fun x hx => by
 rcases List.mem_cons.mp hx with rfl | hx
 ·exact ha
 ·obtain rfl := List.mem_singleton.mp hx
  exact hb) (by show 2 ≤ 20; decide)
theorem sz1 {a : Dt} (ha : Sz a) : Sz (.tup [a]) := .tup (fun x hx => by
 obtain rfl := List.mem_singleton.mp hx
 exact ha) (by show 1 ≤ 20; decide)
theorem sz0 : Sz (.tup []) := .tup (fun x hx => by cases hx) (Nat.zero_le _)
theorem fig_len {i : Int} (h1 : -1000000000000000000000000000000 ≤ i) (h2 : i ≤ 1000000000000000000000000000000) : (Str.ofString (toString i)).length ≤ 100 := by
 show (Str.ofString (toString i)).cps.size ≤ 100
 rw [← Array.length_toList,str_int]
 have := dg_len 30 i.natAbs (by lia)
 unfold strI
 split
 ·rw [List.length_cons]; lia
 ·lia
inductive I_sp_law_odd_number (K : PySem.W.Frag)   (vs : List V) (H : Hp) (Q : VK) : Prop
 | mk (r : Addr) (c i j : Int) (x : V) : (vs = [x,.ref r]) → (H r = some (.lst [.int c])) → (IsP K H (.tup [.str "number",.int i,.int j]) x) → (-1000000000000000000000000000000 ≤ i) → (i ≤ j) → (j ≤ 1000000000000000000000000000000) → (∀ (v : V) (e : Dt) (c' : Int) (H' : Hp),But r H H' → H' r = some (.lst [.int c']) → IsP K H' e v → Bad (.tup [.str "number",.int i,.int j]) e → Q v H') → I_sp_law_odd_number K vs H Q
noncomputable def sp_law_odd_number (K : PySem.W.Frag) (_ : Ads)  : Sp := fun vs H Q _ => I_sp_law_odd_number K vs H Q
theorem bad_num {i j x : Int} (h : x < i ∨ j < x) : Bad (.tup [.str "number",.int i,.int j]) (.int x) := bad_of (.int x) (Nat.zero_le _) fun n => by
 rw [of_number]
 show (decide (i ≤ x) && decide (x ≤ j)) = false
 rcases h with h | h
 ·rw [decide_eq_false (by lia)]; rfl
 ·rw [decide_eq_false (show ¬ x ≤ j by lia),Bool.and_false]
theorem bad_num' {i j : Int} {e : Dt} (sz : Sz e) (dp : e.dep ≤ 30) (h : isInt e = false) : Bad (.tup [.str "number",.int i,.int j]) e := bad_of sz dp fun n => by
 rw [of_number]
 cases sz with
 | int _ => cases h
 | str _ _ => rfl
 | tup _ _ => rfl
theorem pow20 : (10 : Int) ^ (20 : Int).toNat = 100000000000000000000 := by decide +kernel
theorem log_num {i : Int} (h1 : -1000000000000000000000000000000 ≤ i) (h2 : i ≤ 1000000000000000000000000000000) : i.natAbs.log2 < 1920 := by
 have h3 : i.natAbs < 2 ^ 1920 := Nat.lt_of_le_of_lt (show i.natAbs ≤ 1000000000000000000000000000000 by lia) (by decide +kernel)
 by_cases hz : i.natAbs = 0
 ·rw [hz]; decide
 ·exact (Nat.log2_lt hz).mpr h3
theorem ok_law_odd_number (T : Tx K mg ad) {f : Addr} {fd : FuncData} (F : Gn K mg "_law_odd_number" s_law_odd_number ["kind","row"] f fd) : FnOk P w K mg base CX0 2 f fd ["kind","row"] (sp_law_odd_number K ad) := by
 obtain ⟨f_law_digit,fd_law_digit,D_law_digit⟩ := T.law_digit
 have G_law_digit := ok_law_digit (P := P) (w := w) (base := base) T D_law_digit
 refine F.F.ok sc_law_odd_number (fun vs H Q E h => ?_) (fun cdv A outer s H vs Q E hr h => ?_)
 ·obtain ⟨r,c,i,j,x,rfl,_⟩ := h
  rfl
 obtain ⟨r,c,i,j,x,rfl,hr0,hd,k1,k2,k3,q⟩ := h
 refine ⟨_,(@pss_cons _ _ _ _ _ (@ps_set _ _ 2 _ _ _ _ sc_law_odd_number.nd rfl (Or.inl rfl) (pe_call G_law_digit (hr.mono (by first | decide | lia)) rfl D_law_digit.m D_law_digit.F.kp D_law_digit.b .nil pass0 (@pa_cons _ _ _ _ _ (pv 1) (@pa_cons _ _ _ _ _ (@pe_op _ _ _ _ _ _ _ _ op_pow pe_int pe_int) pa_nil (by rfl)) (by rfl))) (by rfl) (by first | exact .inl rfl | exact .inr rfl | assumption)) (@pss_cons _ _ _ _ _ (@ps_set _ _ 3 _ _ _ _ sc_law_odd_number.nd rfl (Or.inl rfl) (@pe_lst _ _ _ _ (@pa_cons _ _ _ _ _ (@pe_op _ _ _ _ _ _ _ _ op_sub (@pe_ix _ _ _ _ _ _ _ (ix_tupPN (K := K) rfl) (pv 0) pe_int (fun _ _ => rfl)) pe_int) (@pa_cons _ _ _ _ _ (@pe_op _ _ _ _ _ _ _ _ op_add (@pe_ix _ _ _ _ _ _ _ (ix_tupPN (K := K) rfl) (pv 0) pe_int (fun _ _ => rfl)) pe_int) (@pa_cons _ _ _ _ _ (@pe_op _ _ _ _ _ _ _ _ op_sub (@pe_op _ _ _ _ _ _ _ _ op_sub (@pe_ix _ _ _ _ _ _ _ (ix_tupPN (K := K) rfl) (pv 0) pe_int (fun _ _ => rfl)) pe_int) (pv 2)) (@pa_cons _ _ _ _ _ (@pe_op _ _ _ _ _ _ _ _ op_add (@pe_op _ _ _ _ _ _ _ _ op_add (@pe_ix _ _ _ _ _ _ _ (ix_tupPN (K := K) rfl) (pv 0) pe_int (fun _ _ => rfl)) pe_int) (pv 2)) pa_nil (by rfl)) (by rfl)) (by rfl)) (by rfl))) (by rfl) (by first | exact .inl rfl | exact .inr rfl | assumption)) (@pss_cons _ _ _ _ _ (@ps_set _ _ 3 _ _ _ _ sc_law_odd_number.nd rfl (Or.inl rfl) (@pe_op _ _ _ _ _ _ _ _ (op_catSN (K := K) rfl) (pv 3) (@pe_lst _ _ _ _ (@pa_cons _ _ _ _ _ (pe_callTy call_str_int rfl T.z_str boot_str (@pa_cons _ _ _ _ _ (@pe_ix _ _ _ _ _ _ _ (ix_tupPN (K := K) rfl) (pv 0) pe_int (fun _ _ => rfl)) pa_nil (by rfl))) (@pa_cons _ _ _ _ _ (@pe_tupPK _ K _ _ _ _ rfl (@pa_cons _ _ _ _ _ pe_str (@pa_cons _ _ _ _ _ (@pe_ix _ _ _ _ _ _ _ (ix_tupPN (K := K) rfl) (pv 0) pe_int (fun _ _ => rfl)) pa_nil (by rfl)) (by rfl))) (@pa_cons _ _ _ _ _ (@pe_tupPK _ K _ _ _ _ rfl (@pa_cons _ _ _ _ _ (@pe_ix _ _ _ _ _ _ _ (ix_tupPN (K := K) rfl) (pv 0) pe_int (fun _ _ => rfl)) pa_nil (by rfl))) pa_nil (by rfl)) (by rfl)) (by rfl)))) (by rfl) (by first | exact .inl rfl | exact .inr rfl | assumption)) (@pss_one _ _ _ (@ps_ret _ _ _ _ (@pe_ix _ _ _ _ _ _ _ (ix_listK (K := K) rfl) (pv 3) (pe_call G_law_digit (hr.mono (by first | decide | lia)) rfl D_law_digit.m D_law_digit.F.kp D_law_digit.b .nil pass0 (@pa_cons _ _ _ _ _ (pv 1) (@pa_cons _ _ _ _ _ (pe_callB (call_len_seqN (K := K) rfl) rfl T.z_len PySem.boot_len (@pa_cons _ _ _ _ _ (pv 3) pa_nil (by rfl))) pa_nil (by rfl)) (by rfl))) (fun _ _ => rfl))))))),?_⟩
 refine ⟨_,rfl,_,_,rfl,rfl,⟨by decide,by decide,by decide⟩,r,c,_,rfl,hr0,by rw [pow20]; decide,by rw [pow20]; decide,?_⟩
 obtain ⟨f0,f1⟩ := mod_lt c (m := (10 : Int) ^ (20 : Int).toNat) (by rw [pow20]; decide)
 generalize c % (10 : Int) ^ (20 : Int).toNat = far at f0 f1
 have b0 : But r H (upd H r (.lst [.int (c / (10 : Int) ^ (20 : Int).toNat)])) := But.put
 have r0 : (upd H r (.lst [.int (c / (10 : Int) ^ (20 : Int).toNat)])) r = some (.lst [.int (c / (10 : Int) ^ (20 : Int).toNat)]) := upd_same
 generalize c / (10 : Int) ^ (20 : Int).toNat = c0 at b0 r0 ⊢
 generalize upd H r (.lst [.int c0]) = H0 at b0 r0 ⊢
 have hd0 := hd.but hr0 b0
 refine s_ix rfl hd0 rfl fun v hv => ?_
 obtain rfl := isIntV hv
 refine ⟨_,_,rfl,rfl,?_⟩
 refine s_ix rfl hd0 rfl fun v hv => ?_
 obtain rfl := isIntV hv
 refine ⟨_,_,rfl,rfl,?_⟩
 refine s_ix rfl hd0 rfl fun v hv => ?_
 obtain rfl := isIntV hv
 refine ⟨_,_,rfl,rfl,_,rfl,_,_,rfl,rfl,?_⟩
 refine s_ix rfl hd0 rfl fun v hv => ?_
 obtain rfl := isIntV hv
 refine ⟨_,_,rfl,rfl,_,rfl,_,_,rfl,rfl,?_⟩
 refine ⟨(by show 4 ≤ sizeLine; decide),fun p1 hp1 => ?_⟩
 have g1 := same_new hp1 (.lst [.int (i - 1),.int (j + 1),.int (i - 1 - far),.int (j + 1 + far)])
 have e1 : (upd H0 p1 (.lst [.int (i - 1),.int (j + 1),.int (i - 1 - far),.int (j + 1 + far)])) p1 = some (.lst [.int (i - 1),.int (j + 1),.int (i - 1 - far),.int (j + 1 + far)]) := upd_same
 refine show _ from ?_
 generalize upd H0 p1 (.lst [.int (i - 1),.int (j + 1),.int (i - 1 - far),.int (j + 1 + far)]) = H1 at g1 e1 ⊢
 have hd1 := hd0.same g1
 refine ⟨_,rfl,_,rfl,_,_,_,hd1,rfl,rfl,fun v hv => ?_⟩
 obtain rfl := isIntV hv
 refine ⟨_,rfl,log_num k1 (by lia),?_⟩
 refine s_ix rfl hd1 rfl fun v hv => ?_
 obtain rfl := isIntV hv
 refine ⟨[.str "number",.int i],.cons .str (.cons .int .nil),(by show 2 ≤ sizeLine; decide),fun v2 H2 g2 w2 => ?_⟩
 refine s_ix rfl (hd1.same g2) rfl fun v hv => ?_
 obtain rfl := isIntV hv
 refine ⟨[.int i],.cons .int .nil,(by show 1 ≤ sizeLine; decide),fun v3 H3 g3 w3 => ?_⟩
 refine ⟨(by show 3 ≤ sizeLine; decide),fun p4 hp4 => ?_⟩
 have g4 := same_new hp4 (.lst [.str (Str.ofString (toString i)),v2,v3])
 refine ⟨p1,p4,_,_,rfl,rfl,SqL.of (g4 _ _ (g3 _ _ (g2 _ _ e1))),SqL.of upd_same,(by show 7 ≤ sizeLine; decide),fun p5 hp5 => ?_⟩
 have g5 := same_new hp5 (.lst ([.int (i - 1),.int (j + 1),.int (i - 1 - far),.int (j + 1 + far)] ++ [.str (Str.ofString (toString i)),v2,v3]))
 have S : Same H0 _ := ((g1.trans g2).trans g3).trans (g4.trans g5)
 have all : IsPs K _ [.int (i - 1),.int (j + 1),.int (i - 1 - far),.int (j + 1 + far),.str (Str.ofString (toString i)),.tup [.str "number",.int i],.tup [.int i]] ([.int (i - 1),.int (j + 1),.int (i - 1 - far),.int (j + 1 + far)] ++ [.str (Str.ofString (toString i)),v2,v3]) :=
  .cons .int (.cons .int (.cons .int (.cons .int (.cons .str (.cons (((w2.same g3).same g4).same g5) (.cons ((w3.same g4).same g5) .nil))))))
 have e5 : (upd (upd H3 p4 (.lst [.str (Str.ofString (toString i)),v2,v3])) p5 (.lst ([.int (i - 1),.int (j + 1),.int (i - 1 - far),.int (j + 1 + far)] ++ [.str (Str.ofString (toString i)),v2,v3]))) p5 = some (.lst ([.int (i - 1),.int (j + 1),.int (i - 1 - far),.int (j + 1 + far)] ++ [.str (Str.ofString (toString i)),v2,v3])) := upd_same
 have r5 := S _ _ r0
 refine goal_name fun gg hgg => ?_
 obtain ⟨v,e,at5,me,hv⟩ := pick_odd all c0 (by show 0 < 7; decide)
 refine hgg ?_
 clear hgg gg
 have n5 : p5 ≠ r := fun c => by rw [c,g4 _ _ (g3 _ _ (g2 _ _ (g1 _ _ r0)))] at hp5; cases hp5
 refine ⟨_,rfl,_,rfl,_,rfl,p5,_,rfl,.inl (SqL.of e5),r,c0,_,rfl,r5,(by show (0 : Int) < 7; decide),(by show (7 : Int) < 10000000000000000000000000000000000000000000000000000000000000; decide),?_⟩
 have b6 := But.put (H := upd (upd H3 p4 (.lst [.str (Str.ofString (toString i)),v2,v3])) p5 (.lst ([.int (i - 1),.int (j + 1),.int (i - 1 - far),.int (j + 1 + far)] ++ [.str (Str.ofString (toString i)),v2,v3]))) (r := r) (o := .lst [.int (c0 / 7)])
 refine ⟨p5,_,_,v,rfl,rfl,SqL.of (b6 _ _ n5 e5),at5,?_⟩
 refine q v e (c0 / 7) _ ((b0.trans (But.same S)).trans b6) upd_same (hv.but r5 b6) ?_
 rcases List.mem_cons.mp me with rfl | me
 ·exact bad_num (.inl (by lia))
 rcases List.mem_cons.mp me with rfl | me
 ·exact bad_num (.inr (by lia))
 rcases List.mem_cons.mp me with rfl | me
 ·exact bad_num (.inl (by lia))
 rcases List.mem_cons.mp me with rfl | me
 ·exact bad_num (.inr (by lia))
 rcases List.mem_cons.mp me with rfl | me
 ·exact bad_num' (sz_str (fig_len k1 (by lia))) (Nat.zero_le _) rfl
 rcases List.mem_cons.mp me with rfl | me
 ·exact bad_num' (sz2 (sz_str (by decide +kernel)) (.int i)) (by show 1 ≤ 30; decide) rfl
 obtain rfl := List.mem_singleton.mp me
 exact bad_num' (sz1 (.int i)) (by show 1 ≤ 30; decide) rfl
inductive I_sp_law_odd_text (K : PySem.W.Frag)   (vs : List V) (H : Hp) (Q : VK) : Prop
 | mk (r : Addr) (c i : Int) (x : V) : (vs = [x,.ref r]) → (H r = some (.lst [.int c])) → (IsP K H (.tup [.str "text",.int i]) x) → (0 ≤ i) → (i ≤ 60) → (∀ (v : V) (e : Dt) (c' : Int) (H' : Hp),But r H H' → H' r = some (.lst [.int c']) → IsP K H' e v → Bad (.tup [.str "text",.int i]) e → Q v H') → I_sp_law_odd_text K vs H Q
noncomputable def sp_law_odd_text (K : PySem.W.Frag) (_ : Ads)  : Sp := fun vs H Q _ => I_sp_law_odd_text K vs H Q
theorem bad_txt {i : Int} {z : Str} (hl : z.length ≤ 100) (h : i < (z.length : Int) ∨ z.cps.toList.all okC = false) : Bad (.tup [.str "text",.int i]) (.str z) := bad_of (.str z hl) (Nat.zero_le _) fun n => by
 rw [of_text]
 show (decide ((z.length : Int) ≤ i) && z.cps.toList.all okC) = false
 rcases h with h | h
 ·rw [decide_eq_false (by lia)]; rfl
 ·rw [h,Bool.and_false]
noncomputable def isStr : Dt → Bool
 | .str _ => true
 | _ => false
theorem bad_txt' {i : Int} {e : Dt} (sz : Sz e) (dp : e.dep ≤ 30) (h : isStr e = false) : Bad (.tup [.str "text",.int i]) e := bad_of sz dp fun n => by
 rw [of_text]
 cases sz with
 | int _ => rfl
 | str _ _ => cases h
 | tup _ _ => rfl
theorem len_of {z : Str} {l : List Nat} (h : z.cps.toList = l) : z.length = l.length := by
 show z.cps.size = _
 rw [← Array.length_toList,h]
theorem ok_law_odd_text (T : Tx K mg ad) {f : Addr} {fd : FuncData} (F : Gn K mg "_law_odd_text" s_law_odd_text ["kind","row"] f fd) : FnOk P w K mg base CX0 2 f fd ["kind","row"] (sp_law_odd_text K ad) := by
 obtain ⟨f_law_digit,fd_law_digit,D_law_digit⟩ := T.law_digit
 have G_law_digit := ok_law_digit (P := P) (w := w) (base := base) T D_law_digit
 refine F.F.ok sc_law_odd_text (fun vs H Q E h => ?_) (fun cdv A outer s H vs Q E hr h => ?_)
 ·obtain ⟨r,c,i,x,rfl,_⟩ := h
  rfl
 obtain ⟨r,c,i,x,rfl,hr0,hd,k1,k2,q⟩ := h
 refine ⟨_,(@pss_cons _ _ _ _ _ (@ps_set _ _ 2 _ _ _ _ sc_law_odd_text.nd rfl (Or.inl rfl) (@pe_lst _ _ _ _ (@pa_cons _ _ _ _ _ (@pe_op _ _ _ _ _ _ _ _ op_mulStr pe_str (@pe_op _ _ _ _ _ _ _ _ op_add (@pe_ix _ _ _ _ _ _ _ (ix_tupPN (K := K) rfl) (pv 0) pe_int (fun _ _ => rfl)) pe_int)) (@pa_cons _ _ _ _ _ pe_int (@pa_cons _ _ _ _ _ (@pe_tupPK _ K _ _ _ _ rfl (@pa_cons _ _ _ _ _ pe_str (@pa_cons _ _ _ _ _ pe_str pa_nil (by rfl)) (by rfl))) (@pa_cons _ _ _ _ _ (@pe_tupPK _ K _ _ _ _ rfl (@pa_cons _ _ _ _ _ pe_str (@pa_cons _ _ _ _ _ (@pe_tupPK _ K _ _ _ _ rfl pa_nil) pa_nil (by rfl)) (by rfl))) (@pa_cons _ _ _ _ _ (@pe_tupPK _ K _ _ _ _ rfl pa_nil) (@pa_cons _ _ _ _ _ pe_str (@pa_cons _ _ _ _ _ pe_str (@pa_cons _ _ _ _ _ (@pe_op _ _ _ _ _ _ _ _ op_mulStr pe_str pe_int) (@pa_cons _ _ _ _ _ (@pe_op _ _ _ _ _ _ _ _ op_add_str (@pe_op _ _ _ _ _ _ _ _ op_mulStr pe_str (@pe_ix _ _ _ _ _ _ _ (ix_tupPN (K := K) rfl) (pv 0) pe_int (fun _ _ => rfl))) pe_str) pa_nil (by rfl)) (by rfl)) (by rfl)) (by rfl)) (by rfl)) (by rfl)) (by rfl)) (by rfl)) (by rfl))) (by rfl) (by first | exact .inl rfl | exact .inr rfl | assumption)) (@pss_one _ _ _ (@ps_ret _ _ _ _ (@pe_ix _ _ _ _ _ _ _ (ix_listK (K := K) rfl) (pv 2) (pe_call G_law_digit (hr.mono (by first | decide | lia)) rfl D_law_digit.m D_law_digit.F.kp D_law_digit.b .nil pass0 (@pa_cons _ _ _ _ _ (pv 1) (@pa_cons _ _ _ _ _ (pe_callB (call_len_seqN (K := K) rfl) rfl T.z_len PySem.boot_len (@pa_cons _ _ _ _ _ (pv 2) pa_nil (by rfl))) pa_nil (by rfl)) (by rfl))) (fun _ _ => rfl))))),?_⟩
 refine s_ix rfl hd rfl fun v hv => ?_
 obtain rfl := isIntV hv
 refine ⟨_,_,rfl,rfl,"a",i + 1,rfl,rfl,rfl,by lia,by lia,fun z1 hz1 => ?_⟩
 have l1 := len_of hz1
 rw [List.length_replicate] at l1
 refine ⟨[.str "text",.str "a"],.cons .str (.cons .str .nil),(by show 2 ≤ sizeLine; decide),fun v2 H2 g2 w2 => ?_⟩
 refine ⟨[],.nil,(by show 0 ≤ sizeLine; decide),fun v3 H3 g3 w3 => ?_⟩
 refine ⟨[.str "list",.tup []],.cons .str (.cons w3 .nil),(by show 2 ≤ sizeLine; decide),fun v4 H4 g4 w4 => ?_⟩
 refine ⟨[],.nil,(by show 0 ≤ sizeLine; decide),fun v5 H5 g5 w5 => ?_⟩
 refine ⟨"a",61,rfl,rfl,rfl,by decide,by decide,fun z6 hz6 => ?_⟩
 have l6 := len_of hz6
 rw [List.length_replicate] at l6
 have l6' : z6.length = 61 := l6
 have S5 : Same H H5 := ((g2.trans g3).trans g4).trans g5
 refine s_ix rfl (hd.same S5) rfl fun v hv => ?_
 obtain rfl := isIntV hv
 refine ⟨"~",i,rfl,rfl,rfl,by lia,by lia,fun z7 hz7 => ?_⟩
 have l7 := len_of hz7
 rw [List.length_replicate] at l7
 refine ⟨_,_,rfl,rfl,small (by show z7.length + 1 ≤ 1000; lia),?_⟩
 have l8 : (z7 ++ ("~" : Str)).length = z7.length + 1 := by rw [Str.length_append]; rfl
 refine ⟨(by show 9 ≤ sizeLine; decide),fun p hp => ?_⟩
 have gp := same_new hp (.lst [.str z1,.int 5,v2,v4,v5,.str "\n",.str "\"",.str z6,.str (z7 ++ ("~" : Str))])
 have S : Same H _ := S5.trans gp
 have all : IsPs K _ [.str z1,.int 5,.tup [.str "text",.str "a"],.tup [.str "list",.tup []],.tup [],.str "\n",.str "\"",.str z6,.str (z7 ++ ("~" : Str))] [.str z1,.int 5,v2,v4,v5,.str "\n",.str "\"",.str z6,.str (z7 ++ ("~" : Str))] :=
  .cons .str (.cons .int (.cons ((((w2.same g3).same g4).same g5).same gp) (.cons ((w4.same g5).same gp) (.cons (w5.same gp) (.cons .str (.cons .str (.cons .str (.cons .str .nil))))))))
 have ep : (upd H5 p (.lst [.str z1,.int 5,v2,v4,v5,.str "\n",.str "\"",.str z6,.str (z7 ++ ("~" : Str))])) p = some (.lst [.str z1,.int 5,v2,v4,v5,.str "\n",.str "\"",.str z6,.str (z7 ++ ("~" : Str))]) := upd_same
 have rp := S _ _ hr0
 refine goal_name fun gg hgg => ?_
 obtain ⟨v,e,at5,me,hv⟩ := pick_odd all c (by show 0 < 9; decide)
 refine hgg ?_
 clear hgg gg
 have np : p ≠ r := fun cc => by rw [cc,S5 _ _ hr0] at hp; cases hp
 refine ⟨_,rfl,_,rfl,_,rfl,p,_,rfl,.inl (SqL.of ep),r,c,_,rfl,rp,(by show (0 : Int) < 9; decide),(by show (9 : Int) < 10000000000000000000000000000000000000000000000000000000000000; decide),?_⟩
 have b6 := But.put (H := upd H5 p (.lst [.str z1,.int 5,v2,v4,v5,.str "\n",.str "\"",.str z6,.str (z7 ++ ("~" : Str))])) (r := r) (o := .lst [.int (c / 9)])
 refine ⟨p,_,_,v,rfl,rfl,SqL.of (b6 _ _ np ep),at5,?_⟩
 refine q v e (c / 9) _ ((But.same S).trans b6) upd_same (hv.but rp b6) ?_
 rcases List.mem_cons.mp me with rfl | me
 ·exact bad_txt (by lia) (.inl (by lia))
 rcases List.mem_cons.mp me with rfl | me
 ·exact bad_txt' (.int 5) (Nat.zero_le _) rfl
 rcases List.mem_cons.mp me with rfl | me
 ·exact bad_txt' (sz2 (sz_str (by decide +kernel)) (sz_str (by decide +kernel))) (by show 1 ≤ 30; decide) rfl
 rcases List.mem_cons.mp me with rfl | me
 ·exact bad_txt' (sz2 (sz_str (by decide +kernel)) sz0) (by show 2 ≤ 30; decide) rfl
 rcases List.mem_cons.mp me with rfl | me
 ·exact bad_txt' sz0 (by show 1 ≤ 30; decide) rfl
 rcases List.mem_cons.mp me with rfl | me
 ·exact bad_txt (by decide +kernel) (.inr (by decide +kernel))
 rcases List.mem_cons.mp me with rfl | me
 ·exact bad_txt (by decide +kernel) (.inr (by decide +kernel))
 rcases List.mem_cons.mp me with rfl | me
 ·exact bad_txt (by lia) (.inl (by lia))
 obtain rfl := List.mem_singleton.mp me
 exact bad_txt (by rw [l8]; lia) (.inl (by rw [l8]; lia))
theorem words_cons {ws : List Str} (hw : wordsB ws = true) : ∃ z r,ws = z :: r := by
 unfold wordsB at hw
 simp only [Bool.and_eq_true,decide_eq_true_eq] at hw
 cases ws with
 | nil => simp at hw
 | cons z r => exact ⟨z,r,rfl⟩
theorem words_name {ws : List Str} (hw : wordsB ws = true) : ∀ z ∈ ws,nameB z = true := by
 unfold wordsB at hw
 simp only [Bool.and_eq_true] at hw
 exact List.all_eq_true.mp hw.1.2
theorem inB_low : ∀ c,inB c = true → 97 ≤ c ∧ c ≤ 122 := by
 intro c h
 have al : ∀ d ∈ letters.cps.toList,97 ≤ d ∧ d ≤ 122 := by decide +kernel
 refine al c (Decidable.byContradiction fun nm => ?_)
 have e : Builtin.Str.occurrences letters ⟨#[c]⟩ 0 letters.length 1 = [] := by
  refine PySem.W.occ_nil_of_no _ _ 1 fun i _ => ?_
  cases hs : Builtin.Str.subAt letters ⟨#[c]⟩ i with
  | false => rfl
  | true =>
   have hs' := beq_iff_eq.mp hs
   have hm : c ∈ (⟨#[c]⟩ : Str).cps := by simp
   rw [← hs'] at hm
   obtain ⟨k,hk,hc⟩ := Array.mem_extract_iff_getElem.mp hm
   exact absurd (by rw [← hc]; exact Array.mem_toList_iff.mpr (Array.getElem_mem _)) nm
 unfold inB at h
 rw [e] at h
 cases h
theorem name_len {z : Str} (h : nameB z = true) : 1 ≤ z.length ∧ z.length ≤ 8 := by
 unfold nameB at h
 simp only [Bool.and_eq_true,decide_eq_true_eq] at h
 exact ⟨h.1.1.1,h.1.1.2⟩
theorem name_low {z : Str} (h : nameB z = true) : ∀ c ∈ z.cps.toList,97 ≤ c ∧ c ≤ 122 := by
 unfold nameB at h
 simp only [Bool.and_eq_true] at h
 exact fun c hc => inB_low c (List.all_eq_true.mp h.2 c hc)
theorem bad_cho {ws : List Str} {z : Str} (hl : z.length ≤ 100) (h : ∀ w ∈ ws,w ≠ z) : Bad (.tup [.str "choice",.tup (ws.map Dt.str)]) (.str z) := bad_of (.str z hl) (Nat.zero_le _) fun n => by
 rw [of_choice]
 show ((ws.map Dt.str).any fun d => eqD d (.str z)) = false
 refine List.any_eq_false.mpr fun d hd => ?_
 obtain ⟨w,hw,rfl⟩ := List.mem_map.mp hd
 intro c
 exact h w hw (by simpa [eqD] using c)
theorem bad_cho' {l : List Dt} {e : Dt} (sz : Sz e) (dp : e.dep ≤ 30) (h : isStr e = false) : Bad (.tup [.str "choice",.tup l]) e := bad_of sz dp fun n => by
 rw [of_choice]
 cases sz with
 | int _ => rfl
 | str _ _ => cases h
 | tup _ _ => rfl
theorem sz_strs {ws : List Str} (h8 : ws.length ≤ 8) (h : ∀ w ∈ ws,w.length ≤ 8) : Sz (.tup (ws.map Dt.str)) := .tup (fun x hx => by
 obtain ⟨w,hw,rfl⟩ := List.mem_map.mp hx
 exact .str w (by have := h w hw; lia)) (by rw [List.length_map]; lia)
inductive I_sp_law_odd_choice (K : PySem.W.Frag)   (vs : List V) (H : Hp) (Q : VK) : Prop
 | mk (r : Addr) (c : Int) (ws : List Str) (x : V) : (vs = [x,.ref r]) → (H r = some (.lst [.int c])) → (IsP K H (.tup [.str "choice",.tup (ws.map Dt.str)]) x) → (wordsB ws = true) → (oddW ws) → (∀ (v : V) (e : Dt) (c' : Int) (H' : Hp),But r H H' → H' r = some (.lst [.int c']) → IsP K H' e v → Bad (.tup [.str "choice",.tup (ws.map Dt.str)]) e → Q v H') → I_sp_law_odd_choice K vs H Q
noncomputable def sp_law_odd_choice (K : PySem.W.Frag) (_ : Ads)  : Sp := fun vs H Q _ => I_sp_law_odd_choice K vs H Q
theorem dep_strs0 (ws : List Str) : (Dt.tup (ws.map Dt.str)).dep ≤ 30 := by
 have : depS (ws.map Dt.str) ≤ 0 := by
  induction ws with
  | nil => exact Nat.le_refl _
  | cons w ws ih => simp only [List.map_cons,depS,Dt.dep]; lia
 simp only [Dt.dep]
 lia
theorem ok_law_odd_choice (T : Tx K mg ad) {f : Addr} {fd : FuncData} (F : Gn K mg "_law_odd_choice" s_law_odd_choice ["kind","row"] f fd) : FnOk P w K mg base CX0 2 f fd ["kind","row"] (sp_law_odd_choice K ad) := by
 obtain ⟨f_law_digit,fd_law_digit,D_law_digit⟩ := T.law_digit
 have G_law_digit := ok_law_digit (P := P) (w := w) (base := base) T D_law_digit
 refine F.F.ok sc_law_odd_choice (fun vs H Q E h => ?_) (fun cdv A outer s H vs Q E hr h => ?_)
 ·obtain ⟨r,c,ws,x,rfl,_⟩ := h
  rfl
 obtain ⟨r,c,ws,x,rfl,hr0,hd,hw,ho,q⟩ := h
 refine ⟨_,(@pss_cons _ _ _ _ _ (@ps_set _ _ 2 _ _ _ _ sc_law_odd_choice.nd rfl (Or.inl rfl) (@pe_lst _ _ _ _ (@pa_cons _ _ _ _ _ (@pe_op _ _ _ _ _ _ _ _ op_add_str (@pe_ix _ _ _ _ _ _ _ (ix_tupPN (K := K) rfl) (@pe_ix _ _ _ _ _ _ _ (ix_tupPN (K := K) rfl) (pv 0) pe_int (fun _ _ => rfl)) pe_int (fun _ _ => rfl)) pe_str) (@pa_cons _ _ _ _ _ pe_str (@pa_cons _ _ _ _ _ pe_str (@pa_cons _ _ _ _ _ pe_int (@pa_cons _ _ _ _ _ (@pe_tupPK _ K _ _ _ _ rfl (@pa_cons _ _ _ _ _ pe_str (@pa_cons _ _ _ _ _ (@pe_ix _ _ _ _ _ _ _ (ix_tupPN (K := K) rfl) (@pe_ix _ _ _ _ _ _ _ (ix_tupPN (K := K) rfl) (pv 0) pe_int (fun _ _ => rfl)) pe_int (fun _ _ => rfl)) pa_nil (by rfl)) (by rfl))) (@pa_cons _ _ _ _ _ (@pe_ix _ _ _ _ _ _ _ (ix_tupPN (K := K) rfl) (pv 0) pe_int (fun _ _ => rfl)) (@pa_cons _ _ _ _ _ (pe_bm0 PySem.F.plainAttrs_str PySem.F.slot_str_upper PySem.F.type_str_upper mt_upper (@pe_ix _ _ _ _ _ _ _ (ix_tupPN (K := K) rfl) (@pe_ix _ _ _ _ _ _ _ (ix_tupPN (K := K) rfl) (pv 0) pe_int (fun _ _ => rfl)) pe_int (fun _ _ => rfl))) pa_nil (by rfl)) (by rfl)) (by rfl)) (by rfl)) (by rfl)) (by rfl)) (by rfl))) (by rfl) (by first | exact .inl rfl | exact .inr rfl | assumption)) (@pss_one _ _ _ (@ps_ret _ _ _ _ (@pe_ix _ _ _ _ _ _ _ (ix_listK (K := K) rfl) (pv 2) (pe_call G_law_digit (hr.mono (by first | decide | lia)) rfl D_law_digit.m D_law_digit.F.kp D_law_digit.b .nil pass0 (@pa_cons _ _ _ _ _ (pv 1) (@pa_cons _ _ _ _ _ (pe_callB (call_len_seqN (K := K) rfl) rfl T.z_len PySem.boot_len (@pa_cons _ _ _ _ _ (pv 2) pa_nil (by rfl))) pa_nil (by rfl)) (by rfl))) (fun _ _ => rfl))))),?_⟩
 refine goal_name fun gg hgg => ?_
 obtain ⟨z,rr,ews⟩ := words_cons hw
 refine hgg ?_
 clear hgg gg
 have mz : z ∈ ws := by rw [ews]; exact List.mem_cons_self
 have nz := words_name hw z mz
 obtain ⟨lz1,lz8⟩ := name_len nz
 have atz : atI (ws.map Dt.str) 0 = some (.str z) := by rw [ews]; exact at0 (Dt.str z) (rr.map Dt.str)
 have w8 : ws.length ≤ 8 := by
  unfold wordsB at hw
  simp only [Bool.and_eq_true,decide_eq_true_eq] at hw
  exact hw.1.1.2
 refine s_ix rfl hd rfl fun v1 hv1 => ?_
 refine ⟨_,_,_,hv1,rfl,atz,fun v hv => ?_⟩
 obtain rfl := isStrV hv
 refine ⟨_,_,rfl,rfl,small (by show z.length + 1 ≤ 1000; lia),?_⟩
 have lx : (z ++ ("x" : Str)).length = z.length + 1 := by rw [Str.length_append]; rfl
 refine s_ix rfl hd rfl fun v2 hv2 => ?_
 refine ⟨_,_,_,hv2,rfl,atz,fun v hv => ?_⟩
 obtain rfl := isStrV hv
 refine ⟨[.str "choice",.str z],.cons .str (.cons .str .nil),(by show 2 ≤ sizeLine; decide),fun v3 H3 g3 w3 => ?_⟩
 refine s_ix rfl (hd.same g3) rfl fun v4 hv4 => ?_
 refine s_ix rfl (hd.same g3) rfl fun v5 hv5 => ?_
 refine ⟨_,_,_,hv5,rfl,atz,fun v hv => ?_⟩
 obtain rfl := isStrV hv
 refine ⟨rfl,z,rfl,rfl,name_low nz,by lia,fun z6 hz6 => ?_⟩
 have l6 := len_of hz6
 rw [List.length_map,Array.length_toList] at l6
 have l6' : z6.length = z.length := l6
 refine ⟨(by show 7 ≤ sizeLine; decide),fun p hp => ?_⟩
 have gp := same_new hp (.lst [.str (z ++ ("x" : Str)),.str "",.str "nonesuch",.int 0,v3,v4,.str z6])
 have S : Same H _ := g3.trans gp
 have all : IsPs K _ [.str (z ++ ("x" : Str)),.str "",.str "nonesuch",.int 0,.tup [.str "choice",.str z],.tup (ws.map Dt.str),.str z6] [.str (z ++ ("x" : Str)),.str "",.str "nonesuch",.int 0,v3,v4,.str z6] :=
  .cons .str (.cons .str (.cons .str (.cons .int (.cons (w3.same gp) (.cons (hv4.same gp) (.cons .str .nil))))))
 have ep : (upd H3 p (.lst [.str (z ++ ("x" : Str)),.str "",.str "nonesuch",.int 0,v3,v4,.str z6])) p = some (.lst [.str (z ++ ("x" : Str)),.str "",.str "nonesuch",.int 0,v3,v4,.str z6]) := upd_same
 have rp := S _ _ hr0
 refine goal_name fun gg hgg => ?_
 obtain ⟨v,e,at5,me,hv⟩ := pick_odd all c (by show 0 < 7; decide)
 refine hgg ?_
 clear hgg gg
 have np : p ≠ r := fun cc => by rw [cc,g3 _ _ hr0] at hp; cases hp
 refine ⟨_,rfl,_,rfl,_,rfl,p,_,rfl,.inl (SqL.of ep),r,c,_,rfl,rp,(by show (0 : Int) < 7; decide),(by show (7 : Int) < 10000000000000000000000000000000000000000000000000000000000000; decide),?_⟩
 have b6 := But.put (H := upd H3 p (.lst [.str (z ++ ("x" : Str)),.str "",.str "nonesuch",.int 0,v3,v4,.str z6])) (r := r) (o := .lst [.int (c / 7)])
 refine ⟨p,_,_,v,rfl,rfl,SqL.of (b6 _ _ np ep),at5,?_⟩
 refine q v e (c / 7) _ ((But.same S).trans b6) upd_same (hv.but rp b6) ?_
 rcases List.mem_cons.mp me with rfl | me
 ·exact bad_cho (by lia) fun w hw' => (ho z mz).2 w hw'
 rcases List.mem_cons.mp me with rfl | me
 ·refine bad_cho (by decide +kernel) fun w hw' e => ?_
  have := (name_len (words_name hw w hw')).1
  rw [e] at this
  exact absurd this (by decide +kernel)
 rcases List.mem_cons.mp me with rfl | me
 ·exact bad_cho (by decide +kernel) fun w hw' => (ho w hw').1
 rcases List.mem_cons.mp me with rfl | me
 ·exact bad_cho' (.int 0) (Nat.zero_le _) rfl
 rcases List.mem_cons.mp me with rfl | me
 ·exact bad_cho' (sz2 (sz_str (by decide +kernel)) (sz_str (by lia))) (by show 1 ≤ 30; decide) rfl
 rcases List.mem_cons.mp me with rfl | me
 ·exact bad_cho' (sz_strs w8 fun w hw' => (name_len (words_name hw w hw')).2) (dep_strs0 ws) rfl
 obtain rfl := List.mem_singleton.mp me
 refine bad_cho (by lia) fun w hw' e => ?_
 subst e
 have lo := name_low (words_name hw w hw')
 rw [hz6] at lo
 obtain ⟨c0,hc0⟩ : ∃ c0,c0 ∈ z.cps.toList := by
  cases hh : z.cps.toList with
  | nil =>
   have : z.length = 0 := by
    show z.cps.size = 0
    rw [← Array.length_toList,hh]
    rfl
   lia
  | cons a l => exact ⟨a,List.mem_cons_self⟩
 have h1 := name_low nz c0 hc0
 have h2 := lo (c0 - 32) (List.mem_map_of_mem (f := (· - 32)) hc0)
 lia
theorem depS_le {B : Nat} : ∀ {l : List Dt},(∀ x ∈ l,x.dep ≤ B) → depS l ≤ B
 | [],_ => Nat.zero_le _
 | d :: l,h => by
  simp only [depS]
  have h1 := h d List.mem_cons_self
  have h2 := depS_le fun x hx => h x (List.mem_cons_of_mem _ hx)
  lia
theorem dep_tup {B : Nat} {l : List Dt} (h : ∀ x ∈ l,x.dep ≤ B) : (Dt.tup l).dep ≤ B + 1 := by
 have := depS_le h
 simp only [Dt.dep]
 lia
theorem dep_pair {B : Nat} {w : Str} {l : List Dt} (h : ∀ x ∈ l,x.dep ≤ B) : (Dt.tup [.str w,.tup l]).dep ≤ B + 2 := by
 have := depS_le h
 simp only [Dt.dep,depS]
 lia
theorem sz_pair {w : Str} {l : List Dt} (hw : w.length ≤ 100) (h : ∀ x ∈ l,Sz x) (hl : l.length ≤ 20) : Sz (.tup [.str w,.tup l]) := sz2 (.str w hw) (.tup h hl)
theorem fv_sz : ∀ {a c : Nat} {d : Dt},FK a c d → ∀ {e : Dt},FV d e → Sz e ∧ e.dep ≤ 3 * a := by
 intro a c d h
 induction h with
 | text i h0 h1 =>
  intro e hv
  cases hv with
  | text hl ok => exact ⟨.str _ (by lia),Nat.zero_le _⟩
 | choice ws hw ho =>
  intro e hv
  generalize he : ws.map Dt.str = l at hv
  cases hv with
  | @choice ws' z hz =>
   have : z ∈ ws := by
    have hz' : Dt.str z ∈ ws'.map Dt.str := List.mem_map.mpr ⟨z,hz,rfl⟩
    rw [← he] at hz'
    obtain ⟨y,hy,e⟩ := List.mem_map.mp hz'
    rw [← Dt.str.inj e]
    exact hy
   exact ⟨.str _ (by have := (name_len (words_name hw z this)).2; lia),Nat.zero_le _⟩
 | number i j h0 h1 h2 =>
  intro e hv
  cases hv with
  | number _ _ => exact ⟨.int _,Nat.zero_le _⟩
 | list hk h0 h1 ih =>
  intro e hv
  cases hv with
  | list hvs hl =>
   exact ⟨sz_pair (by decide +kernel) (fun x hx => (ih (hvs x hx)).1) (by lia),by have := dep_pair (w := "list") fun x hx => (ih (hvs x hx)).2; lia⟩
 | rows hk kl h0 h1 ih =>
  intro e hv
  cases hv with
  | rows hvs hl _ =>
   exact ⟨sz_pair (by decide +kernel) (fun x hx => (ih (hvs x hx)).1) (by lia),by have := dep_pair (w := "rows") fun x hx => (ih (hvs x hx)).2; lia⟩
 | @rcd gs hg hs hn h8 ih =>
  intro e hv
  have e1 : gs.map prG = (gs.map nk).map prD := by rw [List.map_map]; rfl
  rw [e1] at hv
  generalize he : (gs.map nk).map prD = l at hv
  cases hv with
  | @rcd fs gs' hnm hv =>
   have ef := prD_inj he
   subst ef
   have len : gs'.length = gs.length := by have := congrArg List.length hnm; simpa using this
   have each : ∀ x ∈ gs'.map prD,Sz x ∧ x.dep ≤ 3 * maxN (gs.map (·.2.2.1)) + 1 := by
    intro x hx
    obtain ⟨g,hg',rfl⟩ := List.mem_map.mp hx
    obtain ⟨i,hi⟩ := List.getElem?_of_mem hg'
    have il : i < gs.length := by have := (List.getElem?_eq_some_iff.mp hi).1; lia
    have hgi : gs[i]? = some gs[i] := List.getElem?_eq_getElem il
    have hfi : (gs.map nk)[i]? = some (nk gs[i]) := by rw [List.getElem?_map,hgi]; rfl
    have v1 := hv i _ _ hfi hi
    have m1 : gs[i] ∈ gs := List.getElem_mem il
    have r1 := ih _ m1 v1
    have mx : gs[i].2.2.1 ≤ maxN (gs.map (·.2.2.1)) := le_max (List.mem_map.mpr ⟨_,m1,rfl⟩)
    have nm : g.1 = gs[i].1 := by
     have h1 : (gs'.map (·.1))[i]? = some g.1 := by rw [List.getElem?_map,hi]; rfl
     rw [hnm,List.getElem?_map,hfi] at h1
     exact (Option.some.inj h1).symm
    refine ⟨sz2 (.str _ (by rw [nm]; have := (name_len (hn _ m1).1).2; lia)) r1.1,?_⟩
    have := r1.2
    simp only [prD,Dt.dep,depS]
    lia
   refine ⟨sz_pair (by decide +kernel) (fun x hx => (each x hx).1) (by rw [List.length_map]; lia),?_⟩
   have := dep_pair (w := "record") fun x hx => (each x hx).2
   lia
theorem none3 {a c : Nat} {d : Dt} (h : FK a c d) : ∀ n,ofN n d (.tup [.str "none",.int 1,.int 2]) = false := by
 intro n
 cases n with
 | zero => rfl
 | succ n =>
  cases h with
  | text i _ _ => rfl
  | choice ws _ _ => rw [of_choice]; rfl
  | number i j _ _ _ => rw [of_number]; rfl
  | list _ _ _ => rw [of_list]; rfl
  | rows _ _ _ _ => rfl
  | rcd _ _ _ _ => rw [of_record]; rfl
theorem bad_lst' {k e : Dt} {i : Int} (sz : Sz e) (dp : e.dep ≤ 30) (h : htB "list" e = false) : Bad (.tup [.str "list",k,.int i]) e := bad_of sz dp fun n => by
 rw [of_list]
 exact ht_it h
theorem bad_many {k : Dt} {l : List Dt} {i : Int} (sz : Sz (.tup [.str "list",.tup l])) (dp : (Dt.tup [.str "list",.tup l]).dep ≤ 30) (h : i < (l.length : Int)) : Bad (.tup [.str "list",k,.int i]) (.tup [.str "list",.tup l]) := bad_of sz dp fun n => by
 rw [of_list]
 show (eqD (.str "list") (.str "list") && (decide ((l.length : Int) ≤ i) && l.all (ofN n k))) = false
 rw [decide_eq_false (by lia),Bool.false_and,Bool.and_false]
theorem bad_item {k : Dt} {l : List Dt} {i : Int} (sz : Sz (.tup [.str "list",.tup l])) (dp : (Dt.tup [.str "list",.tup l]).dep ≤ 30) {x : Dt} (hx : x ∈ l) (h : ∀ n,ofN n k x = false) : Bad (.tup [.str "list",k,.int i]) (.tup [.str "list",.tup l]) := bad_of sz dp fun n => by
 rw [of_list]
 show (eqD (.str "list") (.str "list") && (decide ((l.length : Int) ≤ i) && l.all (ofN n k))) = false
 have : l.all (ofN n k) = false := List.all_eq_false.mpr ⟨x,hx,by rw [h n]; decide⟩
 rw [this,Bool.and_false,Bool.and_false]
theorem ht_cat : ∀ l : List Dt,htB "list" (.tup (l ++ [.int 5,.str "list"])) = false
 | [] => rfl
 | [_] => rfl
 | [_,b] => by cases b <;> rfl
 | _ :: b :: _ :: _ => by cases b <;> rfl
theorem sz3n : Sz (.tup [.str "none",.int 1,.int 2]) := .tup (fun x hx => by
 simp only [List.mem_cons,List.not_mem_nil,or_false] at hx
 rcases hx with rfl | rfl | rfl
 ·exact sz_str (by decide +kernel)
 ·exact .int 1
 ·exact .int 2) (by show 3 ≤ 20; decide)
inductive I_sp_law_odd_list (K : PySem.W.Frag)   (vs : List V) (H : Hp) (Q : VK) : Prop
 | mk (r : Addr) (c : Int) (a ct : Nat) (k : Dt) (i : Int) (l : List Dt) (x y : V) : (vs = [x,y,.ref r]) → (H r = some (.lst [.int c])) → (IsP K H (.tup [.str "list",k,.int i]) x) → (IsP K H (.tup [.str "list",.tup l]) y) → (FK a ct k) → (a ≤ 6) → (0 ≤ i) → (i ≤ 8) → ((∀ v ∈ l,FV k v)) → ((l.length : Int) ≤ i) → (∀ (v : V) (e : Dt) (c' : Int) (H' : Hp),But r H H' → H' r = some (.lst [.int c']) → IsP K H' e v → Bad (.tup [.str "list",k,.int i]) e → Q v H') → I_sp_law_odd_list K vs H Q
noncomputable def sp_law_odd_list (K : PySem.W.Frag) (_ : Ads)  : Sp := fun vs H Q _ => I_sp_law_odd_list K vs H Q
theorem ok_law_odd_list (T : Tx K mg ad) {f : Addr} {fd : FuncData} (F : Gn K mg "_law_odd_list" s_law_odd_list ["kind","value","row"] f fd) : FnOk P w K mg base CX0 2 f fd ["kind","value","row"] (sp_law_odd_list K ad) := by
 obtain ⟨f_law_digit,fd_law_digit,D_law_digit⟩ := T.law_digit
 have G_law_digit := ok_law_digit (P := P) (w := w) (base := base) T D_law_digit
 refine F.F.ok sc_law_odd_list (fun vs H Q E h => ?_) (fun cdv A outer s H vs Q E hr h => ?_)
 ·obtain ⟨r,c,a,ct,k,i,l,x,y,rfl,_⟩ := h
  rfl
 obtain ⟨r,c,a,ct,k,i,l,x,y,rfl,hr0,hx,hy,gk,ha,k1,k2,hl,hll,q⟩ := h
 refine ⟨_,(@pss_cons _ _ _ _ _ (@ps_set _ _ 3 _ _ _ _ sc_law_odd_list.nd rfl (Or.inl rfl) pe_int (by rfl) (by first | exact .inl rfl | exact .inr rfl | assumption)) (@pss_cons _ _ _ _ _ (@ps_if _ _ _ _ _ _ _ _ (pt_cmpR op_gt (pe_callB (call_lenDN (K := K) rfl) rfl T.z_len PySem.boot_len (@pa_cons _ _ _ _ _ (@pe_ix _ _ _ _ _ _ _ (ix_tupPN (K := K) rfl) (pv 1) pe_int (fun _ _ => rfl)) pa_nil (by rfl))) pe_int (nomark _)) (@pss_one _ _ _ (@ps_set _ _ 3 _ _ _ _ sc_law_odd_list.nd rfl (Or.inl rfl) (@pe_ix _ _ _ _ _ _ _ (ix_tupPN (K := K) rfl) (@pe_ix _ _ _ _ _ _ _ (ix_tupPN (K := K) rfl) (pv 1) pe_int (fun _ _ => rfl)) pe_int (fun _ _ => rfl)) (by rfl) (by first | exact .inl rfl | exact .inr rfl | assumption))) pss_nil) (@pss_cons _ _ _ _ _ (@ps_set _ _ 4 _ _ _ _ sc_law_odd_list.nd rfl (Or.inl rfl) pe_int (by rfl) (by first | exact .inl rfl | exact .inr rfl | assumption)) (@pss_cons _ _ _ _ _ (@ps_set _ _ 5 _ _ _ _ sc_law_odd_list.nd rfl (Or.inl rfl) (@pe_lst _ _ _ _ (@pa_cons _ _ _ _ _ (@pe_tupPK _ K _ _ _ _ rfl (@pa_cons _ _ _ _ _ pe_str (@pa_cons _ _ _ _ _ (@pe_op _ _ _ _ _ _ _ _ (op_mulPN (K := K) rfl) (@pe_tupPK _ K _ _ _ _ rfl (@pa_cons _ _ _ _ _ (pv 3) pa_nil (by rfl))) (pv 4)) pa_nil (by rfl)) (by rfl))) (@pa_cons _ _ _ _ _ (@pe_tupPK _ K _ _ _ _ rfl (@pa_cons _ _ _ _ _ pe_str (@pa_cons _ _ _ _ _ (@pe_ix _ _ _ _ _ _ _ (ix_tupPN (K := K) rfl) (pv 1) pe_int (fun _ _ => rfl)) pa_nil (by rfl)) (by rfl))) (@pa_cons _ _ _ _ _ (@pe_tupPK _ K _ _ _ _ rfl (@pa_cons _ _ _ _ _ pe_str pa_nil (by rfl))) (@pa_cons _ _ _ _ _ (@pe_tupPK _ K _ _ _ _ rfl (@pa_cons _ _ _ _ _ pe_str (@pa_cons _ _ _ _ _ pe_int pa_nil (by rfl)) (by rfl))) (@pa_cons _ _ _ _ _ (@pe_tupPK _ K _ _ _ _ rfl pa_nil) (@pa_cons _ _ _ _ _ (@pe_op _ _ _ _ _ _ _ _ (op_catPN (K := K) rfl) (@pe_ix _ _ _ _ _ _ _ (ix_tupPN (K := K) rfl) (pv 1) pe_int (fun _ _ => rfl)) (@pe_tupPK _ K _ _ _ _ rfl (@pa_cons _ _ _ _ _ pe_int (@pa_cons _ _ _ _ _ pe_str pa_nil (by rfl)) (by rfl)))) (@pa_cons _ _ _ _ _ pe_str (@pa_cons _ _ _ _ _ pe_int pa_nil (by rfl)) (by rfl)) (by rfl)) (by rfl)) (by rfl)) (by rfl)) (by rfl)) (by rfl))) (by rfl) (by first | exact .inl rfl | exact .inr rfl | assumption)) (@pss_cons _ _ _ _ _ (@ps_set _ _ 5 _ _ _ _ sc_law_odd_list.nd rfl (Or.inl rfl) (@pe_op _ _ _ _ _ _ _ _ (op_catSN (K := K) rfl) (pv 5) (@pe_lst _ _ _ _ (@pa_cons _ _ _ _ _ (@pe_tupPK _ K _ _ _ _ rfl (@pa_cons _ _ _ _ _ pe_str (@pa_cons _ _ _ _ _ (@pe_ix _ _ _ _ _ _ _ (ix_tupPN (K := K) rfl) (pv 1) pe_int (fun _ _ => rfl)) (@pa_cons _ _ _ _ _ (@pe_tupPK _ K _ _ _ _ rfl pa_nil) pa_nil (by rfl)) (by rfl)) (by rfl))) (@pa_cons _ _ _ _ _ (@pe_tupPK _ K _ _ _ _ rfl (@pa_cons _ _ _ _ _ pe_str (@pa_cons _ _ _ _ _ (@pe_ix _ _ _ _ _ _ _ (ix_tupPN (K := K) rfl) (pv 1) pe_int (fun _ _ => rfl)) pa_nil (by rfl)) (by rfl))) (@pa_cons _ _ _ _ _ (@pe_tupPK _ K _ _ _ _ rfl (@pa_cons _ _ _ _ _ pe_str (@pa_cons _ _ _ _ _ (@pe_op _ _ _ _ _ _ _ _ (op_catPN (K := K) rfl) (@pe_ix _ _ _ _ _ _ _ (ix_tupPN (K := K) rfl) (pv 1) pe_int (fun _ _ => rfl)) (@pe_tupPK _ K _ _ _ _ rfl (@pa_cons _ _ _ _ _ (@pe_tupPK _ K _ _ _ _ rfl (@pa_cons _ _ _ _ _ pe_str (@pa_cons _ _ _ _ _ pe_int (@pa_cons _ _ _ _ _ pe_int pa_nil (by rfl)) (by rfl)) (by rfl))) pa_nil (by rfl)))) pa_nil (by rfl)) (by rfl))) pa_nil (by rfl)) (by rfl)) (by rfl)))) (by rfl) (by first | exact .inl rfl | exact .inr rfl | assumption)) (@pss_one _ _ _ (@ps_ret _ _ _ _ (@pe_ix _ _ _ _ _ _ _ (ix_listK (K := K) rfl) (pv 5) (pe_call G_law_digit (hr.mono (by first | decide | lia)) rfl D_law_digit.m D_law_digit.F.kp D_law_digit.b .nil pass0 (@pa_cons _ _ _ _ _ (pv 2) (@pa_cons _ _ _ _ _ (pe_callB (call_len_seqN (K := K) rfl) rfl T.z_len PySem.boot_len (@pa_cons _ _ _ _ _ (pv 5) pa_nil (by rfl))) pa_nil (by rfl)) (by rfl))) (fun _ _ => rfl))))))))),?_⟩
 have szl : ∀ v ∈ l,Sz v ∧ v.dep ≤ 18 := fun v hv => by
  have := fv_sz gk (hl v hv)
  exact ⟨this.1,by lia⟩
 have l8 : l.length ≤ 8 := by lia
 refine join2 (fun σ' H' => H' = H ∧ ∃ it d0,σ' = [some x,some y,some (.ref r),some it,none,none] ∧ IsP K H d0 it ∧ Sz d0 ∧ d0.dep ≤ 18) ?_ ?_
 ·intro s9_ s9_ hI9
  refine goal_name fun gg hgg => ?_
  obtain ⟨rfl,it,d0,rfl,hit,szt,dpt⟩ := hI9
  refine hgg ?_
  clear hgg gg
  refine ⟨_,rfl,[d0],.cons hit .nil,(by show 1 ≤ sizeLine; decide),fun u1 H1 g1 w1 => ?_⟩
  refine ⟨_,rfl,d0,9,w1,rfl,by decide,by decide,fun u2 H2 g2 w2 => ?_⟩
  refine ⟨[.str "list",.tup (List.replicate 9 d0)],.cons .str (.cons w2 .nil),(by show 2 ≤ sizeLine; decide),fun u3 H3 g3 w3 => ?_⟩
  have S3 := (g1.trans g2).trans g3
  refine s_ix rfl (hy.same S3) rfl fun v4 hv4 => ?_
  refine ⟨[.str "rows",.tup l],.cons .str (.cons hv4 .nil),(by show 2 ≤ sizeLine; decide),fun u4 H4 g4 w4 => ?_⟩
  refine ⟨[.str "list"],.cons .str .nil,(by show 1 ≤ sizeLine; decide),fun u5 H5 g5 w5 => ?_⟩
  refine ⟨[.str "list",.int 3],.cons .str (.cons .int .nil),(by show 2 ≤ sizeLine; decide),fun u6 H6 g6 w6 => ?_⟩
  refine ⟨[],.nil,(by show 0 ≤ sizeLine; decide),fun u7 H7 g7 w7 => ?_⟩
  have S7 := S3.trans (g4.trans (g5.trans (g6.trans g7)))
  refine s_ix rfl (hy.same S7) rfl fun v8 hv8 => ?_
  refine ⟨[.int 5,.str "list"],.cons .int (.cons .str .nil),(by show 2 ≤ sizeLine; decide),fun u8 H8 g8 w8 => ?_⟩
  refine ⟨_,_,hv8.same g8,w8,small (by show l.length + 2 ≤ 1000; lia),fun u9 H9 g9 w9 => ?_⟩
  refine ⟨(by show 8 ≤ sizeLine; decide),fun p1 hp1 => ?_⟩
  have S9 := S7.trans (g8.trans g9)
  have gp := same_new hp1 (.lst [u3,u4,u5,u6,u7,u9,.str "list",.int 4])
  have all1 : IsPs K _ [.tup [.str "list",.tup (List.replicate 9 d0)],.tup [.str "rows",.tup l],.tup [.str "list"],.tup [.str "list",.int 3],.tup [],.tup (l ++ [.int 5,.str "list"]),.str "list",.int 4] [u3,u4,u5,u6,u7,u9,.str "list",.int 4] :=
   .cons (w3.same ((g4.trans (g5.trans (g6.trans g7))).trans ((g8.trans g9).trans gp))) (.cons (w4.same ((g5.trans (g6.trans g7)).trans ((g8.trans g9).trans gp))) (.cons (w5.same ((g6.trans g7).trans ((g8.trans g9).trans gp))) (.cons (w6.same (g7.trans ((g8.trans g9).trans gp))) (.cons (w7.same ((g8.trans g9).trans gp)) (.cons (w9.same gp) (.cons .str (.cons .int .nil)))))))
  have e1 : (upd H9 p1 (.lst [u3,u4,u5,u6,u7,u9,.str "list",.int 4])) p1 = some (.lst [u3,u4,u5,u6,u7,u9,.str "list",.int 4]) := upd_same
  have S10 := S9.trans gp
  refine show _ from ?_
  generalize upd H9 p1 (.lst [u3,u4,u5,u6,u7,u9,.str "list",.int 4]) = HA at S10 e1 all1 ⊢
  refine ⟨_,rfl,?_⟩
  refine s_ix rfl (hy.same S10) rfl fun v11 hv11 => ?_
  refine ⟨[],.nil,(by show 0 ≤ sizeLine; decide),fun u11 HB g11 w11 => ?_⟩
  refine ⟨[.str "list",.tup l,.tup []],.cons .str (.cons (hv11.same g11) (.cons w11 .nil)),(by show 3 ≤ sizeLine; decide),fun u12 HC g12 w12 => ?_⟩
  refine s_ix rfl (hy.same (S10.trans (g11.trans g12))) rfl fun v13 hv13 => ?_
  refine ⟨[.str "record",.tup l],.cons .str (.cons hv13 .nil),(by show 2 ≤ sizeLine; decide),fun u13 HD g13 w13 => ?_⟩
  have S13 := S10.trans ((g11.trans g12).trans g13)
  refine s_ix rfl (hy.same S13) rfl fun v14 hv14 => ?_
  refine ⟨[.str "none",.int 1,.int 2],.cons .str (.cons .int (.cons .int .nil)),(by show 3 ≤ sizeLine; decide),fun u14 HE g14 w14 => ?_⟩
  refine ⟨[.tup [.str "none",.int 1,.int 2]],.cons w14 .nil,(by show 1 ≤ sizeLine; decide),fun u15 HF g15 w15 => ?_⟩
  refine ⟨_,_,hv14.same (g14.trans g15),w15,small (by show l.length + 1 ≤ 1000; lia),fun u16 HG g16 w16 => ?_⟩
  refine ⟨[.str "list",.tup (l ++ [.tup [.str "none",.int 1,.int 2]])],.cons .str (.cons w16 .nil),(by show 2 ≤ sizeLine; decide),fun u17 HI g17 w17 => ?_⟩
  refine ⟨(by show 3 ≤ sizeLine; decide),fun p2 hp2 => ?_⟩
  have gq := same_new hp2 (.lst [u12,u13,u17])
  have G := ((g11.trans g12).trans g13).trans ((g14.trans g15).trans (g16.trans g17))
  refine ⟨p1,p2,_,_,rfl,rfl,SqL.of (gq _ _ (G _ _ e1)),SqL.of upd_same,(by show 11 ≤ sizeLine; decide),fun p3 hp3 => ?_⟩
  have gr := same_new hp3 (.lst ([u3,u4,u5,u6,u7,u9,.str "list",.int 4] ++ [u12,u13,u17]))
  have S := (S10.trans G).trans (gq.trans gr)
  have all2 : IsPs K _ [.tup [.str "list",.tup l,.tup []],.tup [.str "record",.tup l],.tup [.str "list",.tup (l ++ [.tup [.str "none",.int 1,.int 2]])]] [u12,u13,u17] :=
   .cons (w12.same ((g13.trans ((g14.trans g15).trans (g16.trans g17))).trans (gq.trans gr))) (.cons (w13.same (((g14.trans g15).trans (g16.trans g17)).trans (gq.trans gr))) (.cons (w17.same (gq.trans gr)) .nil))
  have all := (all1.same (G.trans (gq.trans gr))).append all2
  have ep : (upd (upd HI p2 (.lst [u12,u13,u17])) p3 (.lst ([u3,u4,u5,u6,u7,u9,.str "list",.int 4] ++ [u12,u13,u17]))) p3 = some (.lst ([u3,u4,u5,u6,u7,u9,.str "list",.int 4] ++ [u12,u13,u17])) := upd_same
  have rp := S _ _ hr0
  refine goal_name fun gg hgg => ?_
  obtain ⟨v,e,at5,me,hv⟩ := pick_odd all c (by show 0 < 11; decide)
  refine hgg ?_
  clear hgg gg
  have np : p3 ≠ r := fun cc => by rw [cc,((S10.trans G).trans gq) _ _ hr0] at hp3; cases hp3
  refine ⟨_,rfl,_,rfl,_,rfl,p3,_,rfl,.inl (SqL.of ep),r,c,_,rfl,rp,(by show (0 : Int) < 11; decide),(by show (11 : Int) < 10000000000000000000000000000000000000000000000000000000000000; decide),?_⟩
  have b6 := But.put (H := upd (upd HI p2 (.lst [u12,u13,u17])) p3 (.lst ([u3,u4,u5,u6,u7,u9,.str "list",.int 4] ++ [u12,u13,u17]))) (r := r) (o := .lst [.int (c / 11)])
  refine ⟨p3,_,_,v,rfl,rfl,SqL.of (b6 _ _ np ep),at5,?_⟩
  refine q v e (c / 11) _ ((But.same S).trans b6) upd_same (hv.but rp b6) ?_
  have szL : Sz (.tup l) := .tup (fun x hx => (szl x hx).1) (by lia)
  have dpL : (Dt.tup l).dep ≤ 19 := dep_tup fun x hx => (szl x hx).2
  simp only [List.cons_append,List.nil_append,List.mem_cons,List.not_mem_nil,or_false] at me
  rcases me with rfl | rfl | rfl | rfl | rfl | rfl | rfl | rfl | rfl | rfl | rfl
  ·refine bad_many (sz_pair (by decide +kernel) (fun x hx => by rw [List.eq_of_mem_replicate hx]; exact szt) (by rw [List.length_replicate]; decide)) ?_ (by show i < ((List.replicate 9 d0).length : Int); rw [List.length_replicate]; lia)
   have := dep_pair (w := "list") (l := List.replicate 9 d0) (B := 18) fun x hx => by rw [List.eq_of_mem_replicate hx]; exact dpt
   lia
  ·exact bad_lst' (sz2 (sz_str (by decide +kernel)) szL) (by have := dep_pair (w := "rows") fun x hx => (szl x hx).2; lia) (by show eqD (.str "rows") (.str "list") = false; decide +kernel)
  ·exact bad_lst' (sz1 (sz_str (by decide +kernel))) (by show 1 ≤ 30; decide) rfl
  ·exact bad_lst' (sz2 (sz_str (by decide +kernel)) (.int 3)) (by show 1 ≤ 30; decide) rfl
  ·exact bad_lst' sz0 (by show 1 ≤ 30; decide) rfl
  ·refine bad_lst' (.tup (fun x hx => ?_) (by rw [List.length_append]; show l.length + 2 ≤ 20; lia)) ?_ ?_
   ·rcases List.mem_append.mp hx with hx | hx
    ·exact (szl x hx).1
    ·simp only [List.mem_cons,List.not_mem_nil,or_false] at hx
     rcases hx with rfl | rfl
     ·exact .int 5
     ·exact sz_str (by decide +kernel)
   ·have := dep_tup (B := 18) (l := l ++ [.int 5,.str "list"]) fun x hx => by
     rcases List.mem_append.mp hx with hx | hx
     ·exact (szl x hx).2
     ·simp only [List.mem_cons,List.not_mem_nil,or_false] at hx
      rcases hx with rfl | rfl <;> exact Nat.zero_le _
    lia
   ·exact ht_cat l
  ·exact bad_lst' (sz_str (by decide +kernel)) (Nat.zero_le _) rfl
  ·exact bad_lst' (.int 4) (Nat.zero_le _) rfl
  ·refine bad_lst' (.tup (fun x hx => ?_) (by show 3 ≤ 20; decide)) ?_ rfl
   ·simp only [List.mem_cons,List.not_mem_nil,or_false] at hx
    rcases hx with rfl | rfl | rfl
    ·exact sz_str (by decide +kernel)
    ·exact szL
    ·exact sz0
   ·simp only [Dt.dep,depS] at dpL ⊢
    lia
  ·exact bad_lst' (sz2 (sz_str (by decide +kernel)) szL) (by have := dep_pair (w := "record") fun x hx => (szl x hx).2; lia) (by show eqD (.str "record") (.str "list") = false; decide +kernel)
  ·refine bad_item (sz_pair (by decide +kernel) (fun x hx => ?_) (by rw [List.length_append]; show l.length + 1 ≤ 20; lia)) ?_ (List.mem_append_right _ List.mem_cons_self) (none3 gk)
   ·rcases List.mem_append.mp hx with hx | hx
    ·exact (szl x hx).1
    ·obtain rfl := List.mem_singleton.mp hx
     exact sz3n
   ·have := dep_pair (w := "list") (B := 18) (l := l ++ [.tup [.str "none",.int 1,.int 2]]) fun x hx => by
     rcases List.mem_append.mp hx with hx | hx
     ·exact (szl x hx).2
     ·obtain rfl := List.mem_singleton.mp hx
      show 1 ≤ 18
      decide
    lia
 ·intro key
  refine s_ix rfl hy rfl fun v1 hv1 => ?_
  refine ⟨v1,_,rfl,hv1.d,_,_,rfl,rfl,_,rfl,?_⟩
  cases l with
  | nil => exact iteF (key _ _ ⟨rfl,_,.int 7,rfl,.int,.int 7,Nat.zero_le _⟩)
  | cons d0 l' =>
   have e : decide ((0 : Int) < (((d0 :: l').length : Nat) : Int)) = true := decide_eq_true (by rw [List.length_cons]; lia)
   rw [e]
   refine iteT ?_
   refine s_ix rfl hy rfl fun v2 hv2 => ?_
   refine ⟨_,_,_,hv2,rfl,at0 d0 l',fun v3 hv3 => ?_⟩
   have := szl d0 List.mem_cons_self
   exact key _ _ ⟨rfl,v3,d0,rfl,hv3,this.1,this.2⟩
theorem cut_hd (l : List Dt) (j : Nat) (h : j ≤ l.length) : L2.cutD l none (some (j : Int)) = l.take j := by
 unfold L2.cutD
 rw [HT.sIx_none,HT.sIx_nat,List.drop_zero,Nat.sub_zero,Nat.min_eq_left h]
theorem cut_tl (l : List Dt) (j : Nat) (h : j ≤ l.length) : L2.cutD l (some (j : Int)) none = l.drop j := by
 unfold L2.cutD
 rw [HT.sIx_none,HT.sIx_nat,Nat.min_eq_left h]
 exact List.take_of_length_le (by rw [List.length_drop]; lia)
theorem bad_rc' {l : List Dt} {e : Dt} (sz : Sz e) (dp : e.dep ≤ 30) (h : htB "record" e = false) : Bad (.tup [.str "record",.tup l]) e := bad_of sz dp fun n => by
 rw [of_record]
 exact ht_rc h
theorem bad_rlen {fs : List Dt} {l : List Dt} (sz : Sz (.tup [.str "record",.tup l])) (dp : (Dt.tup [.str "record",.tup l]).dep ≤ 30) (h : l.length ≠ fs.length) : Bad (.tup [.str "record",.tup fs]) (.tup [.str "record",.tup l]) := bad_of sz dp fun n => by
 rw [of_record]
 show (eqD (.str "record") (.str "record") && (decide (l.length = fs.length) && (l.zip fs).all (prF (ofN n)))) = false
 rw [decide_eq_false h,Bool.false_and,Bool.and_false]
theorem bad_at {fs : List Dt} {l : List Dt} {i : Nat} {e f : Dt} (sz : Sz (.tup [.str "record",.tup l])) (dp : (Dt.tup [.str "record",.tup l]).dep ≤ 30) (hi : l[i]? = some e) (hf : fs[i]? = some f) (h : ∀ n,prF (ofN n) (e,f) = false) : Bad (.tup [.str "record",.tup fs]) (.tup [.str "record",.tup l]) := bad_of sz dp fun n => by
 rw [of_record]
 show (eqD (.str "record") (.str "record") && (decide (l.length = fs.length) && (l.zip fs).all (prF (ofN n)))) = false
 have hz : (l.zip fs)[i]? = some (e,f) := by rw [List.getElem?_zip_eq_some]; exact ⟨hi,hf⟩
 have : (l.zip fs).all (prF (ofN n)) = false := List.all_eq_false.mpr ⟨_,List.mem_of_getElem? hz,by rw [h n]; decide⟩
 rw [this,Bool.and_false,Bool.and_false]
theorem pr_name {f : Dt → Dt → Bool} {a b : Str} {v k : Dt} (h : a ≠ b) : prF f (.tup [.str a,v],prD (b,k)) = false := by
 show (eqD (.str a) (.str b) && f k v) = false
 have : eqD (.str a) (.str b) = false := by simp [eqD,h]
 rw [this,Bool.false_and]
theorem join4 {a b c d e : TS} {D : Ends} {σ : L2.St} {H : Hp} (R : L2.St → Hp → Prop) (h2 : ∀ σ' H',R σ' H' → e D σ' H') (h1 : (∀ σ' H',R σ' H' → e D σ' H') → tSeq a (tSeq b (tSeq c (tSeq d e))) D σ H) : tSeq a (tSeq b (tSeq c (tSeq d e))) D σ H := h1 h2
noncomputable def OddL (K : PySem.W.Frag) (H : Hp) (d : Dt) (r p : Addr) (m : Nat) : Prop := p ≠ r ∧ ∃ ys ds,H p = some (.lst ys) ∧ IsPs K H ds ys ∧ (∀ e ∈ ds,Bad d e) ∧ 1 ≤ ys.length ∧ ys.length ≤ m
theorem bad_rev {fs gs : List (Str × Dt)} (hn : gs.map (·.1) = fs.map (·.1)) (hs : (fs.map (·.1)).Pairwise ltS) (h1 : 1 < gs.length) (g8 : gs.length ≤ 8) (szp : ∀ v ∈ gs.map prD,Sz v ∧ v.dep ≤ 19) : Bad (.tup [.str "record",.tup (fs.map prD)]) (.tup [.str "record",.tup (gs.map prD).reverse]) := by
 have hl : gs.length = fs.length := by simpa using congrArg List.length hn
 have i1 : gs.length - 1 < gs.length := by lia
 have i0 : 0 < fs.length := by lia
 have hi : (gs.map prD).reverse[0]? = some (prD gs[gs.length - 1]) := by
  rw [List.getElem?_reverse (by rw [List.length_map]; lia),List.length_map,Nat.sub_zero,List.getElem?_map,List.getElem?_eq_getElem i1]
  rfl
 have hf : (fs.map prD)[0]? = some (prD fs[0]) := by
  rw [List.getElem?_map,List.getElem?_eq_getElem i0]
  rfl
 refine bad_at (sz_pair (by decide +kernel) (fun x hx => (szp x (List.mem_reverse.mp hx)).1) (by rw [List.length_reverse,List.length_map]; lia)) ?_ hi hf fun n => pr_name (a := gs[gs.length - 1].1) (b := fs[0].1) (v := gs[gs.length - 1].2) (k := fs[0].2) ?_
 ·have := dep_pair (w := "record") (l := (gs.map prD).reverse) fun x hx => (szp x (List.mem_reverse.mp hx)).2
  lia
 ·intro e
  have nd := lt_nodup hs
  have a1 : (fs.map (·.1))[0]? = some fs[0].1 := by rw [List.getElem?_map,List.getElem?_eq_getElem i0]; rfl
  have a2 : (fs.map (·.1))[gs.length - 1]? = some gs[gs.length - 1].1 := by rw [← hn,List.getElem?_map,List.getElem?_eq_getElem i1]; rfl
  rw [e,← a1] at a2
  have := (List.getElem?_inj (by rw [List.length_map]; lia) nd).mp a2
  lia
theorem odd_add {K : PySem.W.Frag} {H2 : Hp} {d : Dt} {r p2 p3 : Addr} {ys us : List V} {ds es : List Dt} {m m' : Nat} (i1 : IsPs K H2 ds ys) (bd : ∀ e ∈ ds,Bad d e) (l1 : 1 ≤ ys.length) (l2 : ys.length ≤ m) (iu : IsPs K H2 es us) (be : ∀ e ∈ es,Bad d e) (hr : ∃ o,H2 r = some o) (hp2 : H2 p2 = none) (hp3 : upd H2 p2 (.lst us) p3 = none) (hm : m + us.length ≤ m') : OddL K (upd (upd H2 p2 (.lst us)) p3 (.lst (ys ++ us))) d r p3 m' := by
 obtain ⟨o,hr⟩ := hr
 refine ⟨fun c => ?_,_,ds ++ es,upd_same,((i1.append iu).same (same_new hp2 _)).same (same_new hp3 _),fun e he => (List.mem_append.mp he).elim (bd e) (be e),by rw [List.length_append]; lia,by rw [List.length_append]; lia⟩
 have := same_new hp2 (.lst us) _ _ hr
 rw [c,this] at hp3
 cases hp3
theorem but_free {H H' : Hp} {r p : Addr} {o : HO} (b : But r H H') (hr : H' r = some o) (h : H' p = none) : H p = none := by
 cases e : H p with
 | none => rfl
 | some u =>
  have ne : p ≠ r := fun c => by rw [c,hr] at h; cases h
  rw [b _ _ ne e] at h
  cases h
theorem sz3 {a b c : Dt} (ha : Sz a) (hb : Sz b) (hc : Sz c) : Sz (.tup [a,b,c]) := .tup (fun x hx => by
 simp only [List.mem_cons,List.not_mem_nil,or_false] at hx
 rcases hx with rfl | rfl | rfl
 ·exact ha
 ·exact hb
 ·exact hc) (by show 3 ≤ 20; decide)
theorem sub_mem {l : List Dt} {j k : Nat} {e x : Dt} (h : x ∈ (l.take j ++ [e]) ++ l.drop k) : x ∈ l ∨ x = e := by
 rcases List.mem_append.mp h with h | h
 ·rcases List.mem_append.mp h with h | h
  ·exact .inl (List.mem_of_mem_take h)
  ·exact .inr (List.mem_singleton.mp h)
 ·exact .inl (List.mem_of_mem_drop h)
theorem ins_len {l : List Dt} {j k : Nat} {e : Dt} (h : j < l.length) : ((l.take j ++ [e]) ++ l.drop k).length = j + 1 + (l.length - k) := by
 rw [List.length_append,List.length_append,List.length_take,List.length_drop,Nat.min_eq_left (by lia)]
 rfl
theorem ins_at {l : List Dt} {j k : Nat} {e : Dt} (h : j < l.length) : ((l.take j ++ [e]) ++ l.drop k)[j]? = some e := by
 have h1 : (l.take j).length = j := by rw [List.length_take,Nat.min_eq_left (by lia)]
 rw [List.append_assoc,List.getElem?_append_right (by lia),h1,Nat.sub_self]
 rfl
theorem bad_ins {fs gs : List (Str × Dt)} {j : Nat} {e : Dt} (hj : j < gs.length) (hl : gs.length = fs.length) (g8 : gs.length ≤ 8) (szp : ∀ v ∈ gs.map prD,Sz v ∧ v.dep ≤ 19) (se : Sz e) (de : e.dep ≤ 20) (h : ∀ n f,f ∈ fs → prF (ofN n) (e,prD f) = false) :
  Bad (.tup [.str "record",.tup (fs.map prD)]) (.tup [.str "record",.tup (((gs.map prD).take j ++ [e]) ++ (gs.map prD).drop (j + 1))]) := by
 have lj : j < (gs.map prD).length := by rw [List.length_map]; exact hj
 have hf : (fs.map prD)[j]? = some (prD fs[j]) := by
  rw [List.getElem?_map,List.getElem?_eq_getElem (by lia)]
  rfl
 refine bad_at (sz_pair (by decide +kernel) (fun x hx => ?_) (by rw [ins_len lj,List.length_map]; lia)) ?_ (ins_at lj) hf fun n => h n _ (List.getElem_mem _)
 ·rcases sub_mem hx with hx | rfl
  ·exact (szp x hx).1
  ·exact se
 ·have := dep_pair (w := "record") (B := 20) (l := ((gs.map prD).take j ++ [e]) ++ (gs.map prD).drop (j + 1)) fun x hx => by
   rcases sub_mem hx with hx | rfl
   ·have := (szp x hx).2
    lia
   ·exact de
  lia
theorem bad_out {fs gs : List (Str × Dt)} {j : Nat} (hj : j < gs.length) (hl : gs.length = fs.length) (g8 : gs.length ≤ 8) (szp : ∀ v ∈ gs.map prD,Sz v ∧ v.dep ≤ 19) :
  Bad (.tup [.str "record",.tup (fs.map prD)]) (.tup [.str "record",.tup ((gs.map prD).take j ++ (gs.map prD).drop (j + 1))]) := by
 have mem : ∀ x ∈ (gs.map prD).take j ++ (gs.map prD).drop (j + 1),x ∈ gs.map prD := fun x hx => (List.mem_append.mp hx).elim List.mem_of_mem_take List.mem_of_mem_drop
 have len : ((gs.map prD).take j ++ (gs.map prD).drop (j + 1)).length = j + (gs.length - (j + 1)) := by rw [List.length_append,List.length_take,List.length_drop,List.length_map,Nat.min_eq_left (by lia)]
 refine bad_rlen (sz_pair (by decide +kernel) (fun x hx => (szp x (mem x hx)).1) (by lia)) ?_ (by rw [len,List.length_map]; lia)
 have := dep_pair (w := "record") fun x hx => (szp x (mem x hx)).2
 lia
theorem bad_two {fs gs : List (Str × Dt)} {j : Nat} {e : Dt} (hj : j < gs.length) (hl : gs.length = fs.length) (g8 : gs.length ≤ 8) (szp : ∀ v ∈ gs.map prD,Sz v ∧ v.dep ≤ 19) (he : e ∈ gs.map prD) :
  Bad (.tup [.str "record",.tup (fs.map prD)]) (.tup [.str "record",.tup (((gs.map prD).take j ++ [e]) ++ (gs.map prD).drop j)]) := by
 have lj : j < (gs.map prD).length := by rw [List.length_map]; exact hj
 have mem : ∀ x ∈ ((gs.map prD).take j ++ [e]) ++ (gs.map prD).drop j,x ∈ gs.map prD := fun x hx => (sub_mem hx).elim id fun h => h ▸ he
 refine bad_rlen (sz_pair (by decide +kernel) (fun x hx => (szp x (mem x hx)).1) (by rw [ins_len lj,List.length_map]; lia)) ?_ (by rw [ins_len lj,List.length_map,List.length_map]; lia)
 have := dep_pair (w := "record") fun x hx => (szp x (mem x hx)).2
 lia
inductive I_sp_law_odd_record (K : PySem.W.Frag)   (vs : List V) (H : Hp) (Q : VK) : Prop
 | mk (r : Addr) (c : Int) (fs gs : List (Str × Dt)) (x y : V) : (vs = [x,y,.ref r]) → (H r = some (.lst [.int c])) → (IsP K H (.tup [.str "record",.tup (fs.map prD)]) x) → (IsP K H (.tup [.str "record",.tup (gs.map prD)]) y) → (gs.map (·.1) = fs.map (·.1)) → (fs.length ≤ 8) → ((fs.map (·.1)).Pairwise ltS) → ((∀ f ∈ fs,f.1 ≠ "zzzzzzzz")) → ((∀ g ∈ gs,g.1.length ≤ 8 ∧ Sz g.2 ∧ g.2.dep ≤ 18)) → (∀ (v : V) (e : Dt) (c' : Int) (H' : Hp),But r H H' → H' r = some (.lst [.int c']) → IsP K H' e v → Bad (.tup [.str "record",.tup (fs.map prD)]) e → Q v H') → I_sp_law_odd_record K vs H Q
noncomputable def sp_law_odd_record (K : PySem.W.Frag) (_ : Ads)  : Sp := fun vs H Q _ => I_sp_law_odd_record K vs H Q
theorem ok_law_odd_record (T : Tx K mg ad) {f : Addr} {fd : FuncData} (F : Gn K mg "_law_odd_record" s_law_odd_record ["kind","value","row"] f fd) : FnOk P w K mg base CX0 2 f fd ["kind","value","row"] (sp_law_odd_record K ad) := by
 obtain ⟨f_law_digit,fd_law_digit,D_law_digit⟩ := T.law_digit
 have G_law_digit := ok_law_digit (P := P) (w := w) (base := base) T D_law_digit
 refine F.F.ok sc_law_odd_record (fun vs H Q E h => ?_) (fun cdv A outer s H vs Q E hr h => ?_)
 ·obtain ⟨r,c,fs,gs,x,y,rfl,_⟩ := h
  rfl
 obtain ⟨r,c,fs,gs,x,y,rfl,hr0,hx,hy,hn,h8,hs,hz,hg,q⟩ := h
 refine ⟨_,(@pss_cons _ _ _ _ _ (@ps_set _ _ 3 _ _ _ _ sc_law_odd_record.nd rfl (Or.inl rfl) (@pe_ix _ _ _ _ _ _ _ (ix_tupPN (K := K) rfl) (pv 1) pe_int (fun _ _ => rfl)) (by rfl) (by first | exact .inl rfl | exact .inr rfl | assumption)) (@pss_cons _ _ _ _ _ (@ps_set _ _ 4 _ _ _ _ sc_law_odd_record.nd rfl (Or.inl rfl) (@pe_lst _ _ _ _ (@pa_cons _ _ _ _ _ (@pe_tupPK _ K _ _ _ _ rfl (@pa_cons _ _ _ _ _ pe_str (@pa_cons _ _ _ _ _ (@pe_op _ _ _ _ _ _ _ _ (op_catPN (K := K) rfl) (pv 3) (@pe_tupPK _ K _ _ _ _ rfl (@pa_cons _ _ _ _ _ (@pe_tupPK _ K _ _ _ _ rfl (@pa_cons _ _ _ _ _ pe_str (@pa_cons _ _ _ _ _ pe_int pa_nil (by rfl)) (by rfl))) pa_nil (by rfl)))) pa_nil (by rfl)) (by rfl))) (@pa_cons _ _ _ _ _ (@pe_tupPK _ K _ _ _ _ rfl (@pa_cons _ _ _ _ _ pe_str pa_nil (by rfl))) (@pa_cons _ _ _ _ _ (@pe_tupPK _ K _ _ _ _ rfl (@pa_cons _ _ _ _ _ pe_str (@pa_cons _ _ _ _ _ (pv 3) pa_nil (by rfl)) (by rfl))) (@pa_cons _ _ _ _ _ (@pe_tupPK _ K _ _ _ _ rfl (@pa_cons _ _ _ _ _ pe_str (@pa_cons _ _ _ _ _ pe_int pa_nil (by rfl)) (by rfl))) (@pa_cons _ _ _ _ _ pe_int pa_nil (by rfl)) (by rfl)) (by rfl)) (by rfl)) (by rfl))) (by rfl) (by first | exact .inl rfl | exact .inr rfl | assumption)) (@pss_cons _ _ _ _ _ (@ps_set _ _ 4 _ _ _ _ sc_law_odd_record.nd rfl (Or.inl rfl) (@pe_op _ _ _ _ _ _ _ _ (op_catSN (K := K) rfl) (pv 4) (@pe_lst _ _ _ _ (@pa_cons _ _ _ _ _ pe_str (@pa_cons _ _ _ _ _ (@pe_tupPK _ K _ _ _ _ rfl (@pa_cons _ _ _ _ _ pe_str (@pa_cons _ _ _ _ _ pe_str pa_nil (by rfl)) (by rfl))) pa_nil (by rfl)) (by rfl)))) (by rfl) (by first | exact .inl rfl | exact .inr rfl | assumption)) (@pss_cons _ _ _ _ _ (@ps_if _ _ _ _ _ _ _ _ (pt_cmpR op_gt (pe_callB (call_lenDN (K := K) rfl) rfl T.z_len PySem.boot_len (@pa_cons _ _ _ _ _ (pv 3) pa_nil (by rfl))) pe_int (nomark _)) (@pss_cons _ _ _ _ _ (@ps_set _ _ 5 _ _ _ _ sc_law_odd_record.nd rfl (Or.inl rfl) (pe_call G_law_digit (hr.mono (by first | decide | lia)) rfl D_law_digit.m D_law_digit.F.kp D_law_digit.b .nil pass0 (@pa_cons _ _ _ _ _ (pv 2) (@pa_cons _ _ _ _ _ (pe_callB (call_lenDN (K := K) rfl) rfl T.z_len PySem.boot_len (@pa_cons _ _ _ _ _ (pv 3) pa_nil (by rfl))) pa_nil (by rfl)) (by rfl))) (by rfl) (by first | exact .inl rfl | exact .inr rfl | assumption)) (@pss_cons _ _ _ _ _ (@ps_set _ _ 4 _ _ _ _ sc_law_odd_record.nd rfl (Or.inl rfl) (@pe_op _ _ _ _ _ _ _ _ (op_catSN (K := K) rfl) (pv 4) (@pe_lst _ _ _ _ (@pa_cons _ _ _ _ _ (@pe_tupPK _ K _ _ _ _ rfl (@pa_cons _ _ _ _ _ pe_str (@pa_cons _ _ _ _ _ (@pe_op _ _ _ _ _ _ _ _ (op_catPN (K := K) rfl) (pe_slice (sl_tupPN (K := K) rfl) (pv 3) po_none (po_some (pv 5))) (pe_slice (sl_tupPN (K := K) rfl) (pv 3) (po_some (@pe_op _ _ _ _ _ _ _ _ op_add (pv 5) pe_int)) po_none)) pa_nil (by rfl)) (by rfl))) (@pa_cons _ _ _ _ _ (@pe_tupPK _ K _ _ _ _ rfl (@pa_cons _ _ _ _ _ pe_str (@pa_cons _ _ _ _ _ (@pe_op _ _ _ _ _ _ _ _ (op_catPN (K := K) rfl) (@pe_op _ _ _ _ _ _ _ _ (op_catPN (K := K) rfl) (pe_slice (sl_tupPN (K := K) rfl) (pv 3) po_none (po_some (pv 5))) (@pe_tupPK _ K _ _ _ _ rfl (@pa_cons _ _ _ _ _ (@pe_ix _ _ _ _ _ _ _ (ix_tupPN (K := K) rfl) (pv 3) (pv 5) (fun _ _ => rfl)) pa_nil (by rfl)))) (pe_slice (sl_tupPN (K := K) rfl) (pv 3) (po_some (pv 5)) po_none)) pa_nil (by rfl)) (by rfl))) pa_nil (by rfl)) (by rfl)))) (by rfl) (by first | exact .inl rfl | exact .inr rfl | assumption)) (@pss_cons _ _ _ _ _ (@ps_set _ _ 4 _ _ _ _ sc_law_odd_record.nd rfl (Or.inl rfl) (@pe_op _ _ _ _ _ _ _ _ (op_catSN (K := K) rfl) (pv 4) (@pe_lst _ _ _ _ (@pa_cons _ _ _ _ _ (@pe_tupPK _ K _ _ _ _ rfl (@pa_cons _ _ _ _ _ pe_str (@pa_cons _ _ _ _ _ (@pe_op _ _ _ _ _ _ _ _ (op_catPN (K := K) rfl) (@pe_op _ _ _ _ _ _ _ _ (op_catPN (K := K) rfl) (pe_slice (sl_tupPN (K := K) rfl) (pv 3) po_none (po_some (pv 5))) (@pe_tupPK _ K _ _ _ _ rfl (@pa_cons _ _ _ _ _ (@pe_tupPK _ K _ _ _ _ rfl (@pa_cons _ _ _ _ _ pe_str (@pa_cons _ _ _ _ _ (@pe_ix _ _ _ _ _ _ _ (ix_tupPN (K := K) rfl) (@pe_ix _ _ _ _ _ _ _ (ix_tupPN (K := K) rfl) (pv 3) (pv 5) (fun _ _ => rfl)) pe_int (fun _ _ => rfl)) pa_nil (by rfl)) (by rfl))) pa_nil (by rfl)))) (pe_slice (sl_tupPN (K := K) rfl) (pv 3) (po_some (@pe_op _ _ _ _ _ _ _ _ op_add (pv 5) pe_int)) po_none)) pa_nil (by rfl)) (by rfl))) pa_nil (by rfl)))) (by rfl) (by first | exact .inl rfl | exact .inr rfl | assumption)) (@pss_cons _ _ _ _ _ (@ps_set _ _ 4 _ _ _ _ sc_law_odd_record.nd rfl (Or.inl rfl) (@pe_op _ _ _ _ _ _ _ _ (op_catSN (K := K) rfl) (pv 4) (@pe_lst _ _ _ _ (@pa_cons _ _ _ _ _ (@pe_tupPK _ K _ _ _ _ rfl (@pa_cons _ _ _ _ _ pe_str (@pa_cons _ _ _ _ _ (@pe_op _ _ _ _ _ _ _ _ (op_catPN (K := K) rfl) (@pe_op _ _ _ _ _ _ _ _ (op_catPN (K := K) rfl) (pe_slice (sl_tupPN (K := K) rfl) (pv 3) po_none (po_some (pv 5))) (@pe_tupPK _ K _ _ _ _ rfl (@pa_cons _ _ _ _ _ (@pe_ix _ _ _ _ _ _ _ (ix_tupPN (K := K) rfl) (@pe_ix _ _ _ _ _ _ _ (ix_tupPN (K := K) rfl) (pv 3) (pv 5) (fun _ _ => rfl)) pe_int (fun _ _ => rfl)) pa_nil (by rfl)))) (pe_slice (sl_tupPN (K := K) rfl) (pv 3) (po_some (@pe_op _ _ _ _ _ _ _ _ op_add (pv 5) pe_int)) po_none)) pa_nil (by rfl)) (by rfl))) pa_nil (by rfl)))) (by rfl) (by first | exact .inl rfl | exact .inr rfl | assumption)) (@pss_one _ _ _ (@ps_set _ _ 4 _ _ _ _ sc_law_odd_record.nd rfl (Or.inl rfl) (@pe_op _ _ _ _ _ _ _ _ (op_catSN (K := K) rfl) (pv 4) (@pe_lst _ _ _ _ (@pa_cons _ _ _ _ _ (@pe_tupPK _ K _ _ _ _ rfl (@pa_cons _ _ _ _ _ pe_str (@pa_cons _ _ _ _ _ (@pe_op _ _ _ _ _ _ _ _ (op_catPN (K := K) rfl) (@pe_op _ _ _ _ _ _ _ _ (op_catPN (K := K) rfl) (pe_slice (sl_tupPN (K := K) rfl) (pv 3) po_none (po_some (pv 5))) (@pe_tupPK _ K _ _ _ _ rfl (@pa_cons _ _ _ _ _ (@pe_op _ _ _ _ _ _ _ _ (op_catPN (K := K) rfl) (@pe_ix _ _ _ _ _ _ _ (ix_tupPN (K := K) rfl) (pv 3) (pv 5) (fun _ _ => rfl)) (@pe_tupPK _ K _ _ _ _ rfl (@pa_cons _ _ _ _ _ pe_int pa_nil (by rfl)))) pa_nil (by rfl)))) (pe_slice (sl_tupPN (K := K) rfl) (pv 3) (po_some (@pe_op _ _ _ _ _ _ _ _ op_add (pv 5) pe_int)) po_none)) pa_nil (by rfl)) (by rfl))) pa_nil (by rfl)))) (by rfl) (by first | exact .inl rfl | exact .inr rfl | assumption))))))) pss_nil) (@pss_cons _ _ _ _ _ (@ps_if _ _ _ _ _ _ _ _ (pt_cmpR op_gt (pe_callB (call_lenDN (K := K) rfl) rfl T.z_len PySem.boot_len (@pa_cons _ _ _ _ _ (pv 3) pa_nil (by rfl))) pe_int (nomark _)) (@pss_one _ _ _ (@ps_expr _ _ _ _ (pe_bm PySem.F.plainAttrs_list PySem.F.slot_list_append PySem.F.type_list_append mt_append (pv 4) (@pa_cons _ _ _ _ _ (@pe_tupPK _ K _ _ _ _ rfl (@pa_cons _ _ _ _ _ pe_str (@pa_cons _ _ _ _ _ (pe_tupRev rfl rfl T.z_tuple rfl T.z_reversed (pv 3)) pa_nil (by rfl)) (by rfl))) pa_nil (by rfl))) (by rfl))) pss_nil) (@pss_one _ _ _ (@ps_ret _ _ _ _ (@pe_ix _ _ _ _ _ _ _ (ix_listK (K := K) rfl) (pv 4) (pe_call G_law_digit (hr.mono (by first | decide | lia)) rfl D_law_digit.m D_law_digit.F.kp D_law_digit.b .nil pass0 (@pa_cons _ _ _ _ _ (pv 2) (@pa_cons _ _ _ _ _ (pe_callB (call_len_seqN (K := K) rfl) rfl T.z_len PySem.boot_len (@pa_cons _ _ _ _ _ (pv 4) pa_nil (by rfl))) pa_nil (by rfl)) (by rfl))) (fun _ _ => rfl))))))))),?_⟩
 have g8 : gs.length ≤ 8 := by have := congrArg List.length hn; simp only [List.length_map] at this; lia
 have szp : ∀ v ∈ gs.map prD,Sz v ∧ v.dep ≤ 19 := fun v hv => by
  refine goal_name fun gg hgg => ?_
  obtain ⟨g,hg',rfl⟩ := List.mem_map.mp hv
  refine hgg ?_
  clear hgg gg
  refine goal_name fun gg hgg => ?_
  obtain ⟨a1,a2,a3⟩ := hg g hg'
  refine hgg ?_
  clear hgg gg
  refine ⟨sz2 (.str _ (by lia)) a2,?_⟩
  simp only [prD,Dt.dep,depS]
  lia
 refine join4 (fun σ' H' => ∃ v1 c' p' at',σ' = [some x,some y,some (.ref r),some v1,some (.ref p'),at'] ∧ But r H H' ∧ H' r = some (.lst [.int c']) ∧ IsP K H' (.tup (gs.map prD)) v1 ∧ H p' = none ∧ OddL K H' (.tup [.str "record",.tup (fs.map prD)]) r p' 12) ?_ ?_
 ·intro s9_ H1 hI9
  refine goal_name fun gg hgg => ?_
  obtain ⟨v1,c',p',at',rfl,b1,r1,hv1,hp',od⟩ := hI9
  refine hgg ?_
  clear hgg gg
  refine join1 (fun σ' H' => ∃ v1 p' at',σ' = [some x,some y,some (.ref r),some v1,some (.ref p'),at'] ∧ But r H H' ∧ H' r = some (.lst [.int c']) ∧ OddL K H' (.tup [.str "record",.tup (fs.map prD)]) r p' 13) ?_ ?_
  ·intro s9_ H2 hI9
   refine goal_name fun gg hgg => ?_
   obtain ⟨v2,p2,at2,rfl,b2,r2,np,ys,ds,e2,i2,bd,l1,l2⟩ := hI9
   refine hgg ?_
   clear hgg gg
   refine ⟨_,rfl,_,rfl,_,rfl,p2,_,rfl,.inl (SqL.of e2),r,c',_,rfl,r2,by lia,by lia,?_⟩
   refine goal_name fun gg hgg => ?_
   obtain ⟨v,e,at5,me,hv⟩ := pick_odd i2 c' (by lia)
   refine hgg ?_
   clear hgg gg
   have b6 := But.put (H := H2) (r := r) (o := .lst [.int (c' / ((ys.length : Nat) : Int))])
   refine ⟨p2,_,_,v,rfl,rfl,SqL.of (b6 _ _ np e2),at5,?_⟩
   exact q v e _ _ (b2.trans b6) upd_same (hv.but r2 b6) (bd e me)
  ·intro key
   refine ⟨_,rfl,v1,_,rfl,hv1.d,_,_,rfl,rfl,_,rfl,?_⟩
   by_cases hlen : 1 < gs.length
   ·rw [decide_eq_true (by rw [List.length_map]; lia)]
    refine iteT ?_
    refine goal_name fun gg hgg => ?_
    obtain ⟨np,ys,ds,e1,i1,bd,l1,l2⟩ := od
    refine hgg ?_
    clear hgg gg
    refine ⟨_,rfl,.inl ⟨rfl,_,SqL.of e1⟩,?_⟩
    refine ⟨_,rfl,_,hv1,by rw [List.length_map]; lia,by rw [List.length_map]; lia,fun u1 H2 g2 w2 => ?_⟩
    refine ⟨[.str "record",.tup (gs.map prD).reverse],.cons .str (.cons w2 .nil),(by show 2 ≤ sizeLine; decide),fun u3 H3 g3 w3 => ?_⟩
    have e3 := g3 _ _ (g2 _ _ e1)
    refine ⟨p',_,_,rfl,rfl,e3,small1000 (by lia),?_⟩
    have b6 := But.put (H := H3) (r := p') (o := .lst (ys ++ [u3]))
    have S3 := g2.trans g3
    refine key _ _ ⟨v1,p',at',rfl,fun a o ne ha => b6 _ _ (fun c => by rw [c,hp'] at ha; cases ha) (S3 _ _ (b1 _ _ ne ha)),b6 _ _ (fun c => np c.symm) (S3 _ _ r1),np,_,ds ++ [.tup [.str "record",.tup (gs.map prD).reverse]],upd_same,((i1.same S3).append (.cons w3 .nil)).but e3 b6,?_,by rw [List.length_append]; lia,by rw [List.length_append,List.length_singleton]; lia⟩
    intro e he
    rcases List.mem_append.mp he with he | he
    ·exact bd e he
    ·obtain rfl := List.mem_singleton.mp he
     exact bad_rev hn hs hlen g8 szp
   ·rw [decide_eq_false (by rw [List.length_map]; lia)]
    refine iteF ?_
    refine goal_name fun gg hgg => ?_
    obtain ⟨np,ys,ds,e1,i1,bd,l1,l2⟩ := od
    refine hgg ?_
    clear hgg gg
    exact key _ _ ⟨v1,p',at',rfl,b1,r1,np,ys,ds,e1,i1,bd,l1,by lia⟩
 ·intro key
  refine seq_name fun k9 hk9 => ?_
  refine s_ix rfl hy rfl fun v1 hv1 => ?_
  refine hk9 _ _ ?_
  clear hk9 k9
  refine seq_name fun k9 hk9 => ?_
  have hl : gs.length = fs.length := by simpa using congrArg List.length hn
  have szL : Sz (.tup (gs.map prD)) := .tup (fun x hx => (szp x hx).1) (by rw [List.length_map]; lia)
  have dpL := dep_pair (w := "list") fun x hx => (szp x hx).2
  refine ⟨_,rfl,[.str "zzzzzzzz",.int 1],.cons .str (.cons .int .nil),(by show 2 ≤ sizeLine; decide),fun u1 H1 g1 w1 => ?_⟩
  refine ⟨[.tup [.str "zzzzzzzz",.int 1]],.cons w1 .nil,(by show 1 ≤ sizeLine; decide),fun u2 H2 g2 w2 => ?_⟩
  refine ⟨_,_,hv1.same (g1.trans g2),w2,small (by rw [List.length_map]; show gs.length + 1 ≤ 1000; lia),fun u3 H3 g3 w3 => ?_⟩
  refine ⟨[.str "record",.tup (gs.map prD ++ [.tup [.str "zzzzzzzz",.int 1]])],.cons .str (.cons w3 .nil),(by show 2 ≤ sizeLine; decide),fun u4 H4 g4 w4 => ?_⟩
  refine ⟨[.str "record"],.cons .str .nil,(by show 1 ≤ sizeLine; decide),fun u5 H5 g5 w5 => ?_⟩
  have S5 := ((g1.trans g2).trans g3).trans (g4.trans g5)
  refine ⟨_,rfl,[.str "list",.tup (gs.map prD)],.cons .str (.cons (hv1.same S5) .nil),(by show 2 ≤ sizeLine; decide),fun u6 H6 g6 w6 => ?_⟩
  refine ⟨[.str "record",.int 3],.cons .str (.cons .int .nil),(by show 2 ≤ sizeLine; decide),fun u7 H7 g7 w7 => ?_⟩
  refine ⟨(by show 5 ≤ sizeLine; decide),fun p1 hp1 => ?_⟩
  have gp := same_new hp1 (.lst [u4,u5,u6,u7,.int 5])
  have S7 := (S5.trans g6).trans (g7.trans gp)
  have all1 : IsPs K _ [.tup [.str "record",.tup (gs.map prD ++ [.tup [.str "zzzzzzzz",.int 1]])],.tup [.str "record"],.tup [.str "list",.tup (gs.map prD)],.tup [.str "record",.int 3],.int 5] [u4,u5,u6,u7,.int 5] :=
   .cons (w4.same (g5.trans (g6.trans (g7.trans gp)))) (.cons (w5.same (g6.trans (g7.trans gp))) (.cons (w6.same (g7.trans gp)) (.cons (w7.same gp) (.cons .int .nil))))
  have e1 : (upd H7 p1 (.lst [u4,u5,u6,u7,.int 5])) p1 = some (.lst [u4,u5,u6,u7,.int 5]) := upd_same
  refine hk9 _ _ ?_
  clear hk9 k9
  generalize upd H7 p1 (.lst [u4,u5,u6,u7,.int 5]) = HA at S7 e1 all1 ⊢
  refine seq_name fun k9 hk9 => ?_
  refine ⟨_,rfl,?_⟩
  refine ⟨[.str "record",.str "a"],.cons .str (.cons .str .nil),(by show 2 ≤ sizeLine; decide),fun u8 H8 k8 w8 => ?_⟩
  refine ⟨(by show 2 ≤ sizeLine; decide),fun p2 hp2 => ?_⟩
  have gq := same_new hp2 (.lst [.str "record",u8])
  refine ⟨p1,p2,_,_,rfl,rfl,SqL.of (gq _ _ (k8 _ _ e1)),SqL.of upd_same,(by show 7 ≤ sizeLine; decide),fun p3 hp3 => ?_⟩
  have S8 := S7.trans k8
  have SA := S8.trans (gq.trans (same_new hp3 (.lst ([u4,u5,u6,u7,.int 5] ++ [.str "record",u8]))))
  have od : OddL K _ (.tup [.str "record",.tup (fs.map prD)]) r p3 7 := odd_add (m := 5) (all1.same k8) ?_ (by show 1 ≤ 5; decide) (by show 5 ≤ 5; decide) (es := [.str "record",.tup [.str "record",.str "a"]]) (.cons .str (.cons w8 .nil)) ?_ ⟨_,S8 _ _ hr0⟩ hp2 hp3 (by show 5 + 2 ≤ 7; decide)
  rotate_left
  ·intro e he
   simp only [List.mem_cons,List.not_mem_nil,or_false] at he
   have s0 : Sz (.tup [.str "zzzzzzzz",.int 1]) := sz2 (sz_str (by decide +kernel)) (.int 1)
   have each : ∀ v ∈ gs.map prD ++ [.tup [.str "zzzzzzzz",.int 1]],Sz v ∧ v.dep ≤ 19 := fun v hv => (List.mem_append.mp hv).elim (szp v) fun h => by
    obtain rfl := List.mem_singleton.mp h
    exact ⟨s0,by decide⟩
   rcases he with rfl | rfl | rfl | rfl | rfl
   ·refine bad_rlen (sz_pair (by decide +kernel) (fun x hx => (each x hx).1) (by rw [List.length_append,List.length_map]; show gs.length + 1 ≤ 20; lia)) ?_ (by rw [List.length_append,List.length_map,List.length_map]; show gs.length + 1 ≠ fs.length; lia)
    have := dep_pair (w := "record") fun x hx => (each x hx).2
    lia
   ·exact bad_rc' (sz1 (sz_str (by decide +kernel))) (by show 1 ≤ 30; decide) rfl
   ·exact bad_rc' (sz2 (sz_str (by decide +kernel)) szL) (by lia) (by show eqD (.str "list") (.str "record") = false; decide +kernel)
   ·exact bad_rc' (sz2 (sz_str (by decide +kernel)) (.int 3)) (by show 1 ≤ 30; decide) rfl
   ·exact bad_rc' (.int 5) (Nat.zero_le _) rfl
  ·intro e he
   simp only [List.mem_cons,List.not_mem_nil,or_false] at he
   rcases he with rfl | rfl
   ·exact bad_rc' (sz_str (by decide +kernel)) (Nat.zero_le _) rfl
   ·exact bad_rc' (sz2 (sz_str (by decide +kernel)) (sz_str (by decide +kernel))) (by show 1 ≤ 30; decide) rfl
  have rA := SA _ _ hr0
  have hA := hv1.same SA
  have npA : H p3 = none := (S8.trans gq).free hp3
  refine hk9 _ _ ?_
  clear hk9 k9
  generalize upd (upd H8 p2 (.lst [.str "record",u8])) p3 (.lst ([u4,u5,u6,u7,.int 5] ++ [.str "record",u8])) = HB at SA od rA hA ⊢
  refine seq_name fun k9 hk9 => ?_
  replace key := fun σ' H' h => hk9 σ' H' (key σ' H' h)
  clear hk9
  refine ⟨_,rfl,v1,_,rfl,hA.d,_,_,rfl,rfl,_,rfl,?_⟩
  by_cases h0 : 0 < gs.length
  ·rw [decide_eq_true (by rw [List.length_map]; lia)]
   refine iteT ?_
   obtain ⟨m0,m1⟩ := mod_lt c (m := ((((gs.map prD).length : Nat)) : Int)) (by rw [List.length_map]; lia)
   refine seq_name fun k9 hk9 => ?_
   refine ⟨_,rfl,_,rfl,v1,_,rfl,hA.d,r,c,_,rfl,rA,(by rw [List.length_map]; lia),(by rw [List.length_map]; lia),?_⟩
   obtain ⟨j,ej⟩ : ∃ j : Nat,c % ((((gs.map prD).length : Nat)) : Int) = (j : Int) := ⟨_,(Int.toNat_of_nonneg m0).symm⟩
   rw [ej] at m1 ⊢
   refine hk9 _ _ ?_
   clear hk9 k9
   have lj : j < (gs.map prD).length := by lia
   have hj : j < gs.length := by rw [List.length_map] at lj; exact lj
   have lm : (gs.map prD).length = gs.length := List.length_map ..
   have atj : atI (gs.map prD) (j : Int) = some (prD gs[j]) := atI_nat (by rw [List.getElem?_map,List.getElem?_eq_getElem hj]; rfl)
   have mj : prD gs[j] ∈ gs.map prD := List.mem_map.mpr ⟨_,List.getElem_mem hj,rfl⟩
   have lt : ((gs.map prD).take j).length = j := by rw [List.length_take,Nat.min_eq_left (by lia)]
   have ej1 : ((j : Int) + 1) = ((j + 1 : Nat) : Int) := by lia
   refine goal_name fun gg hgg => ?_
   obtain ⟨np,ys,ds,e2,i2,bd,l1,l2⟩ := od
   refine hgg ?_
   clear hgg gg
   have b6 := But.put (H := HB) (r := r) (o := .lst [.int (c / ((((gs.map prD).length : Nat)) : Int))])
   have rC : (upd HB r (.lst [.int (c / ((((gs.map prD).length : Nat)) : Int))])) r = _ := upd_same
   have BC := (But.same SA).trans b6
   have hC := hA.but rA b6
   have eC := b6 _ _ np e2
   have iC := i2.but rA b6
   generalize c / ((((gs.map prD).length : Nat)) : Int) = c1 at b6 rC BC hC eC iC ⊢
   generalize upd HB r (.lst [.int c1]) = HC at b6 rC BC hC eC iC ⊢
   refine seq_name fun k9 hk9 => ?_
   refine ⟨_,rfl,?_⟩
   refine ⟨_,rfl,_,rfl,_,rfl,_,hC,fun a1 G1 s1 x1 => ?_⟩
   rw [cut_hd _ _ (Nat.le_of_lt lj)] at x1
   refine ⟨_,rfl,_,rfl,_,_,rfl,rfl,_,rfl,_,hC.same s1,fun a2 G2 s2 x2 => ?_⟩
   rw [ej1,cut_tl _ _ lj] at x2
   refine ⟨_,_,x1.same s2,x2,small (by simp only [List.length_append,List.length_take,List.length_drop,List.length_map,List.length_singleton,List.length_cons,List.length_nil]; lia),fun a3 G3 s3 x3 => ?_⟩
   refine ⟨[.str "record",.tup ((gs.map prD).take j ++ (gs.map prD).drop (j + 1))],.cons .str (.cons x3 .nil),(by show 2 ≤ sizeLine; decide),fun a4 G4 s4 x4 => ?_⟩
   have t4 := (s1.trans s2).trans (s3.trans s4)
   refine ⟨_,rfl,_,rfl,_,rfl,_,hC.same t4,fun a5 G5 s5 x5 => ?_⟩
   rw [cut_hd _ _ (Nat.le_of_lt lj)] at x5
   refine ⟨_,rfl,_,rfl,_,_,_,hC.same (t4.trans s5),rfl,atj,fun a6 x6 => ?_⟩
   refine ⟨[prD gs[j]],.cons x6 .nil,(by show 1 ≤ sizeLine; decide),fun a7 G7 s7 x7 => ?_⟩
   refine ⟨_,_,x5.same s7,x7,small (by simp only [List.length_append,List.length_take,List.length_drop,List.length_map,List.length_singleton,List.length_cons,List.length_nil]; lia),fun a8 G8 s8 x8 => ?_⟩
   have t8 := t4.trans (s5.trans (s7.trans s8))
   refine ⟨_,rfl,_,rfl,_,rfl,_,hC.same t8,fun a9 G9 s9 x9 => ?_⟩
   rw [cut_tl _ _ (Nat.le_of_lt lj)] at x9
   refine ⟨_,_,x8.same s9,x9,small (by simp only [List.length_append,List.length_take,List.length_drop,List.length_map,List.length_singleton,List.length_cons,List.length_nil]; lia),fun a10 G10 s10 x10 => ?_⟩
   refine ⟨[.str "record",.tup (((gs.map prD).take j ++ [prD gs[j]]) ++ (gs.map prD).drop j)],.cons .str (.cons x10 .nil),(by show 2 ≤ sizeLine; decide),fun a11 G11 s11 x11 => ?_⟩
   have u11 := (s5.trans (s7.trans s8)).trans (s9.trans (s10.trans s11))
   have t11 := t4.trans u11
   refine ⟨(by show 2 ≤ sizeLine; decide),fun p10 hp10 => ?_⟩
   have gq1 := same_new hp10 (.lst [a4,a11])
   refine ⟨p3,p10,_,_,rfl,rfl,SqL.of (gq1 _ _ (t11 _ _ eC)),SqL.of upd_same,small (by show ys.length + 2 ≤ 1000; lia),fun p11 hp11 => ?_⟩
   have od : OddL K _ (.tup [.str "record",.tup (fs.map prD)]) r p11 9 := odd_add (m := 7) (iC.same t11) bd l1 l2 (es := [.tup [.str "record",.tup ((gs.map prD).take j ++ (gs.map prD).drop (j + 1))],.tup [.str "record",.tup (((gs.map prD).take j ++ [prD gs[j]]) ++ (gs.map prD).drop j)]]) (.cons (x4.same u11) (.cons x11 .nil)) (fun e he => ?_) ⟨_,t11 _ _ rC⟩ hp10 hp11 (by show 7 + 2 ≤ 9; decide)
   rotate_left
   ·simp only [List.mem_cons,List.not_mem_nil,or_false] at he
    rcases he with rfl | rfl
    ·exact bad_out hj hl g8 szp
    ·exact bad_two hj hl g8 szp mj
   have SD := t11.trans (gq1.trans (same_new hp11 (.lst (ys ++ [a4,a11]))))
   have np1 : H p11 = none := but_free (BC.trans (But.same (t11.trans gq1))) ((t11.trans gq1) _ _ rC) hp11
   replace hC := hC.same SD
   replace rC := SD _ _ rC
   replace BC := BC.trans (But.same SD)
   refine hk9 _ _ ?_
   clear hk9 k9
   refine show _ from ?_
   generalize upd (upd G11 p10 (.lst [a4,a11])) p11 (.lst (ys ++ [a4,a11])) = HN at SD od hC rC BC ⊢
   clear SD eC iC bd l1 l2 e2 i2
   refine goal_name fun gg hgg => ?_
   obtain ⟨np,ys,ds,eC,iC,bd,l1,l2⟩ := od
   refine hgg ?_
   clear hgg gg
   have e2 := eC
   have i2 := iC
   refine seq_name fun k9 hk9 => ?_
   refine ⟨_,rfl,?_⟩
   refine ⟨_,rfl,_,rfl,_,rfl,_,hC,fun a1 G1 s1 x1 => ?_⟩
   rw [cut_hd _ _ (Nat.le_of_lt lj)] at x1
   refine ⟨_,rfl,_,rfl,_,_,_,hC.same s1,rfl,atj,fun a2 x2 => ?_⟩
   refine ⟨_,_,_,x2,rfl,rfl,fun a3 x3 => ?_⟩
   refine ⟨[.str "zzzzzzzz",gs[j].2],.cons .str (.cons x3 .nil),(by show 2 ≤ sizeLine; decide),fun b3 G3 s3 y3 => ?_⟩
   refine ⟨[.tup [.str "zzzzzzzz",gs[j].2]],.cons y3 .nil,(by show 1 ≤ sizeLine; decide),fun a4 G4 s4 x4 => ?_⟩
   replace s4 := s3.trans s4
   refine ⟨_,_,x1.same s4,x4,small (by simp only [List.length_append,List.length_take,List.length_drop,List.length_map,List.length_singleton,List.length_cons,List.length_nil]; lia),fun a5 G5 s5 x5 => ?_⟩
   refine ⟨_,rfl,_,rfl,_,_,rfl,rfl,_,rfl,_,hC.same (s1.trans (s4.trans s5)),fun a6 G6 s6 x6 => ?_⟩
   rw [ej1,cut_tl _ _ lj] at x6
   refine ⟨_,_,x5.same s6,x6,small (by simp only [List.length_append,List.length_take,List.length_drop,List.length_map,List.length_singleton,List.length_cons,List.length_nil]; lia),fun a7 G7 s7 x7 => ?_⟩
   refine ⟨[.str "record",.tup (((gs.map prD).take j ++ [.tup [.str "zzzzzzzz",gs[j].2]]) ++ (gs.map prD).drop (j + 1))],.cons .str (.cons x7 .nil),(by show 2 ≤ sizeLine; decide),fun a8 G8 s8 x8 => ?_⟩
   have t8 := (s1.trans (s4.trans s5)).trans (s6.trans (s7.trans s8))
   refine ⟨(by show 1 ≤ sizeLine; decide),fun p20 hp20 => ?_⟩
   have gq2 := same_new hp20 (.lst [a8])
   refine ⟨p11,p20,_,_,rfl,rfl,SqL.of (gq2 _ _ (t8 _ _ eC)),SqL.of upd_same,small (by show ys.length + 1 ≤ 1000; lia),fun p21 hp21 => ?_⟩
   have od : OddL K _ (.tup [.str "record",.tup (fs.map prD)]) r p21 10 := odd_add (m := 9) (iC.same t8) bd l1 l2 (es := [.tup [.str "record",.tup (((gs.map prD).take j ++ [.tup [.str "zzzzzzzz",gs[j].2]]) ++ (gs.map prD).drop (j + 1))]]) (.cons x8 .nil) (fun e he => ?_) ⟨_,t8 _ _ rC⟩ hp20 hp21 (by show 9 + 1 ≤ 10; decide)
   rotate_left
   ·obtain rfl := List.mem_singleton.mp he
    refine goal_name fun gg hgg => ?_
    obtain ⟨z1,z2,z3⟩ := hg _ (List.getElem_mem hj)
    refine hgg ?_
    clear hgg gg
    exact bad_ins hj hl g8 szp (sz2 (sz_str (by decide +kernel)) z2) (by simp only [Dt.dep,depS]; lia) fun n f hf => pr_name (a := "zzzzzzzz") (b := f.1) (k := f.2) fun c => hz f hf c.symm
   have SD := t8.trans (gq2.trans (same_new hp21 (.lst (ys ++ [a8]))))
   have np2 : H p21 = none := but_free (BC.trans (But.same (t8.trans gq2))) ((t8.trans gq2) _ _ rC) hp21
   replace hC := hC.same SD
   replace rC := SD _ _ rC
   replace BC := BC.trans (But.same SD)
   refine hk9 _ _ ?_
   clear hk9 k9
   refine show _ from ?_
   generalize upd (upd G8 p20 (.lst [a8])) p21 (.lst (ys ++ [a8])) = HN at SD od hC rC BC ⊢
   clear SD eC iC bd l1 l2 e2 i2
   refine goal_name fun gg hgg => ?_
   obtain ⟨np,ys,ds,eC,iC,bd,l1,l2⟩ := od
   refine hgg ?_
   clear hgg gg
   have e2 := eC
   have i2 := iC
   refine seq_name fun k9 hk9 => ?_
   refine ⟨_,rfl,?_⟩
   refine ⟨_,rfl,_,rfl,_,rfl,_,hC,fun a1 G1 s1 x1 => ?_⟩
   rw [cut_hd _ _ (Nat.le_of_lt lj)] at x1
   refine ⟨_,rfl,_,rfl,_,_,_,hC.same s1,rfl,atj,fun a2 x2 => ?_⟩
   refine ⟨_,_,_,x2,rfl,rfl,fun a3 x3 => ?_⟩
   refine ⟨[.str gs[j].1],.cons x3 .nil,(by show 1 ≤ sizeLine; decide),fun a4 G4 s4 x4 => ?_⟩
   refine ⟨_,_,x1.same s4,x4,small (by simp only [List.length_append,List.length_take,List.length_drop,List.length_map,List.length_singleton,List.length_cons,List.length_nil]; lia),fun a5 G5 s5 x5 => ?_⟩
   refine ⟨_,rfl,_,rfl,_,_,rfl,rfl,_,rfl,_,hC.same (s1.trans (s4.trans s5)),fun a6 G6 s6 x6 => ?_⟩
   rw [ej1,cut_tl _ _ lj] at x6
   refine ⟨_,_,x5.same s6,x6,small (by simp only [List.length_append,List.length_take,List.length_drop,List.length_map,List.length_singleton,List.length_cons,List.length_nil]; lia),fun a7 G7 s7 x7 => ?_⟩
   refine ⟨[.str "record",.tup (((gs.map prD).take j ++ [.str gs[j].1]) ++ (gs.map prD).drop (j + 1))],.cons .str (.cons x7 .nil),(by show 2 ≤ sizeLine; decide),fun a8 G8 s8 x8 => ?_⟩
   have t8 := (s1.trans (s4.trans s5)).trans (s6.trans (s7.trans s8))
   refine ⟨(by show 1 ≤ sizeLine; decide),fun p30 hp30 => ?_⟩
   have gq3 := same_new hp30 (.lst [a8])
   refine ⟨p21,p30,_,_,rfl,rfl,SqL.of (gq3 _ _ (t8 _ _ eC)),SqL.of upd_same,small (by show ys.length + 1 ≤ 1000; lia),fun p31 hp31 => ?_⟩
   have od : OddL K _ (.tup [.str "record",.tup (fs.map prD)]) r p31 11 := odd_add (m := 10) (iC.same t8) bd l1 l2 (es := [.tup [.str "record",.tup (((gs.map prD).take j ++ [.str gs[j].1]) ++ (gs.map prD).drop (j + 1))]]) (.cons x8 .nil) (fun e he => ?_) ⟨_,t8 _ _ rC⟩ hp30 hp31 (by show 10 + 1 ≤ 11; decide)
   rotate_left
   ·obtain rfl := List.mem_singleton.mp he
    refine goal_name fun gg hgg => ?_
    obtain ⟨z1,z2,z3⟩ := hg _ (List.getElem_mem hj)
    refine hgg ?_
    clear hgg gg
    exact bad_ins hj hl g8 szp (sz_str (by lia)) (Nat.zero_le _) fun n f hf => rfl
   have SD := t8.trans (gq3.trans (same_new hp31 (.lst (ys ++ [a8]))))
   have np3 : H p31 = none := but_free (BC.trans (But.same (t8.trans gq3))) ((t8.trans gq3) _ _ rC) hp31
   replace hC := hC.same SD
   replace rC := SD _ _ rC
   replace BC := BC.trans (But.same SD)
   refine hk9 _ _ ?_
   clear hk9 k9
   refine show _ from ?_
   generalize upd (upd G8 p30 (.lst [a8])) p31 (.lst (ys ++ [a8])) = HN at SD od hC rC BC ⊢
   clear SD eC iC bd l1 l2 e2 i2
   refine goal_name fun gg hgg => ?_
   obtain ⟨np,ys,ds,eC,iC,bd,l1,l2⟩ := od
   refine hgg ?_
   clear hgg gg
   have e2 := eC
   have i2 := iC
   refine ⟨_,rfl,?_⟩
   refine ⟨_,rfl,_,rfl,_,rfl,_,hC,fun a1 G1 s1 x1 => ?_⟩
   rw [cut_hd _ _ (Nat.le_of_lt lj)] at x1
   refine ⟨_,rfl,_,rfl,_,_,_,hC.same s1,rfl,atj,fun a2 x2 => ?_⟩
   refine ⟨[.int 1],.cons .int .nil,(by show 1 ≤ sizeLine; decide),fun b3 G3 s3 y3 => ?_⟩
   refine ⟨[.str gs[j].1,gs[j].2],[.int 1],x2.same s3,y3,small (by show 3 ≤ 1000; decide),fun b4 G4 s4 y4 => ?_⟩
   refine ⟨[.tup [.str gs[j].1,gs[j].2,.int 1]],.cons y4 .nil,(by show 1 ≤ sizeLine; decide),fun a4 G4 s5 x4 => ?_⟩
   replace s4 := s3.trans (s4.trans s5)
   refine ⟨_,_,x1.same s4,x4,small (by simp only [List.length_append,List.length_take,List.length_drop,List.length_map,List.length_singleton,List.length_cons,List.length_nil]; lia),fun a5 G5 s5 x5 => ?_⟩
   refine ⟨_,rfl,_,rfl,_,_,rfl,rfl,_,rfl,_,hC.same (s1.trans (s4.trans s5)),fun a6 G6 s6 x6 => ?_⟩
   rw [ej1,cut_tl _ _ lj] at x6
   refine ⟨_,_,x5.same s6,x6,small (by simp only [List.length_append,List.length_take,List.length_drop,List.length_map,List.length_singleton,List.length_cons,List.length_nil]; lia),fun a7 G7 s7 x7 => ?_⟩
   refine ⟨[.str "record",.tup (((gs.map prD).take j ++ [.tup [.str gs[j].1,gs[j].2,.int 1]]) ++ (gs.map prD).drop (j + 1))],.cons .str (.cons x7 .nil),(by show 2 ≤ sizeLine; decide),fun a8 G8 s8 x8 => ?_⟩
   have t8 := (s1.trans (s4.trans s5)).trans (s6.trans (s7.trans s8))
   refine ⟨(by show 1 ≤ sizeLine; decide),fun p40 hp40 => ?_⟩
   have gq4 := same_new hp40 (.lst [a8])
   refine ⟨p31,p40,_,_,rfl,rfl,SqL.of (gq4 _ _ (t8 _ _ eC)),SqL.of upd_same,small (by show ys.length + 1 ≤ 1000; lia),fun p41 hp41 => ?_⟩
   have od : OddL K _ (.tup [.str "record",.tup (fs.map prD)]) r p41 12 := odd_add (m := 11) (iC.same t8) bd l1 l2 (es := [.tup [.str "record",.tup (((gs.map prD).take j ++ [.tup [.str gs[j].1,gs[j].2,.int 1]]) ++ (gs.map prD).drop (j + 1))]]) (.cons x8 .nil) (fun e he => ?_) ⟨_,t8 _ _ rC⟩ hp40 hp41 (by show 11 + 1 ≤ 12; decide)
   rotate_left
   ·obtain rfl := List.mem_singleton.mp he
    refine goal_name fun gg hgg => ?_
    obtain ⟨z1,z2,z3⟩ := hg _ (List.getElem_mem hj)
    refine hgg ?_
    clear hgg gg
    exact bad_ins hj hl g8 szp (sz3 (sz_str (by lia)) z2 (.int 1)) (by simp only [Dt.dep,depS]; lia) fun n f hf => rfl
   have SD := t8.trans (gq4.trans (same_new hp41 (.lst (ys ++ [a8]))))
   have np4 : H p41 = none := but_free (BC.trans (But.same (t8.trans gq4))) ((t8.trans gq4) _ _ rC) hp41
   replace hC := hC.same SD
   replace rC := SD _ _ rC
   replace BC := BC.trans (But.same SD)
   refine show _ from ?_
   generalize upd (upd G8 p40 (.lst [a8])) p41 (.lst (ys ++ [a8])) = HN at SD od hC rC BC ⊢
   clear SD eC iC bd l1 l2 e2 i2
   refine goal_name fun gg hgg => ?_
   obtain ⟨np,ys,ds,eC,iC,bd,l1,l2⟩ := od
   refine hgg ?_
   clear hgg gg
   have e2 := eC
   have i2 := iC
   exact key _ _ ⟨v1,_,_,_,rfl,BC,rC,hC,np4,np,ys,ds,eC,iC,bd,l1,l2⟩
  ·rw [decide_eq_false (by rw [List.length_map]; lia)]
   refine iteF ?_
   refine goal_name fun gg hgg => ?_
   obtain ⟨np,ys,ds,e2,i2,bd,l1,l2⟩ := od
   refine hgg ?_
   clear hgg gg
   exact key _ _ ⟨v1,c,p3,none,rfl,But.same SA,rA,hA,npA,np,ys,ds,e2,i2,bd,l1,by lia⟩
theorem asc_true {l : List Dt} (h : Asc l) : ascB l = true := by
 unfold ascB
 rw [List.all_map]
 refine List.all_eq_true.mpr fun p hp => ?_
 obtain ⟨i,hi⟩ := List.getElem?_of_mem hp
 obtain ⟨h1,h2⟩ := List.getElem?_zip_eq_some.mp hi
 rw [List.getElem?_drop] at h2
 rcases h with ⟨ns,rfl,pw⟩ | ⟨ss,rfl,pw⟩
 ·rw [List.getElem?_map] at h1 h2
  obtain ⟨x,hx,e1⟩ := Option.map_eq_some_iff.mp h1
  obtain ⟨y,hy,e2⟩ := Option.map_eq_some_iff.mp h2
  obtain ⟨ix,rfl⟩ := List.getElem?_eq_some_iff.mp hx
  obtain ⟨iy,rfl⟩ := List.getElem?_eq_some_iff.mp hy
  have := List.pairwise_iff_getElem.mp pw i (1 + i) ix iy (by lia)
  show ltD p.1 p.2 = true
  rw [← e1,← e2]
  exact decide_eq_true this
 ·rw [List.getElem?_map] at h1 h2
  obtain ⟨x,hx,e1⟩ := Option.map_eq_some_iff.mp h1
  obtain ⟨y,hy,e2⟩ := Option.map_eq_some_iff.mp h2
  obtain ⟨ix,rfl⟩ := List.getElem?_eq_some_iff.mp hx
  obtain ⟨iy,rfl⟩ := List.getElem?_eq_some_iff.mp hy
  have := List.pairwise_iff_getElem.mp pw i (1 + i) ix iy (by lia)
  show ltD p.1 p.2 = true
  rw [← e1,← e2]
  exact decide_eq_true this
theorem asc_no {l : List Dt} {j : Nat} {x y : Dt} (h1 : l[j]? = some x) (h2 : l[j + 1]? = some y) (h : ltD x y = false) : ascB l = false := by
 unfold ascB
 rw [List.all_map]
 refine List.all_eq_false.mpr ⟨(x,y),List.mem_of_getElem? (i := j) (List.getElem?_zip_eq_some.mpr ⟨h1,by rw [List.getElem?_drop,Nat.add_comm]; exact h2⟩),?_⟩
 show ¬ ltD x y = true
 rw [h]
 decide
theorem ltD_irr (x : Dt) : ltD x x = false := by
 cases x with
 | int m => exact decide_eq_false (by lia)
 | str s => exact decide_eq_false (List.lt_irrefl _)
 | _ => rfl
theorem asc_rev {l : List Dt} (h : Asc l) (h1 : 1 < l.length) : ascB l.reverse = false := by
 rcases h with ⟨ns,rfl,pw⟩ | ⟨ss,rfl,pw⟩
 ·rw [List.length_map] at h1
  have i0 : ns.length - 1 < ns.length := by lia
  have i1 : ns.length - 2 < ns.length := by lia
  have e0 : (ns.map Dt.int).reverse[0]? = some (.int ns[ns.length - 1]) := by
   rw [List.getElem?_reverse (by rw [List.length_map]; lia),List.length_map,Nat.sub_zero,List.getElem?_map,List.getElem?_eq_getElem i0]
   rfl
  have e1 : (ns.map Dt.int).reverse[0 + 1]? = some (.int ns[ns.length - 2]) := by
   rw [List.getElem?_reverse (by rw [List.length_map]; lia),List.length_map,show ns.length - 1 - (0 + 1) = ns.length - 2 by lia,List.getElem?_map,List.getElem?_eq_getElem i1]
   rfl
  refine asc_no e0 e1 (decide_eq_false ?_)
  have := List.pairwise_iff_getElem.mp pw _ _ i1 i0 (by lia)
  lia
 ·rw [List.length_map] at h1
  have i0 : ss.length - 1 < ss.length := by lia
  have i1 : ss.length - 2 < ss.length := by lia
  have e0 : (ss.map Dt.str).reverse[0]? = some (.str ss[ss.length - 1]) := by
   rw [List.getElem?_reverse (by rw [List.length_map]; lia),List.length_map,Nat.sub_zero,List.getElem?_map,List.getElem?_eq_getElem i0]
   rfl
  have e1 : (ss.map Dt.str).reverse[0 + 1]? = some (.str ss[ss.length - 2]) := by
   rw [List.getElem?_reverse (by rw [List.length_map]; lia),List.length_map,show ss.length - 1 - (0 + 1) = ss.length - 2 by lia,List.getElem?_map,List.getElem?_eq_getElem i1]
   rfl
  refine asc_no e0 e1 (decide_eq_false fun c => ?_)
  have := List.pairwise_iff_getElem.mp pw _ _ i1 i0 (by lia)
  exact absurd (List.lt_trans this c) (List.lt_irrefl _)
theorem fv_rcd {fs : List (Str × Dt)} {e : Dt} (h : FV (.tup [.str "record",.tup (fs.map prD)]) e) : ∃ gs : List (Str × Dt),e = .tup [.str "record",.tup (gs.map prD)] ∧ gs.map (·.1) = fs.map (·.1) ∧ ∀ (i : Nat) (f g : Str × Dt),fs[i]? = some f → gs[i]? = some g → FV f.2 g.2 := by
 generalize he : fs.map prD = l at h
 cases h with
 | @rcd fs' gs hnm hv =>
  have ef := prD_inj he
  subst ef
  exact ⟨gs,rfl,hnm,hv⟩
theorem fv_of : ∀ {a c : Nat} {d : Dt},FK a c d → ∀ {e : Dt},FV d e → ∀ n,a ≤ n → ofN n d e = true := by
 intro a c d h
 induction h with
 | text i h0 h1 =>
  intro e hv n hn
  obtain ⟨n,rfl⟩ : ∃ m,n = m + 1 := ⟨n - 1,by lia⟩
  cases hv with
  | @text _ z hl ok =>
   rw [of_text]
   show (decide ((z.length : Int) ≤ i) && z.cps.toList.all okC) = true
   rw [decide_eq_true hl,Bool.true_and]
   exact List.all_eq_true.mpr ok
 | choice ws hw ho =>
  intro e hv n hn
  obtain ⟨n,rfl⟩ : ∃ m,n = m + 1 := ⟨n - 1,by lia⟩
  rw [of_choice]
  generalize he : ws.map Dt.str = l at hv ⊢
  cases hv with
  | @choice ws' z hz => exact List.any_eq_true.mpr ⟨.str z,List.mem_map.mpr ⟨z,hz,rfl⟩,eqD_refl _⟩
 | number i j h0 h1 h2 =>
  intro e hv n hn
  obtain ⟨n,rfl⟩ : ∃ m,n = m + 1 := ⟨n - 1,by lia⟩
  cases hv with
  | @number _ _ x a1 a2 =>
   rw [of_number]
   show (decide (i ≤ x) && decide (x ≤ j)) = true
   rw [decide_eq_true a1,decide_eq_true a2]
   rfl
 | @list _ _ k i hk h0 h1 ih =>
  intro e hv n hn
  obtain ⟨n,rfl⟩ : ∃ m,n = m + 1 := ⟨n - 1,by lia⟩
  cases hv with
  | @list _ _ vs hvs hl =>
   rw [of_list]
   show (eqD (.str "list") (.str "list") && (decide ((vs.length : Int) ≤ i) && vs.all (ofN n k))) = true
   rw [eqD_refl,decide_eq_true hl,Bool.true_and,Bool.true_and]
   exact List.all_eq_true.mpr fun x hx => ih (hvs x hx) n (by lia)
 | @rows _ _ z l i hk kl h0 h1 ih =>
  intro e hv n hn
  obtain ⟨n,rfl⟩ : ∃ m,n = m + 1 := ⟨n - 1,by lia⟩
  cases hv with
  | @rows _ _ _ vs hvs hl asc =>
   rw [of_rows]
   show ((eqD (.str "rows") (.str "rows") && (decide ((vs.length : Int) ≤ i) && vs.all (ofN n (.tup [.str "record",.tup l])))) && ascB (vs.map fun v => keyD v z)) = true
   rw [eqD_refl,decide_eq_true hl,asc_true asc,Bool.true_and,Bool.true_and,Bool.and_true]
   exact List.all_eq_true.mpr fun x hx => ih (hvs x hx) n (by lia)
 | @rcd gs hg hs hn' h8 ih =>
  intro e hv n hn
  obtain ⟨n,rfl⟩ : ∃ m,n = m + 1 := ⟨n - 1,by lia⟩
  have e1 : gs.map prG = (gs.map nk).map prD := by rw [List.map_map]; rfl
  rw [e1] at hv ⊢
  obtain ⟨ks,rfl,hnm,hv⟩ := fv_rcd hv
  have len : ks.length = gs.length := by have := congrArg List.length hnm; simpa using this
  rw [of_record]
  show (eqD (.str "record") (.str "record") && (decide ((ks.map prD).length = ((gs.map nk).map prD).length) && ((ks.map prD).zip ((gs.map nk).map prD)).all (prF (ofN n)))) = true
  rw [eqD_refl,decide_eq_true (by simp only [List.length_map]; exact len),Bool.true_and,Bool.true_and]
  refine List.all_eq_true.mpr fun p hp => ?_
  obtain ⟨i,hi⟩ := List.getElem?_of_mem hp
  obtain ⟨h1,h2⟩ := List.getElem?_zip_eq_some.mp hi
  rw [List.getElem?_map] at h1 h2
  obtain ⟨x,hx,ex⟩ := Option.map_eq_some_iff.mp h1
  obtain ⟨y,hy,ey⟩ := Option.map_eq_some_iff.mp h2
  have v1 := hv i y x hy hx
  have hy' := hy
  rw [List.getElem?_map] at hy'
  obtain ⟨g,hgi,eg⟩ := Option.map_eq_some_iff.mp hy'
  have m1 : g ∈ gs := List.mem_of_getElem? hgi
  have mx : g.2.2.1 ≤ maxN (gs.map (·.2.2.1)) := le_max (List.mem_map.mpr ⟨_,m1,rfl⟩)
  subst eg
  have r1 := ih _ m1 v1 n (by lia)
  have nm : x.1 = (nk g).1 := by
   have q1 : (ks.map (·.1))[i]? = some x.1 := by rw [List.getElem?_map,hx]; rfl
   rw [hnm,List.getElem?_map,hy] at q1
   exact (Option.some.inj q1).symm
  obtain ⟨p1,p2⟩ := p
  subst ex
  subst ey
  show (eqD (.str x.1) (.str (nk g).1) && ofN n (nk g).2 x.2) = true
  rw [nm,eqD_refl,Bool.true_and]
  exact r1
theorem bad_rw' {k e : Dt} {z : Str} {i : Int} (sz : Sz e) (dp : e.dep ≤ 30) (h : htB "rows" e = false) : Bad (.tup [.str "rows",.str z,k,.int i]) e := bad_of sz dp fun n => by
 rw [of_rows,ht_it h]
 rfl
theorem bad_rwN {k : Dt} {z : Str} {l : List Dt} {i : Int} (sz : Sz (.tup [.str "rows",.tup l])) (dp : (Dt.tup [.str "rows",.tup l]).dep ≤ 30) (h : i < (l.length : Int)) : Bad (.tup [.str "rows",.str z,k,.int i]) (.tup [.str "rows",.tup l]) := bad_of sz dp fun n => by
 rw [of_rows]
 show ((eqD (.str "rows") (.str "rows") && (decide ((l.length : Int) ≤ i) && l.all (ofN n k))) && _) = false
 rw [decide_eq_false (by lia),Bool.false_and,Bool.and_false]
 rfl
theorem rw_item {k : Dt} {z : Str} {l : List Dt} {i : Int} {x : Dt} (hx : x ∈ l) (h : ∀ n,ofN n k x = false) : ∀ n,ofN n (.tup [.str "rows",.str z,k,.int i]) (.tup [.str "rows",.tup l]) = false := fun n => by
 cases n with
 | zero => rfl
 | succ n =>
  rw [of_rows]
  show ((eqD (.str "rows") (.str "rows") && (decide ((l.length : Int) ≤ i) && l.all (ofN n k))) && _) = false
  have : l.all (ofN n k) = false := List.all_eq_false.mpr ⟨x,hx,by rw [h n]; decide⟩
  rw [this,Bool.and_false,Bool.and_false]
  rfl
theorem ls_item {k : Dt} {l : List Dt} {i : Int} {x : Dt} (hx : x ∈ l) (h : ∀ n,ofN n k x = false) : ∀ n,ofN n (.tup [.str "list",k,.int i]) (.tup [.str "list",.tup l]) = false := fun n => by
 cases n with
 | zero => rfl
 | succ n =>
  rw [of_list]
  show (eqD (.str "list") (.str "list") && (decide ((l.length : Int) ≤ i) && l.all (ofN n k))) = false
  have : l.all (ofN n k) = false := List.all_eq_false.mpr ⟨x,hx,by rw [h n]; decide⟩
  rw [this,Bool.and_false,Bool.and_false]
theorem rc_item {fs : List Dt} {l : List Dt} {i : Nat} {e f : Dt} (hi : l[i]? = some e) (hf : fs[i]? = some f) (h : ∀ n,prF (ofN n) (e,f) = false) : ∀ n,ofN n (.tup [.str "record",.tup fs]) (.tup [.str "record",.tup l]) = false := fun n => by
 cases n with
 | zero => rfl
 | succ n =>
  rw [of_record]
  show (eqD (.str "record") (.str "record") && (decide (l.length = fs.length) && (l.zip fs).all (prF (ofN n)))) = false
  have hz : (l.zip fs)[i]? = some (e,f) := by rw [List.getElem?_zip_eq_some]; exact ⟨hi,hf⟩
  have : (l.zip fs).all (prF (ofN n)) = false := List.all_eq_false.mpr ⟨_,List.mem_of_getElem? hz,by rw [h n]; decide⟩
  rw [this,Bool.and_false,Bool.and_false]
theorem bad_rwK {k : Dt} {z : Str} {l : List Dt} {i : Int} (sz : Sz (.tup [.str "rows",.tup l])) (dp : (Dt.tup [.str "rows",.tup l]).dep ≤ 30) (h : ascB (l.map fun v => keyD v z) = false) : Bad (.tup [.str "rows",.str z,k,.int i]) (.tup [.str "rows",.tup l]) := bad_of sz dp fun n => by
 rw [of_rows]
 show (_ && ascB (l.map fun v => keyD v z)) = false
 rw [h,Bool.and_false]
theorem ht_prs : ∀ gs : List (Str × Dt),htB "record" (.tup (gs.map prD)) = false
 | [] => rfl
 | [_] => rfl
 | [_,_] => rfl
 | _ :: _ :: _ :: _ => rfl
theorem rec_no {fl : List Dt} {e : Dt} (h : htB "record" e = false) : ∀ n,ofN n (.tup [.str "record",.tup fl]) e = false := fun n => by
 cases n with
 | zero => rfl
 | succ n =>
  rw [of_record]
  exact ht_rc h
theorem at_last {α : Type} {l : List α} (h : 0 < l.length) : atI l (-1) = some (l[l.length - 1]'(by lia)) := by
 have e : ixN l.length (-1) = some (l.length - 1) := by
  unfold ixN
  rw [if_neg (by lia),if_pos (by lia)]
  congr 1
  lia
 unfold atI
 rw [e]
 exact List.getElem?_eq_getElem _
theorem sz_app {w : Str} {l us : List Dt} (hw : w.length ≤ 100) (h : ∀ v ∈ l,Sz v ∧ v.dep ≤ 18) (hu : ∀ v ∈ us,Sz v ∧ v.dep ≤ 18) (hl : l.length + us.length ≤ 20) : Sz (.tup [.str w,.tup (l ++ us)]) ∧ (Dt.tup [.str w,.tup (l ++ us)]).dep ≤ 20 := by
 have e : ∀ v ∈ l ++ us,Sz v ∧ v.dep ≤ 18 := fun v hv => (List.mem_append.mp hv).elim (h v) (hu v)
 exact ⟨sz_pair hw (fun x hx => (e x hx).1) (by rw [List.length_append]; lia),dep_pair fun x hx => (e x hx).2⟩
inductive I_sp_law_odd_rows (K : PySem.W.Frag)   (vs : List V) (H : Hp) (Q : VK) : Prop
 | mk (r : Addr) (c : Int) (z : Str) (fl l : List Dt) (i : Int) (x y : V) : (vs = [x,y,.ref r]) → (H r = some (.lst [.int c])) → (IsP K H (.tup [.str "rows",.tup l]) y) → ((∀ v ∈ l,Sz v ∧ v.dep ≤ 18 ∧ ∃ gs : List (Str × Dt),gs.length ≤ 8 ∧ v = .tup [.str "record",.tup (gs.map prD)])) → (l.length ≤ 8) → (i ≤ 8) → (Asc (l.map fun v => keyD v z)) → (∀ (v : V) (e : Dt) (c' : Int) (H' : Hp),But r H H' → H' r = some (.lst [.int c']) → IsP K H' e v → Bad (.tup [.str "rows",.str z,.tup [.str "record",.tup fl],.int i]) e → Q v H') → I_sp_law_odd_rows K vs H Q
noncomputable def sp_law_odd_rows (K : PySem.W.Frag) (_ : Ads)  : Sp := fun vs H Q _ => I_sp_law_odd_rows K vs H Q
theorem ok_law_odd_rows (T : Tx K mg ad) {f : Addr} {fd : FuncData} (F : Gn K mg "_law_odd_rows" s_law_odd_rows ["kind","value","row"] f fd) : FnOk P w K mg base CX0 2 f fd ["kind","value","row"] (sp_law_odd_rows K ad) := by
 obtain ⟨f_law_digit,fd_law_digit,D_law_digit⟩ := T.law_digit
 have G_law_digit := ok_law_digit (P := P) (w := w) (base := base) T D_law_digit
 refine F.F.ok sc_law_odd_rows (fun vs H Q E h => ?_) (fun cdv A outer s H vs Q E hr h => ?_)
 ·obtain ⟨r,c,z,fl,l,i,x,y,rfl,_⟩ := h
  rfl
 obtain ⟨r,c,z,fl,l,i,x,y,rfl,hr0,hy,hl,l8,i8,asc,q⟩ := h
 refine ⟨_,(@pss_cons _ _ _ _ _ (@ps_set _ _ 3 _ _ _ _ sc_law_odd_rows.nd rfl (Or.inl rfl) (@pe_ix _ _ _ _ _ _ _ (ix_tupPN (K := K) rfl) (pv 1) pe_int (fun _ _ => rfl)) (by rfl) (by first | exact .inl rfl | exact .inr rfl | assumption)) (@pss_cons _ _ _ _ _ (@ps_set _ _ 4 _ _ _ _ sc_law_odd_rows.nd rfl (Or.inl rfl) (@pe_lst _ _ _ _ (@pa_cons _ _ _ _ _ (@pe_tupPK _ K _ _ _ _ rfl (@pa_cons _ _ _ _ _ pe_str (@pa_cons _ _ _ _ _ (pv 3) pa_nil (by rfl)) (by rfl))) (@pa_cons _ _ _ _ _ (@pe_tupPK _ K _ _ _ _ rfl (@pa_cons _ _ _ _ _ pe_str pa_nil (by rfl))) (@pa_cons _ _ _ _ _ (@pe_tupPK _ K _ _ _ _ rfl (@pa_cons _ _ _ _ _ pe_str (@pa_cons _ _ _ _ _ pe_int pa_nil (by rfl)) (by rfl))) (@pa_cons _ _ _ _ _ pe_int (@pa_cons _ _ _ _ _ (@pe_tupPK _ K _ _ _ _ rfl (@pa_cons _ _ _ _ _ pe_str (@pa_cons _ _ _ _ _ (@pe_op _ _ _ _ _ _ _ _ (op_catPN (K := K) rfl) (pv 3) (@pe_tupPK _ K _ _ _ _ rfl (@pa_cons _ _ _ _ _ pe_int pa_nil (by rfl)))) pa_nil (by rfl)) (by rfl))) pa_nil (by rfl)) (by rfl)) (by rfl)) (by rfl)) (by rfl))) (by rfl) (by first | exact .inl rfl | exact .inr rfl | assumption)) (@pss_cons _ _ _ _ _ (@ps_set _ _ 4 _ _ _ _ sc_law_odd_rows.nd rfl (Or.inl rfl) (@pe_op _ _ _ _ _ _ _ _ (op_catSN (K := K) rfl) (pv 4) (@pe_lst _ _ _ _ (@pa_cons _ _ _ _ _ (@pe_tupPK _ K _ _ _ _ rfl (@pa_cons _ _ _ _ _ pe_str (@pa_cons _ _ _ _ _ (@pe_op _ _ _ _ _ _ _ _ (op_catPN (K := K) rfl) (pv 3) (@pe_op _ _ _ _ _ _ _ _ (op_mulPN (K := K) rfl) (@pe_tupPK _ K _ _ _ _ rfl (@pa_cons _ _ _ _ _ (@pe_tupPK _ K _ _ _ _ rfl (@pa_cons _ _ _ _ _ pe_str (@pa_cons _ _ _ _ _ (@pe_tupPK _ K _ _ _ _ rfl pa_nil) pa_nil (by rfl)) (by rfl))) pa_nil (by rfl))) pe_int)) pa_nil (by rfl)) (by rfl))) pa_nil (by rfl)))) (by rfl) (by first | exact .inl rfl | exact .inr rfl | assumption)) (@pss_cons _ _ _ _ _ (@ps_if _ _ _ _ _ _ _ _ (pt_cmpR op_gt (pe_callB (call_lenDN (K := K) rfl) rfl T.z_len PySem.boot_len (@pa_cons _ _ _ _ _ (pv 3) pa_nil (by rfl))) pe_int (nomark _)) (@pss_cons _ _ _ _ _ (@ps_set _ _ 4 _ _ _ _ sc_law_odd_rows.nd rfl (Or.inl rfl) (@pe_op _ _ _ _ _ _ _ _ (op_catSN (K := K) rfl) (pv 4) (@pe_lst _ _ _ _ (@pa_cons _ _ _ _ _ (@pe_tupPK _ K _ _ _ _ rfl (@pa_cons _ _ _ _ _ pe_str (@pa_cons _ _ _ _ _ (@pe_op _ _ _ _ _ _ _ _ (op_catPN (K := K) rfl) (pv 3) (@pe_tupPK _ K _ _ _ _ rfl (@pa_cons _ _ _ _ _ (@pe_ix _ _ _ _ _ _ _ (ix_tupPN (K := K) rfl) (pv 3) (@pe_un _ _ _ _ _ _ un_neg pe_int) (fun _ _ => rfl)) pa_nil (by rfl)))) pa_nil (by rfl)) (by rfl))) (@pa_cons _ _ _ _ _ (@pe_tupPK _ K _ _ _ _ rfl (@pa_cons _ _ _ _ _ pe_str (@pa_cons _ _ _ _ _ (@pe_op _ _ _ _ _ _ _ _ (op_catPN (K := K) rfl) (@pe_tupPK _ K _ _ _ _ rfl (@pa_cons _ _ _ _ _ (@pe_ix _ _ _ _ _ _ _ (ix_tupPN (K := K) rfl) (pv 3) pe_int (fun _ _ => rfl)) pa_nil (by rfl))) (pv 3)) pa_nil (by rfl)) (by rfl))) pa_nil (by rfl)) (by rfl)))) (by rfl) (by first | exact .inl rfl | exact .inr rfl | assumption)) (@pss_one _ _ _ (@ps_expr _ _ _ _ (pe_bm PySem.F.plainAttrs_list PySem.F.slot_list_append PySem.F.type_list_append mt_append (pv 4) (@pa_cons _ _ _ _ _ (@pe_tupPK _ K _ _ _ _ rfl (@pa_cons _ _ _ _ _ pe_str (@pa_cons _ _ _ _ _ (@pe_op _ _ _ _ _ _ _ _ (op_catPN (K := K) rfl) (@pe_tupPK _ K _ _ _ _ rfl (@pa_cons _ _ _ _ _ (@pe_ix _ _ _ _ _ _ _ (ix_tupPN (K := K) rfl) (@pe_ix _ _ _ _ _ _ _ (ix_tupPN (K := K) rfl) (pv 3) pe_int (fun _ _ => rfl)) pe_int (fun _ _ => rfl)) pa_nil (by rfl))) (pe_slice (sl_tupPN (K := K) rfl) (pv 3) (po_some pe_int) po_none)) pa_nil (by rfl)) (by rfl))) pa_nil (by rfl))) (by rfl)))) pss_nil) (@pss_cons _ _ _ _ _ (@ps_if _ _ _ _ _ _ _ _ (pt_cmpR op_gt (pe_callB (call_lenDN (K := K) rfl) rfl T.z_len PySem.boot_len (@pa_cons _ _ _ _ _ (pv 3) pa_nil (by rfl))) pe_int (nomark _)) (@pss_one _ _ _ (@ps_expr _ _ _ _ (pe_bm PySem.F.plainAttrs_list PySem.F.slot_list_append PySem.F.type_list_append mt_append (pv 4) (@pa_cons _ _ _ _ _ (@pe_tupPK _ K _ _ _ _ rfl (@pa_cons _ _ _ _ _ pe_str (@pa_cons _ _ _ _ _ (pe_tupRev rfl rfl T.z_tuple rfl T.z_reversed (pv 3)) pa_nil (by rfl)) (by rfl))) pa_nil (by rfl))) (by rfl))) pss_nil) (@pss_one _ _ _ (@ps_ret _ _ _ _ (@pe_ix _ _ _ _ _ _ _ (ix_listK (K := K) rfl) (pv 4) (pe_call G_law_digit (hr.mono (by first | decide | lia)) rfl D_law_digit.m D_law_digit.F.kp D_law_digit.b .nil pass0 (@pa_cons _ _ _ _ _ (pv 2) (@pa_cons _ _ _ _ _ (pe_callB (call_len_seqN (K := K) rfl) rfl T.z_len PySem.boot_len (@pa_cons _ _ _ _ _ (pv 4) pa_nil (by rfl))) pa_nil (by rfl)) (by rfl))) (fun _ _ => rfl))))))))),?_⟩
 have szl : ∀ v ∈ l,Sz v ∧ v.dep ≤ 18 := fun v hv => ⟨(hl v hv).1,(hl v hv).2.1⟩
 have szL : Sz (.tup l) := .tup (fun x hx => (szl x hx).1) (by lia)
 have dpL := dep_pair (w := "list") fun x hx => (szl x hx).2
 refine join4 (fun σ' H' => ∃ v1 p',σ' = [some x,some y,some (.ref r),some v1,some (.ref p')] ∧ But r H H' ∧ H' r = some (.lst [.int c]) ∧ IsP K H' (.tup l) v1 ∧ H p' = none ∧ OddL K H' (.tup [.str "rows",.str z,.tup [.str "record",.tup fl],.int i]) r p' 9) ?_ ?_
 ·intro s9_ H1 hI9
  refine goal_name fun gg hgg => ?_
  obtain ⟨v1,p',rfl,b1,r1,hv1,hp',od⟩ := hI9
  refine hgg ?_
  clear hgg gg
  refine join1 (fun σ' H' => ∃ v1 p',σ' = [some x,some y,some (.ref r),some v1,some (.ref p')] ∧ But r H H' ∧ H' r = some (.lst [.int c]) ∧ OddL K H' (.tup [.str "rows",.str z,.tup [.str "record",.tup fl],.int i]) r p' 10) ?_ ?_
  ·intro s9_ H2 hI9
   refine goal_name fun gg hgg => ?_
   obtain ⟨v2,p2,rfl,b2,r2,np,ys,ds,e2,i2,bd,l1,l2⟩ := hI9
   refine hgg ?_
   clear hgg gg
   refine ⟨_,rfl,_,rfl,_,rfl,p2,_,rfl,.inl (SqL.of e2),r,c,_,rfl,r2,by lia,by lia,?_⟩
   refine goal_name fun gg hgg => ?_
   obtain ⟨v,e,at5,me,hv⟩ := pick_odd i2 c (by lia)
   refine hgg ?_
   clear hgg gg
   have b6 := But.put (H := H2) (r := r) (o := .lst [.int (c / ((ys.length : Nat) : Int))])
   refine ⟨p2,_,_,v,rfl,rfl,SqL.of (b6 _ _ np e2),at5,?_⟩
   exact q v e _ _ (b2.trans b6) upd_same (hv.but r2 b6) (bd e me)
  ·intro key
   refine ⟨_,rfl,v1,_,rfl,hv1.d,_,_,rfl,rfl,_,rfl,?_⟩
   by_cases hlen : 1 < l.length
   ·rw [decide_eq_true (by lia)]
    refine iteT ?_
    refine goal_name fun gg hgg => ?_
    obtain ⟨np,ys,ds,e1,i1,bd,l1,l2⟩ := od
    refine hgg ?_
    clear hgg gg
    refine ⟨_,rfl,.inl ⟨rfl,_,SqL.of e1⟩,?_⟩
    refine ⟨_,rfl,_,hv1,by lia,by lia,fun u1 H2 g2 w2 => ?_⟩
    refine ⟨[.str "rows",.tup l.reverse],.cons .str (.cons w2 .nil),(by show 2 ≤ sizeLine; decide),fun u3 H3 g3 w3 => ?_⟩
    have e3 := g3 _ _ (g2 _ _ e1)
    refine ⟨p',_,_,rfl,rfl,e3,small1000 (by lia),?_⟩
    have b6 := But.put (H := H3) (r := p') (o := .lst (ys ++ [u3]))
    have S3 := g2.trans g3
    refine key _ _ ⟨v1,p',rfl,fun a o ne ha => b6 _ _ (fun c => by rw [c,hp'] at ha; cases ha) (S3 _ _ (b1 _ _ ne ha)),b6 _ _ (fun c => np c.symm) (S3 _ _ r1),np,_,ds ++ [.tup [.str "rows",.tup l.reverse]],upd_same,((i1.same S3).append (.cons w3 .nil)).but e3 b6,?_,by rw [List.length_append]; lia,by rw [List.length_append,List.length_singleton]; lia⟩
    intro e he
    rcases List.mem_append.mp he with he | he
    ·exact bd e he
    ·obtain rfl := List.mem_singleton.mp he
     refine bad_rwK (sz_pair (by decide +kernel) (fun x hx => (szl x (List.mem_reverse.mp hx)).1) (by rw [List.length_reverse]; lia)) ?_ ?_
     ·have := dep_pair (w := "rows") (l := l.reverse) fun x hx => (szl x (List.mem_reverse.mp hx)).2
      lia
     ·rw [List.map_reverse]
      exact asc_rev asc (by rw [List.length_map]; exact hlen)
   ·rw [decide_eq_false (by lia)]
    refine iteF ?_
    refine goal_name fun gg hgg => ?_
    obtain ⟨np,ys,ds,e1,i1,bd,l1,l2⟩ := od
    refine hgg ?_
    clear hgg gg
    exact key _ _ ⟨v1,p',rfl,b1,r1,np,ys,ds,e1,i1,bd,l1,by lia⟩
 ·intro key
  refine s_ix rfl hy rfl fun v1 hv1 => ?_
  refine ⟨_,rfl,[.str "list",.tup l],.cons .str (.cons hv1 .nil),(by show 2 ≤ sizeLine; decide),fun u1 H1 g1 w1 => ?_⟩
  refine ⟨[.str "rows"],.cons .str .nil,(by show 1 ≤ sizeLine; decide),fun u2 H2 g2 w2 => ?_⟩
  refine ⟨[.str "rows",.int 3],.cons .str (.cons .int .nil),(by show 2 ≤ sizeLine; decide),fun u3 H3 g3 w3 => ?_⟩
  refine ⟨_,rfl,[.int 5],.cons .int .nil,(by show 1 ≤ sizeLine; decide),fun u4 H4 g4 w4 => ?_⟩
  have S4 := (g1.trans g2).trans (g3.trans g4)
  refine ⟨_,_,hv1.same S4,w4,small (by show l.length + 1 ≤ 1000; lia),fun u5 H5 g5 w5 => ?_⟩
  refine ⟨[.str "rows",.tup (l ++ [.int 5])],.cons .str (.cons w5 .nil),(by show 2 ≤ sizeLine; decide),fun u6 H6 g6 w6 => ?_⟩
  refine ⟨(by show 5 ≤ sizeLine; decide),fun p1 hp1 => ?_⟩
  have gp := same_new hp1 (.lst [u1,u2,u3,.int 5,u6])
  have S6 := S4.trans (g5.trans (g6.trans gp))
  have all1 : IsPs K _ [.tup [.str "list",.tup l],.tup [.str "rows"],.tup [.str "rows",.int 3],.int 5,.tup [.str "rows",.tup (l ++ [.int 5])]] [u1,u2,u3,.int 5,u6] :=
   .cons (w1.same ((g2.trans (g3.trans g4)).trans (g5.trans (g6.trans gp)))) (.cons (w2.same ((g3.trans g4).trans (g5.trans (g6.trans gp)))) (.cons (w3.same (g4.trans (g5.trans (g6.trans gp)))) (.cons .int (.cons (w6.same gp) .nil))))
  have e1 : (upd H6 p1 (.lst [u1,u2,u3,.int 5,u6])) p1 = some (.lst [u1,u2,u3,.int 5,u6]) := upd_same
  refine show _ from ?_
  generalize upd H6 p1 (.lst [u1,u2,u3,.int 5,u6]) = HA at S6 e1 all1 ⊢
  refine ⟨_,rfl,?_⟩
  refine ⟨_,rfl,[],.nil,(by show 0 ≤ sizeLine; decide),fun u7 H7 g7 w7 => ?_⟩
  refine ⟨[.str "record",.tup []],.cons .str (.cons w7 .nil),(by show 2 ≤ sizeLine; decide),fun u8 H8 g8 w8 => ?_⟩
  refine ⟨[.tup [.str "record",.tup []]],.cons w8 .nil,(by show 1 ≤ sizeLine; decide),fun u9 H9 g9 w9 => ?_⟩
  refine ⟨.tup [.str "record",.tup []],9,w9,rfl,by decide,by decide,fun u10 H10 g10 w10 => ?_⟩
  have S10 := (g7.trans g8).trans (g9.trans g10)
  refine ⟨_,_,(hv1.same S6).same S10,w10,small (by rw [List.length_replicate]; show l.length + 9 ≤ 1000; lia),fun u11 H11 g11 w11 => ?_⟩
  refine ⟨[.str "rows",.tup (l ++ List.replicate 9 (.tup [.str "record",.tup []]))],.cons .str (.cons w11 .nil),(by show 2 ≤ sizeLine; decide),fun u12 H12 g12 w12 => ?_⟩
  refine ⟨(by show 1 ≤ sizeLine; decide),fun p2 hp2 => ?_⟩
  have gq := same_new hp2 (.lst [u12])
  have S12 := S10.trans (g11.trans g12)
  refine ⟨p1,p2,_,_,rfl,rfl,SqL.of (gq _ _ (S12 _ _ e1)),SqL.of upd_same,(by show 6 ≤ sizeLine; decide),fun p3 hp3 => ?_⟩
  have S13 := S6.trans S12
  have SA := S13.trans (gq.trans (same_new hp3 (.lst ([u1,u2,u3,.int 5,u6] ++ [u12]))))
  have od : OddL K _ (.tup [.str "rows",.str z,.tup [.str "record",.tup fl],.int i]) r p3 6 := odd_add (m := 5) (all1.same S12) (fun e he => ?_) (by show 1 ≤ 5; decide) (by show 5 ≤ 5; decide) (es := [.tup [.str "rows",.tup (l ++ List.replicate 9 (.tup [.str "record",.tup []]))]]) (.cons w12 .nil) (fun e he => ?_) ⟨_,S13 _ _ hr0⟩ hp2 hp3 (by show 5 + 1 ≤ 6; decide)
  rotate_left
  ·simp only [List.mem_cons,List.not_mem_nil,or_false] at he
   rcases he with rfl | rfl | rfl | rfl | rfl
   ·exact bad_rw' (sz2 (sz_str (by decide +kernel)) szL) (by lia) (by show eqD (.str "list") (.str "rows") = false; decide +kernel)
   ·exact bad_rw' (sz1 (sz_str (by decide +kernel))) (by show 1 ≤ 30; decide) rfl
   ·exact bad_rw' (sz2 (sz_str (by decide +kernel)) (.int 3)) (by show 1 ≤ 30; decide) rfl
   ·exact bad_rw' (.int 5) (Nat.zero_le _) rfl
   ·have s1 := sz_app (w := "rows") (us := [.int 5]) (by decide +kernel) szl (fun v hv => by obtain rfl := List.mem_singleton.mp hv; exact ⟨.int 5,Nat.zero_le _⟩) (by show l.length + 1 ≤ 20; lia)
    exact ⟨s1.1,by lia,rw_item (List.mem_append_right _ List.mem_cons_self) (rec_no rfl)⟩
  ·obtain rfl := List.mem_singleton.mp he
   have s1 := sz_app (w := "rows") (us := List.replicate 9 (.tup [.str "record",.tup []])) (by decide +kernel) szl (fun v hv => by rw [List.eq_of_mem_replicate hv]; exact ⟨sz2 (sz_str (by decide +kernel)) sz0,by decide⟩) (by rw [List.length_replicate]; lia)
   exact bad_rwN s1.1 (by lia) (by rw [List.length_append,List.length_replicate]; lia)
  have rA := SA _ _ hr0
  have hA := hv1.same SA
  have npA : H p3 = none := (S13.trans gq).free hp3
  refine show _ from ?_
  generalize upd (upd H12 p2 (.lst [u12])) p3 (.lst ([u1,u2,u3,.int 5,u6] ++ [u12])) = HB at SA od rA hA ⊢
  refine ⟨_,rfl,v1,_,rfl,hA.d,_,_,rfl,rfl,_,rfl,?_⟩
  by_cases h0 : 0 < l.length
  ·rw [decide_eq_true (by lia)]
   refine iteT ?_
   refine goal_name fun gg hgg => ?_
   obtain ⟨np,ys,ds,e2,i2,bd,l1,l2⟩ := od
   refine hgg ?_
   clear hgg gg
   have a0 : atI l 0 = some l[0] := atI_nat (j := 0) (List.getElem?_eq_getElem h0)
   have ll : l.length - 1 < l.length := by lia
   refine ⟨_,rfl,?_⟩
   refine ⟨_,rfl,_,rfl,_,rfl,_,_,_,hA,rfl,at_last h0,fun a1 x1 => ?_⟩
   refine ⟨[l[l.length - 1]],.cons x1 .nil,(by show 1 ≤ sizeLine; decide),fun a2 G2 s2 x2 => ?_⟩
   refine ⟨_,_,hA.same s2,x2,small (by simp only [List.length_append,List.length_drop,List.length_singleton,List.length_cons,List.length_nil]; lia),fun a3 G3 s3 x3 => ?_⟩
   refine ⟨[.str "rows",.tup (l ++ [l[l.length - 1]])],.cons .str (.cons x3 .nil),(by show 2 ≤ sizeLine; decide),fun a4 G4 s4 x4 => ?_⟩
   have t4 := s2.trans (s3.trans s4)
   refine ⟨_,rfl,_,_,_,hA.same t4,rfl,a0,fun a5 x5 => ?_⟩
   refine ⟨[l[0]],.cons x5 .nil,(by show 1 ≤ sizeLine; decide),fun a6 G6 s6 x6 => ?_⟩
   refine ⟨_,rfl,_,_,x6,hA.same (t4.trans s6),small (by simp only [List.length_append,List.length_drop,List.length_singleton,List.length_cons,List.length_nil]; lia),fun a7 G7 s7 x7 => ?_⟩
   refine ⟨[.str "rows",.tup ([l[0]] ++ l)],.cons .str (.cons x7 .nil),(by show 2 ≤ sizeLine; decide),fun a8 G8 s8 x8 => ?_⟩
   have u8 := s6.trans (s7.trans s8)
   have t8 := t4.trans u8
   refine ⟨(by show 2 ≤ sizeLine; decide),fun p10 hp10 => ?_⟩
   have gq1 := same_new hp10 (.lst [a4,a8])
   refine ⟨p3,p10,_,_,rfl,rfl,SqL.of (gq1 _ _ (t8 _ _ e2)),SqL.of upd_same,small (by show ys.length + 2 ≤ 1000; lia),fun p11 hp11 => ?_⟩
   have od : OddL K _ (.tup [.str "rows",.str z,.tup [.str "record",.tup fl],.int i]) r p11 8 := odd_add (m := 6) (i2.same t8) bd l1 l2 (es := [.tup [.str "rows",.tup (l ++ [l[l.length - 1]])],.tup [.str "rows",.tup ([l[0]] ++ l)]]) (.cons (x4.same u8) (.cons x8 .nil)) (fun e he => ?_) ⟨_,t8 _ _ rA⟩ hp10 hp11 (by show 6 + 2 ≤ 8; decide)
   rotate_left
   ·simp only [List.mem_cons,List.not_mem_nil,or_false] at he
    rcases he with rfl | rfl
    ·have s1 := sz_app (w := "rows") (us := [l[l.length - 1]]) (by decide +kernel) szl (fun v hv => by obtain rfl := List.mem_singleton.mp hv; exact szl _ (List.getElem_mem ll)) (by show l.length + 1 ≤ 20; lia)
     refine bad_rwK s1.1 (by lia) ?_
     rw [List.map_append]
     have q1 : (l.map fun v => keyD v z)[l.length - 1]? = some (keyD l[l.length - 1] z) := by rw [List.getElem?_map,List.getElem?_eq_getElem ll]; rfl
     refine asc_no (j := l.length - 1) (x := keyD l[l.length - 1] z) (y := keyD l[l.length - 1] z) ?_ ?_ (ltD_irr _)
     ·rw [List.getElem?_append_left (by rw [List.length_map]; lia)]
      exact q1
     ·rw [List.getElem?_append_right (by rw [List.length_map]; lia),List.length_map,show l.length - 1 + 1 - l.length = 0 by lia]
      rfl
    ·have s1 := sz_app (w := "rows") (l := [l[0]]) (us := l) (by decide +kernel) (fun v hv => by obtain rfl := List.mem_singleton.mp hv; exact szl _ (List.getElem_mem h0)) szl (by show 1 + l.length ≤ 20; lia)
     refine bad_rwK s1.1 (by lia) ?_
     refine asc_no (j := 0) (x := keyD l[0] z) (y := keyD l[0] z) rfl ?_ (ltD_irr _)
     show (l.map fun v => keyD v z)[0]? = _
     rw [List.getElem?_map,List.getElem?_eq_getElem h0]
     rfl
   have SD := t8.trans (gq1.trans (same_new hp11 (.lst (ys ++ [a4,a8]))))
   have np1 : H p11 = none := (SA.trans (t8.trans gq1)).free hp11
   have hC := hA.same SD
   have rC := SD _ _ rA
   have SC := SA.trans SD
   refine show _ from ?_
   generalize upd (upd G8 p10 (.lst [a4,a8])) p11 (.lst (ys ++ [a4,a8])) = HN at SD od hC rC SC ⊢
   clear e2 i2 bd l1 l2 np
   refine goal_name fun gg hgg => ?_
   obtain ⟨np,ys,ds,e2,i2,bd,l1,l2⟩ := od
   refine hgg ?_
   clear hgg gg
   refine goal_name fun gg hgg => ?_
   obtain ⟨gs,g8,e0⟩ := (hl l[0] (List.getElem_mem h0)).2.2
   refine hgg ?_
   clear hgg gg
   refine ⟨_,rfl,.inl ⟨rfl,_,SqL.of e2⟩,?_⟩
   refine ⟨_,rfl,_,_,_,hC,rfl,a0,fun b1 y1 => ?_⟩
   rw [e0] at y1
   refine ⟨_,_,_,y1,rfl,rfl,fun b2 y2 => ?_⟩
   refine ⟨[.tup (gs.map prD)],.cons y2 .nil,(by show 1 ≤ sizeLine; decide),fun b3 J3 r3 y3 => ?_⟩
   refine ⟨_,rfl,_,rfl,_,hC.same r3,fun b4 J4 r4 y4 => ?_⟩
   rw [show L2.cutD l (some 1) none = l.drop 1 from cut_tl l 1 h0] at y4
   refine ⟨_,_,y3.same r4,y4,small (by simp only [List.length_append,List.length_drop,List.length_singleton,List.length_cons,List.length_nil]; lia),fun b5 J5 r5 y5 => ?_⟩
   refine ⟨[.str "rows",.tup ([.tup (gs.map prD)] ++ l.drop 1)],.cons .str (.cons y5 .nil),(by show 2 ≤ sizeLine; decide),fun b6 J6 r6 y6 => ?_⟩
   have t6 := (r3.trans r4).trans (r5.trans r6)
   have e3 := t6 _ _ e2
   refine ⟨p11,_,_,rfl,rfl,e3,small1000 (by lia),?_⟩
   have c6 := But.put (H := J6) (r := p11) (o := .lst (ys ++ [b6]))
   have S6 := SC.trans t6
   refine key _ _ ⟨v1,p11,rfl,fun a o ne ha => c6 _ _ (fun c => by rw [c,np1] at ha; cases ha) (S6 _ _ ha),c6 _ _ (fun c => np c.symm) (t6 _ _ rC),(hC.same t6).but e3 c6,np1,np,_,ds ++ [.tup [.str "rows",.tup ([.tup (gs.map prD)] ++ l.drop 1)]],upd_same,((i2.same t6).append (.cons y6 .nil)).but e3 c6,?_,by rw [List.length_append]; lia,by rw [List.length_append,List.length_singleton]; lia⟩
   intro e he
   rcases List.mem_append.mp he with he | he
   ·exact bd e he
   ·obtain rfl := List.mem_singleton.mp he
    have z0 := szl _ (List.getElem_mem h0)
    rw [e0] at z0
    have zin := sz_in z0.1
    have zd : (Dt.tup (gs.map prD)).dep ≤ 18 := by
     have := z0.2
     simp only [Dt.dep,depS] at this ⊢
     lia
    have s1 := sz_app (w := "rows") (l := [.tup (gs.map prD)]) (us := l.drop 1) (by decide +kernel) (fun v hv => by obtain rfl := List.mem_singleton.mp hv; exact ⟨.tup zin.1 zin.2,zd⟩) (fun v hv => szl v (List.mem_of_mem_drop hv)) (by rw [List.length_drop]; show 1 + (l.length - 1) ≤ 20; lia)
    exact ⟨s1.1,by lia,rw_item List.mem_cons_self (rec_no (ht_prs gs))⟩
  ·rw [decide_eq_false (by lia)]
   refine iteF ?_
   refine goal_name fun gg hgg => ?_
   obtain ⟨np,ys,ds,e2,i2,bd,l1,l2⟩ := od
   refine hgg ?_
   clear hgg gg
   exact key _ _ ⟨v1,p3,rfl,But.same SA,rA,hA,npA,np,ys,ds,e2,i2,bd,l1,by lia⟩
theorem rc_parts {a c : Nat} {l : List Dt} {e : Dt} (h : FK a c (.tup [.str "record",.tup l])) (hv : FV (.tup [.str "record",.tup l]) e) : ∃ fs gs : List (Str × Dt),l = fs.map prD ∧ e = .tup [.str "record",.tup (gs.map prD)] ∧ gs.map (·.1) = fs.map (·.1) ∧ fs.length ≤ 8 ∧ (fs.map (·.1)).Pairwise ltS ∧ (∀ f ∈ fs,f.1 ≠ "zzzzzzzz") ∧ (∀ g ∈ gs,g.1.length ≤ 8 ∧ Sz g.2 ∧ g.2.dep + 3 ≤ 3 * a) ∧ ∀ (i : Nat) (f g : Str × Dt),fs[i]? = some f → gs[i]? = some g → f.1 = g.1 ∧ FV f.2 g.2 ∧ ∃ a' ct',a' < a ∧ FK a' ct' f.2 := by
 generalize hd : Dt.tup [.str "record",.tup l] = d at h hv
 cases h with
 | text i _ _ => simp at hd
 | choice ws _ _ =>
  injection hd with h1
  injection h1 with h1 _
  injection h1 with h1
  exact absurd h1 (by decide)
 | number _ _ _ _ _ => simp at hd
 | list _ _ _ => simp at hd
 | rows _ _ _ _ => simp at hd
 | @rcd ks hg hs hn h8 =>
  have el : l = (ks.map nk).map prD := by
   have e1 : l = ks.map prG := by simpa using hd
   rw [e1,List.map_map]
   rfl
  have e2 : ks.map prG = (ks.map nk).map prD := by rw [List.map_map]; rfl
  rw [e2] at hv
  obtain ⟨gs,rfl,hnm,hv⟩ := fv_rcd hv
  have en : (ks.map nk).map (·.1) = ks.map (·.1) := by rw [List.map_map]; rfl
  have each : ∀ (i : Nat) (f g : Str × Dt),(ks.map nk)[i]? = some f → gs[i]? = some g → f.1 = g.1 ∧ ∃ k ∈ ks,f = nk k := fun i f g hf hgi => by
   refine ⟨?_,?_⟩
   ·have q1 : (gs.map (·.1))[i]? = some g.1 := by rw [List.getElem?_map,hgi]; rfl
    rw [hnm,List.getElem?_map,hf] at q1
    exact Option.some.inj q1
   ·obtain ⟨k,hk,e⟩ := List.mem_map.mp (List.mem_of_getElem? hf)
    exact ⟨k,hk,e.symm⟩
  refine ⟨ks.map nk,gs,el,rfl,hnm,by rw [List.length_map]; exact h8,by rw [en]; exact hs,fun f hf => ?_,fun g hgm => ?_,fun i f g hf hgi => ?_⟩
  ·obtain ⟨k,hk,rfl⟩ := List.mem_map.mp hf
   exact (hn k hk).2
  ·obtain ⟨i,hi⟩ := List.getElem?_of_mem hgm
   have len : gs.length = (ks.map nk).length := by simpa using congrArg List.length hnm
   have il : i < (ks.map nk).length := by have := (List.getElem?_eq_some_iff.mp hi).1; lia
   have hf := List.getElem?_eq_getElem il
   obtain ⟨q1,k,hk,q2⟩ := each i _ _ hf hi
   have v1 := hv i _ _ hf hi
   rw [q2] at v1 q1
   have r1 := fv_sz (hg k hk) v1
   have mx : k.2.2.1 ≤ maxN (ks.map (·.2.2.1)) := le_max (List.mem_map.mpr ⟨_,hk,rfl⟩)
   have nl := (name_len (hn k hk).1).2
   refine ⟨?_,r1.1,by lia⟩
   rw [← q1]
   exact nl
  ·obtain ⟨q1,k,hk,q2⟩ := each i _ _ hf hgi
   have v1 := hv i _ _ hf hgi
   have mx : k.2.2.1 ≤ maxN (ks.map (·.2.2.1)) := le_max (List.mem_map.mpr ⟨_,hk,rfl⟩)
   refine ⟨q1,v1,k.2.2.1,k.2.2.2,by lia,?_⟩
   rw [q2]
   exact hg k hk
inductive I_sp_law_odd (K : PySem.W.Frag)   (vs : List V) (H : Hp) (Q : VK) : Prop
 | mk (r : Addr) (c : Int) (a ct : Nat) (d e : Dt) (x y : V) : (vs = [x,y,.ref r]) → (H r = some (.lst [.int c])) → (IsP K H d x) → (IsP K H e y) → (FK a ct d) → (a ≤ 5) → (FV d e) → (∀ (v : V) (e' : Dt) (c' : Int) (H' : Hp),But r H H' → H' r = some (.lst [.int c']) → IsP K H' e' v → Bad d e' → Q v H') → I_sp_law_odd K vs H Q
noncomputable def sp_law_odd (K : PySem.W.Frag) (_ : Ads)  : Sp := fun vs H Q _ => I_sp_law_odd K vs H Q
theorem ok_law_odd (T : Tx K mg ad) {f : Addr} {fd : FuncData} (F : Gn K mg "_law_odd" s_law_odd ["kind","value","row"] f fd) : FnOk P w K mg base CX0 3 f fd ["kind","value","row"] (sp_law_odd K ad) := by
 obtain ⟨f_law_odd_number,fd_law_odd_number,D_law_odd_number⟩ := T.law_odd_number
 have G_law_odd_number := ok_law_odd_number (P := P) (w := w) (base := base) T D_law_odd_number
 obtain ⟨f_law_odd_text,fd_law_odd_text,D_law_odd_text⟩ := T.law_odd_text
 have G_law_odd_text := ok_law_odd_text (P := P) (w := w) (base := base) T D_law_odd_text
 obtain ⟨f_law_odd_choice,fd_law_odd_choice,D_law_odd_choice⟩ := T.law_odd_choice
 have G_law_odd_choice := ok_law_odd_choice (P := P) (w := w) (base := base) T D_law_odd_choice
 obtain ⟨f_law_odd_list,fd_law_odd_list,D_law_odd_list⟩ := T.law_odd_list
 have G_law_odd_list := ok_law_odd_list (P := P) (w := w) (base := base) T D_law_odd_list
 obtain ⟨f_law_odd_record,fd_law_odd_record,D_law_odd_record⟩ := T.law_odd_record
 have G_law_odd_record := ok_law_odd_record (P := P) (w := w) (base := base) T D_law_odd_record
 obtain ⟨f_law_odd_rows,fd_law_odd_rows,D_law_odd_rows⟩ := T.law_odd_rows
 have G_law_odd_rows := ok_law_odd_rows (P := P) (w := w) (base := base) T D_law_odd_rows
 refine F.F.ok sc_law_odd (fun vs H Q E h => ?_) (fun cdv A outer s H vs Q E hr h => ?_)
 ·obtain ⟨r,c,a,ct,d,e,x,y,rfl,_⟩ := h
  rfl
 obtain ⟨r,c,a,ct,d,e,x,y,rfl,hr0,hx,hy,fk,ha,fv,q⟩ := h
 refine ⟨_,(@pss_cons _ _ _ _ _ (@ps_if _ _ _ _ _ _ _ _ (pt_cmpR op_eq (@pe_ix _ _ _ _ _ _ _ (ix_tupPN (K := K) rfl) (pv 0) pe_int (fun _ _ => rfl)) pe_str (nomark _)) (@pss_one _ _ _ (@ps_ret _ _ _ _ (pe_call G_law_odd_number (hr.mono (by first | decide | lia)) rfl D_law_odd_number.m D_law_odd_number.F.kp D_law_odd_number.b .nil pass0 (@pa_cons _ _ _ _ _ (pv 0) (@pa_cons _ _ _ _ _ (pv 2) pa_nil (by rfl)) (by rfl))))) pss_nil) (@pss_cons _ _ _ _ _ (@ps_if _ _ _ _ _ _ _ _ (pt_cmpR op_eq (@pe_ix _ _ _ _ _ _ _ (ix_tupPN (K := K) rfl) (pv 0) pe_int (fun _ _ => rfl)) pe_str (nomark _)) (@pss_one _ _ _ (@ps_ret _ _ _ _ (pe_call G_law_odd_text (hr.mono (by first | decide | lia)) rfl D_law_odd_text.m D_law_odd_text.F.kp D_law_odd_text.b .nil pass0 (@pa_cons _ _ _ _ _ (pv 0) (@pa_cons _ _ _ _ _ (pv 2) pa_nil (by rfl)) (by rfl))))) pss_nil) (@pss_cons _ _ _ _ _ (@ps_if _ _ _ _ _ _ _ _ (pt_cmpR op_eq (@pe_ix _ _ _ _ _ _ _ (ix_tupPN (K := K) rfl) (pv 0) pe_int (fun _ _ => rfl)) pe_str (nomark _)) (@pss_one _ _ _ (@ps_ret _ _ _ _ (pe_call G_law_odd_choice (hr.mono (by first | decide | lia)) rfl D_law_odd_choice.m D_law_odd_choice.F.kp D_law_odd_choice.b .nil pass0 (@pa_cons _ _ _ _ _ (pv 0) (@pa_cons _ _ _ _ _ (pv 2) pa_nil (by rfl)) (by rfl))))) pss_nil) (@pss_cons _ _ _ _ _ (@ps_if _ _ _ _ _ _ _ _ (pt_cmpR op_eq (@pe_ix _ _ _ _ _ _ _ (ix_tupPN (K := K) rfl) (pv 0) pe_int (fun _ _ => rfl)) pe_str (nomark _)) (@pss_one _ _ _ (@ps_ret _ _ _ _ (pe_call G_law_odd_list (hr.mono (by first | decide | lia)) rfl D_law_odd_list.m D_law_odd_list.F.kp D_law_odd_list.b .nil pass0 (@pa_cons _ _ _ _ _ (pv 0) (@pa_cons _ _ _ _ _ (pv 1) (@pa_cons _ _ _ _ _ (pv 2) pa_nil (by rfl)) (by rfl)) (by rfl))))) pss_nil) (@pss_cons _ _ _ _ _ (@ps_if _ _ _ _ _ _ _ _ (pt_cmpR op_eq (@pe_ix _ _ _ _ _ _ _ (ix_tupPN (K := K) rfl) (pv 0) pe_int (fun _ _ => rfl)) pe_str (nomark _)) (@pss_one _ _ _ (@ps_ret _ _ _ _ (pe_call G_law_odd_record (hr.mono (by first | decide | lia)) rfl D_law_odd_record.m D_law_odd_record.F.kp D_law_odd_record.b .nil pass0 (@pa_cons _ _ _ _ _ (pv 0) (@pa_cons _ _ _ _ _ (pv 1) (@pa_cons _ _ _ _ _ (pv 2) pa_nil (by rfl)) (by rfl)) (by rfl))))) pss_nil) (@pss_one _ _ _ (@ps_ret _ _ _ _ (pe_call G_law_odd_rows (hr.mono (by first | decide | lia)) rfl D_law_odd_rows.m D_law_odd_rows.F.kp D_law_odd_rows.b .nil pass0 (@pa_cons _ _ _ _ _ (pv 0) (@pa_cons _ _ _ _ _ (pv 1) (@pa_cons _ _ _ _ _ (pv 2) pa_nil (by rfl)) (by rfl)) (by rfl)))))))))),?_⟩
 cases fk with
 | number i j b1 b2 b3 =>
  refine if_yes rfl hx ?_
  exact ⟨_,rfl,_,rfl,r,c,i,j,x,rfl,hr0,hx,b1,b2,b3,q⟩
 | text i b1 b2 =>
  refine if_no rfl hx (by decide) ?_
  refine if_yes rfl hx ?_
  exact ⟨_,rfl,_,rfl,r,c,i,x,rfl,hr0,hx,b1,b2,q⟩
 | choice ws hw ho =>
  refine if_no rfl hx (by decide) ?_
  refine if_no rfl hx (by decide) ?_
  refine if_yes rfl hx ?_
  exact ⟨_,rfl,_,rfl,r,c,ws,x,rfl,hr0,hx,hw,ho,q⟩
 | @list a' c' k i g b1 b2 =>
  refine if_no rfl hx (by decide) ?_
  refine if_no rfl hx (by decide) ?_
  refine if_no rfl hx (by decide) ?_
  refine if_yes rfl hx ?_
  cases fv with
  | @list _ _ vs hvs hl => exact ⟨_,rfl,_,rfl,_,rfl,r,c,a',c',k,i,vs,x,y,rfl,hr0,hx,hy,g,by lia,b1,b2,hvs,hl,q⟩
 | @rows a' c' z l i g kl b1 b2 =>
  refine if_no rfl hx (by decide) ?_
  refine if_no rfl hx (by decide) ?_
  refine if_no rfl hx (by decide) ?_
  refine if_no rfl hx (by decide) ?_
  refine if_no rfl hx (by decide) ?_
  cases fv with
  | @rows _ _ _ vs hvs hl asc =>
   refine ⟨_,rfl,_,rfl,_,rfl,r,c,z,l,vs,i,x,y,rfl,hr0,hy,fun v hv => ?_,by lia,b2,asc,q⟩
   refine goal_name fun gg hgg => ?_
   obtain ⟨fs,gs,_,rfl,hnm,f8,_⟩ := rc_parts g (hvs v hv)
   refine hgg ?_
   clear hgg gg
   have s1 := fv_sz g (hvs _ hv)
   have len : gs.length = fs.length := by simpa using congrArg List.length hnm
   exact ⟨s1.1,by lia,gs,by lia,rfl⟩
 | @rcd ks hg hs hn h8 =>
  refine if_no rfl hx (by decide) ?_
  refine if_no rfl hx (by decide) ?_
  refine if_no rfl hx (by decide) ?_
  refine if_no rfl hx (by decide) ?_
  refine if_yes rfl hx ?_
  refine goal_name fun gg hgg => ?_
  obtain ⟨fs,gs,el,rfl,hnm,f8,asc,nz,small,_⟩ := rc_parts (.rcd hg hs hn h8) fv
  refine hgg ?_
  clear hgg gg
  rw [el] at hx q
  exact ⟨_,rfl,_,rfl,_,rfl,r,c,fs,gs,x,y,rfl,hr0,hx,hy,hnm,f8,asc,nz,fun g hgm => ⟨(small g hgm).1,(small g hgm).2.1,by have := (small g hgm).2.2; lia⟩,q⟩
theorem fk_word {a c : Nat} {d : Dt} (h : FK a c d) : ∃ (z : Str) (l : List Dt),d = .tup (.str z :: l) ∧ (inV (V.str z) [V.str "number",V.str "text",V.str "choice"] = true ∨ (inV (V.str z) [V.str "number",V.str "text",V.str "choice"] = false ∧ ((z = "record" ∧ ∃ l',l = [.tup l']) ∨ (z = "list" ∧ ∃ k i a' c',a' < a ∧ FK a' c' k ∧ l = [k,.int i]) ∨ (z = "rows" ∧ ∃ y k i a' c',a' < a ∧ FK a' c' k ∧ l = [.str y,k,.int i])))) := by
 cases h with
 | text i _ _ => exact ⟨_,_,rfl,.inl (by decide +kernel)⟩
 | choice ws _ _ => exact ⟨_,_,rfl,.inl (by decide +kernel)⟩
 | number _ _ _ _ _ => exact ⟨_,_,rfl,.inl (by decide +kernel)⟩
 | list hk _ _ => exact ⟨_,_,rfl,.inr ⟨by decide +kernel,.inr (.inl ⟨rfl,_,_,_,_,Nat.lt_succ_self _,hk,rfl⟩)⟩⟩
 | rows hk _ _ _ => exact ⟨_,_,rfl,.inr ⟨by decide +kernel,.inr (.inr ⟨rfl,_,_,_,_,_,Nat.lt_succ_self _,hk,rfl⟩)⟩⟩
 | rcd _ _ _ _ => exact ⟨_,_,rfl,.inr ⟨by decide +kernel,.inl ⟨rfl,_,rfl⟩⟩⟩
theorem fv_parts {a c : Nat} {z : Str} {l : List Dt} {e : Dt} (h : FK a c (.tup (.str z :: l))) (hn : inV (V.str z) [V.str "number",V.str "text",V.str "choice"] = false) (hv : FV (.tup (.str z :: l)) e) : ∃ vs,e = .tup [.str z,.tup vs] ∧ vs.length ≤ 8 := by
 generalize hd : Dt.tup (.str z :: l) = d at h hv
 cases h with
 | text i _ _ =>
  obtain rfl : z = "text" := by simp at hd; exact hd.1
  exact absurd hn (by decide +kernel)
 | choice ws _ _ =>
  obtain rfl : z = "choice" := by simp at hd; exact hd.1
  exact absurd hn (by decide +kernel)
 | number _ _ _ _ _ =>
  obtain rfl : z = "number" := by simp at hd; exact hd.1
  exact absurd hn (by decide +kernel)
 | list _ _ _ =>
  obtain rfl : z = "list" := by simp at hd; exact hd.1
  cases hv with
  | list hvs hl => exact ⟨_,rfl,by lia⟩
 | rows _ _ _ _ =>
  obtain rfl : z = "rows" := by simp at hd; exact hd.1
  cases hv with
  | rows hvs hl _ => exact ⟨_,rfl,by lia⟩
 | rcd hg hs hn' h8 =>
  obtain rfl : z = "record" := by simp at hd; exact hd.1
  obtain ⟨fs,gs,_,rfl,hnm,f8,_⟩ := rc_parts (.rcd hg hs hn' h8) hv
  have len : gs.length = fs.length := by simpa using congrArg List.length hnm
  exact ⟨_,rfl,by rw [List.length_map]; lia⟩
theorem set_sz {w : Str} {vs : List Dt} {j : Nat} {u : Dt} {B : Nat} (hw : w.length ≤ 100) (h : ∀ v ∈ vs,Sz v ∧ v.dep ≤ B) (hl : vs.length ≤ 8) (su : Sz u) (du : u.dep ≤ B) : Sz (.tup [.str w,.tup (vs.set j u)]) ∧ (Dt.tup [.str w,.tup (vs.set j u)]).dep ≤ B + 2 := by
 have e : ∀ v ∈ vs.set j u,Sz v ∧ v.dep ≤ B := fun v hv => (List.mem_or_eq_of_mem_set hv).elim (h v) fun e => e ▸ ⟨su,du⟩
 exact ⟨sz_pair hw (fun x hx => (e x hx).1) (by rw [List.length_set]; lia),dep_pair fun x hx => (e x hx).2⟩
theorem isPs_set {K : PySem.W.Frag} {H : Hp} {e : Dt} {u : V} : ∀ {l : List Dt} {xs : List V},IsPs K H l xs → IsP K H e u → ∀ j,IsPs K H (l.set j e) (xs.set j u)
 | _,_,.nil,_,_ => .nil
 | _,_,.cons _ q,hu,0 => .cons hu q
 | _,_,.cons h q,hu,j + 1 => .cons h (isPs_set q hu j)
noncomputable def Fin (K : PySem.W.Frag) (H H8 : Hp) (x y : V) (r p5 : Addr) (j : Nat) (xs : List V) (z : Str) (vs l : List Dt) (a : Nat) (u : V) : Prop := ∃ c' xs' es',([some x,some y,some (.ref r),some (.ref p5),some (.int (j : Int))] : L2.St) = [some x,some y,some (.ref r),some (.ref p5),some (.int j)] ∧ But r H (upd H8 p5 (.lst (xs.set j u))) ∧ (upd H8 p5 (.lst (xs.set j u))) r = some (.lst [.int c']) ∧ (upd H8 p5 (.lst (xs.set j u))) p5 = some (.lst xs') ∧ IsPs K (upd H8 p5 (.lst (xs.set j u))) es' xs' ∧ IsP K (upd H8 p5 (.lst (xs.set j u))) (.tup [.str z,.tup vs]) y ∧ Sz (.tup [.str z,.tup es']) ∧ (Dt.tup [.str z,.tup es']).dep ≤ 30 + 3 * a ∧ ∀ m,ofN m (.tup (.str z :: l)) (.tup [.str z,.tup es']) = false
inductive I_sspoilt (K : PySem.W.Frag) (n : Nat)  (vs : List V) (H : Hp) (Q : VK) : Prop
 | mk (r : Addr) (c : Int) (a ct : Nat) (d e : Dt) (x y : V) : (a ≤ n) → (a ≤ 5) → (vs = [x,y,.ref r]) → (H r = some (.lst [.int c])) → (IsP K H d x) → (IsP K H e y) → (FK a ct d) → (FV d e) → (∀ (v : V) (e' : Dt) (c' : Int) (H' : Hp),But r H H' → H' r = some (.lst [.int c']) → IsP K H' e' v → Sz e' → e'.dep ≤ 30 + 3 * a → (∀ m,ofN m d e' = false) → Q v H') → I_sspoilt K n vs H Q
noncomputable def sspoilt (K : PySem.W.Frag) (n : Nat)  : Sp := fun vs H Q _ => I_sspoilt K n vs H Q
theorem ok_law_spoilt (T : Tx K mg ad) {f : Addr} {fd : FuncData} (n : Nat) (F : Gn K mg "_law_spoilt" s_law_spoilt ["kind","value","row"] f fd) (G_law_spoilt : FnOk P w K mg base CX0 (n + 4) f fd ["kind","value","row"] (sspoilt K n)) : FnOk P w K mg base CX0 (n + 4 + 1) f fd ["kind","value","row"] (sspoilt K (n + 1)) := by
 obtain ⟨f_law_odd,fd_law_odd,D_law_odd⟩ := T.law_odd
 have G_law_odd := ok_law_odd (P := P) (w := w) (base := base) T D_law_odd
 obtain ⟨f_law_digit,fd_law_digit,D_law_digit⟩ := T.law_digit
 have G_law_digit := ok_law_digit (P := P) (w := w) (base := base) T D_law_digit
 have D_law_spoilt := F
 refine F.F.ok sc_law_spoilt (fun vs H Q E h => ?_) (fun cdv A outer s H vs Q E hr h => ?_)
 ·obtain ⟨r,c,a,ct,d,e,x,y,_,_,rfl,_⟩ := h
  rfl
 obtain ⟨r,c,a,ct,d,e,x,y,han,ha,rfl,hr0,hx,hy,fk,fv,q⟩ := h
 refine ⟨_,(@pss_cons _ _ _ _ _ (@ps_if _ _ _ _ _ _ _ _ (PW.pt (@pw_or _ _ _ _ _ _ _ (pt_cmpR op_eq (pe_call G_law_digit (hr.mono (by first | decide | lia)) rfl D_law_digit.m D_law_digit.F.kp D_law_digit.b .nil pass0 (@pa_cons _ _ _ _ _ (pv 2) (@pa_cons _ _ _ _ _ pe_int pa_nil (by rfl)) (by rfl))) pe_int (nomark _)) (@pw_or _ _ _ _ _ _ _ (pt_cmpR (op_in_seqK (K := K) rfl) (@pe_ix _ _ _ _ _ _ _ (ix_tupPN (K := K) rfl) (pv 0) pe_int (fun _ _ => rfl)) (@pe_lst _ _ _ _ (@pa_cons _ _ _ _ _ pe_str (@pa_cons _ _ _ _ _ pe_str (@pa_cons _ _ _ _ _ pe_str pa_nil (by rfl)) (by rfl)) (by rfl))) rfl) (@pw_or1 _ _ _ _ (pt_cmpR op_eq (pe_callB (call_lenDN (K := K) rfl) rfl T.z_len PySem.boot_len (@pa_cons _ _ _ _ _ (@pe_ix _ _ _ _ _ _ _ (ix_tupPN (K := K) rfl) (pv 1) pe_int (fun _ _ => rfl)) pa_nil (by rfl))) pe_int (nomark _)))))) (@pss_one _ _ _ (@ps_ret _ _ _ _ (pe_call G_law_odd (hr.mono (by first | decide | lia)) rfl D_law_odd.m D_law_odd.F.kp D_law_odd.b .nil pass0 (@pa_cons _ _ _ _ _ (pv 0) (@pa_cons _ _ _ _ _ (pv 1) (@pa_cons _ _ _ _ _ (pv 2) pa_nil (by rfl)) (by rfl)) (by rfl))))) pss_nil) (@pss_cons _ _ _ _ _ (@ps_set _ _ 3 _ _ _ _ sc_law_spoilt.nd rfl (Or.inl rfl) (pe_callTy (call_list_ofN (K := K) rfl) rfl T.z_list boot_list (@pa_cons _ _ _ _ _ (@pe_ix _ _ _ _ _ _ _ (ix_tupPN (K := K) rfl) (pv 1) pe_int (fun _ _ => rfl)) pa_nil (by rfl))) (by rfl) (by first | exact .inl rfl | exact .inr rfl | assumption)) (@pss_cons _ _ _ _ _ (@ps_set _ _ 4 _ _ _ _ sc_law_spoilt.nd rfl (Or.inl rfl) (pe_call G_law_digit (hr.mono (by first | decide | lia)) rfl D_law_digit.m D_law_digit.F.kp D_law_digit.b .nil pass0 (@pa_cons _ _ _ _ _ (pv 2) (@pa_cons _ _ _ _ _ (pe_callB (call_len_seqN (K := K) rfl) rfl T.z_len PySem.boot_len (@pa_cons _ _ _ _ _ (pv 3) pa_nil (by rfl))) pa_nil (by rfl)) (by rfl))) (by rfl) (by first | exact .inl rfl | exact .inr rfl | assumption)) (@pss_cons _ _ _ _ _ (@ps_if _ _ _ _ _ _ _ _ (pt_cmpR op_eq (@pe_ix _ _ _ _ _ _ _ (ix_tupPN (K := K) rfl) (pv 0) pe_int (fun _ _ => rfl)) pe_str (nomark _)) (@pss_one _ _ _ (ps_asg (@pe_tupPK _ K _ _ _ _ rfl (@pa_cons _ _ _ _ _ (@pe_ix _ _ _ _ _ _ _ (ix_tupPN (K := K) rfl) (@pe_ix _ _ _ _ _ _ _ (ix_listK (K := K) rfl) (pv 3) (pv 4) (fun _ _ => rfl)) pe_int (fun _ _ => rfl)) (@pa_cons _ _ _ _ _ (pe_call G_law_spoilt (hr.mono (by first | decide | lia)) rfl D_law_spoilt.m D_law_spoilt.F.kp D_law_spoilt.b .nil pass0 (@pa_cons _ _ _ _ _ (@pe_ix _ _ _ _ _ _ _ (ix_tupPN (K := K) rfl) (@pe_ix _ _ _ _ _ _ _ (ix_tupPN (K := K) rfl) (@pe_ix _ _ _ _ _ _ _ (ix_tupPN (K := K) rfl) (pv 0) pe_int (fun _ _ => rfl)) (pv 4) (fun _ _ => rfl)) pe_int (fun _ _ => rfl)) (@pa_cons _ _ _ _ _ (@pe_ix _ _ _ _ _ _ _ (ix_tupPN (K := K) rfl) (@pe_ix _ _ _ _ _ _ _ (ix_listK (K := K) rfl) (pv 3) (pv 4) (fun _ _ => rfl)) pe_int (fun _ _ => rfl)) (@pa_cons _ _ _ _ _ (pv 2) pa_nil (by rfl)) (by rfl)) (by rfl))) pa_nil (by rfl)) (by rfl))) (pg_sub (pv 3) (pv 4) set_list))) (@pss_one _ _ _ (@ps_if _ _ _ _ _ _ _ _ (pt_cmpR op_eq (@pe_ix _ _ _ _ _ _ _ (ix_tupPN (K := K) rfl) (pv 0) pe_int (fun _ _ => rfl)) pe_str (nomark _)) (@pss_one _ _ _ (ps_asg (pe_call G_law_spoilt (hr.mono (by first | decide | lia)) rfl D_law_spoilt.m D_law_spoilt.F.kp D_law_spoilt.b .nil pass0 (@pa_cons _ _ _ _ _ (@pe_ix _ _ _ _ _ _ _ (ix_tupPN (K := K) rfl) (pv 0) pe_int (fun _ _ => rfl)) (@pa_cons _ _ _ _ _ (@pe_ix _ _ _ _ _ _ _ (ix_listK (K := K) rfl) (pv 3) (pv 4) (fun _ _ => rfl)) (@pa_cons _ _ _ _ _ (pv 2) pa_nil (by rfl)) (by rfl)) (by rfl))) (pg_sub (pv 3) (pv 4) set_list))) (@pss_one _ _ _ (ps_asg (pe_call G_law_spoilt (hr.mono (by first | decide | lia)) rfl D_law_spoilt.m D_law_spoilt.F.kp D_law_spoilt.b .nil pass0 (@pa_cons _ _ _ _ _ (@pe_ix _ _ _ _ _ _ _ (ix_tupPN (K := K) rfl) (pv 0) pe_int (fun _ _ => rfl)) (@pa_cons _ _ _ _ _ (@pe_ix _ _ _ _ _ _ _ (ix_listK (K := K) rfl) (pv 3) (pv 4) (fun _ _ => rfl)) (@pa_cons _ _ _ _ _ (pv 2) pa_nil (by rfl)) (by rfl)) (by rfl))) (pg_sub (pv 3) (pv 4) set_list)))))) (@pss_one _ _ _ (@ps_ret _ _ _ _ (@pe_tupPK _ K _ _ _ _ rfl (@pa_cons _ _ _ _ _ (@pe_ix _ _ _ _ _ _ _ (ix_tupPN (K := K) rfl) (pv 1) pe_int (fun _ _ => rfl)) (@pa_cons _ _ _ _ _ (pe_callTy (call_tuplePN (K := K) rfl) rfl T.z_tuple boot_tuple (@pa_cons _ _ _ _ _ (pv 3) pa_nil (by rfl))) pa_nil (by rfl)) (by rfl))))))))),?_⟩
 have b1 := But.put (H := H) (r := r) (o := .lst [.int (c / 4)])
 have r1 : (upd H r (.lst [.int (c / 4)])) r = some (.lst [.int (c / 4)]) := upd_same
 have hx1 := hx.but hr0 b1
 have hy1 := hy.but hr0 b1
 have qo : ∀ (v : V) (e' : Dt) (c' : Int) (H' : Hp),But r (upd H r (.lst [.int (c / 4)])) H' → H' r = some (.lst [.int c']) → IsP K H' e' v → Bad d e' → Q v H' := fun v e' c' H' b k1 k2 bad => q v e' c' H' (b1.trans b) k1 k2 bad.1 (by have := bad.2.1; lia) bad.2.2
 refine ⟨_,rfl,r,c,4,rfl,hr0,by decide,by decide,rfl,_,rfl,ite2 (fun c1 => iteT ?odd) (fun c1 => ?_)⟩
 case odd => exact ⟨_,rfl,_,rfl,_,rfl,r,c / 4,a,ct,d,e,x,y,rfl,r1,hx1,hy1,fk,ha,fv,qo⟩
 generalize upd H r (.lst [.int (c / 4)]) = H1 at b1 r1 hx1 hy1 qo ⊢
 refine goal_name fun gg hgg => ?_
 obtain ⟨z,l,rfl,hz⟩ := fk_word fk
 refine hgg ?_
 clear hgg gg
 refine s_ix rfl hx1 (at0 _ _) fun v hv => ?_
 obtain rfl := isStrV hv
 refine ⟨(by show 3 ≤ sizeLine; decide),fun p4 hp4 => ?_⟩
 have g4 := same_new hp4 (.lst [.str "number",.str "text",.str "choice"])
 have B4 := b1.trans (But.same g4)
 have r4 := g4 _ _ r1
 have hx4 := hx1.same g4
 have hy4 := hy1.same g4
 replace qo : ∀ (v : V) (e' : Dt) (c' : Int) (H' : Hp),But r (upd H1 p4 (.lst [.str "number",.str "text",.str "choice"])) H' → H' r = some (.lst [.int c']) → IsP K H' e' v → Bad (.tup (.str z :: l)) e' → Q v H' := fun v e' c' H' b k1 k2 bad => qo v e' c' H' ((But.same g4).trans b) k1 k2 bad
 refine ⟨p4,_,rfl,.inl (SqL.of upd_same),rfl,rfl,?_⟩
 refine show _ from ?_
 generalize upd H1 p4 (.lst [.str "number",.str "text",.str "choice"]) = H2 at B4 r4 hx4 hy4 qo ⊢
 rcases hz with hz | ⟨hz,hz'⟩
 ·rw [hz]
  exact ⟨_,rfl,iteT (iteT ⟨_,rfl,_,rfl,_,rfl,r,c / 4,a,ct,_,e,x,y,rfl,r4,hx4,hy4,fk,ha,fv,qo⟩)⟩
 rw [hz]
 refine ⟨_,rfl,iteF ?_⟩
 refine goal_name fun gg hgg => ?_
 obtain ⟨vs,rfl,v8⟩ := fv_parts fk hz fv
 refine hgg ?_
 clear hgg gg
 refine ⟨_,rfl,_,_,_,hy4,rfl,rfl,fun v hv => ⟨v,_,rfl,hv.d,rfl,_,rfl,ite2 (fun c3 => ?odd) (fun c3 => ?_)⟩⟩
 case odd => exact ⟨_,rfl,_,rfl,_,rfl,r,c / 4,a,ct,_,_,x,y,rfl,r4,hx4,hy4,fk,ha,fv,qo⟩
 have h0 : 0 < vs.length := by
  have : ¬ (((vs.length : Nat) : Int)) = 0 := fun h => c3 (decide_eq_true (by rw [h]))
  lia
 refine s_ix rfl hy4 rfl fun v2 hv2 => ?_
 refine goal_name fun gg hgg => ?_
 obtain ⟨b,xs,rfl,hb,pb,rb⟩ := hv2.unref
 refine hgg ?_
 clear hgg gg
 have el : xs.length = vs.length := rb.length.symm
 refine ⟨b,xs,rfl,.inr hb,fun p5 hp5 => ?_⟩
 have g5 := same_new hp5 (.lst xs)
 have e5 : (upd H2 p5 (.lst xs)) p5 = some (.lst xs) := upd_same
 have np5 : p5 ≠ r := fun c => by rw [c,r4] at hp5; cases hp5
 have hp5' : H p5 = none := but_free B4 r4 hp5
 have r5 := g5 _ _ r4
 have hx5 := hx4.same g5
 have hy5 := hy4.same g5
 have rb5 := rb.same g5
 have B5 := B4.trans (But.same g5)
 generalize upd H2 p5 (.lst xs) = H3 at g5 e5 r5 hx5 hy5 rb5 B5 ⊢
 obtain ⟨m0,m1⟩ := mod_lt (c / 4) (m := ((xs.length : Nat) : Int)) (by lia)
 refine ⟨_,rfl,_,rfl,p5,_,rfl,.inl (SqL.of e5),r,c / 4,_,rfl,r5,by lia,by lia,?_⟩
 obtain ⟨j,ej⟩ : ∃ j : Nat,(c / 4) % ((xs.length : Nat) : Int) = (j : Int) := ⟨_,(Int.toNat_of_nonneg m0).symm⟩
 rw [ej] at m1 ⊢
 have b6 := But.put (H := H3) (r := r) (o := .lst [.int (c / 4 / ((xs.length : Nat) : Int))])
 have r6 : (upd H3 r (.lst [.int (c / 4 / ((xs.length : Nat) : Int))])) r = _ := upd_same
 have e6 := b6 _ _ np5 e5
 have hx6 := hx5.but r5 b6
 have hy6 := hy5.but r5 b6
 have rb6 := rb5.but r5 b6
 have B6 := B5.trans b6
 generalize c / 4 / ((xs.length : Nat) : Int) = c6 at b6 r6 e6 hx6 hy6 rb6 B6 ⊢
 generalize upd H3 r (.lst [.int c6]) = H4 at b6 r6 e6 hx6 hy6 rb6 B6 ⊢
 have fz := fv_sz fk fv
 have szv := sz_in fz.1
 have dpv := dep_in fz.2
 refine join2 (fun σ' H' => ∃ c' xs' es',σ' = [some x,some y,some (.ref r),some (.ref p5),some (.int j)] ∧ But r H H' ∧ H' r = some (.lst [.int c']) ∧ H' p5 = some (.lst xs') ∧ IsPs K H' es' xs' ∧ IsP K H' (.tup [.str z,.tup vs]) y ∧ Sz (.tup [.str z,.tup es']) ∧ (Dt.tup [.str z,.tup es']).dep ≤ 30 + 3 * a ∧ ∀ m,ofN m (.tup (.str z :: l)) (.tup [.str z,.tup es']) = false) ?_ ?_
 ·intro s9_ H' hI9
  refine goal_name fun gg hgg => ?_
  obtain ⟨c',xs',es',rfl,B7,r7,e7,i7,hy7,s7,d7,no⟩ := hI9
  refine hgg ?_
  clear hgg gg
  refine s_ix rfl hy7 rfl fun v hv => ?_
  obtain rfl := isStrV hv
  refine ⟨_,rfl,p5,_,_,rfl,SqL.of e7,i7,fun v2 H8 g8 hv8 => ?_⟩
  refine ⟨[.str z,.tup es'],.cons .str (.cons hv8 .nil),(by show 2 ≤ sizeLine; decide),fun v3 H9 g9 hv9 => ?_⟩
  exact q v3 _ c' H9 (B7.trans (But.same (g8.trans g9))) ((g8.trans g9) _ _ r7) hv9 s7 d7 no
 ·intro key
  have jv : j < vs.length := by lia
  have atx : xs[j]? = some xs[j] := List.getElem?_eq_getElem (by lia)
  refine goal_name fun gg hgg => ?_
  obtain ⟨dj,hdj,hpj⟩ := rb6.get' atx
  refine hgg ?_
  clear hgg gg
  have aj : atI xs (j : Int) = some xs[j] := atI_nat atx
  have ixj : ixN xs.length (j : Int) = some j := by
   unfold ixN
   rw [if_pos (by lia),if_pos (by lia)]
   simp
  have mj : dj ∈ vs := List.mem_of_getElem? hdj
  refine s_ix rfl hx6 (at0 _ _) fun v hv => ?_
  obtain rfl := isStrV hv
  have fin : ∀ (H8 : Hp) (u : V) (eu : Dt) (c8 : Int),But r H4 H8 → H8 r = some (.lst [.int c8]) → IsP K H8 eu u → Sz eu → eu.dep ≤ 30 + 3 * a - 2 → 3 ≤ a + 2 → (∀ m,ofN m (.tup (.str z :: l)) (.tup [.str z,.tup (vs.set j eu)]) = false) → Fin K H H8 x y r p5 j xs z vs l a u := fun H8 u eu c8 b8 r8 hu su du _ no => by
   have e8 := b8 _ _ np5 e6
   have b9 := But.put (H := H8) (r := p5) (o := .lst (xs.set j u))
   have zz : z.length ≤ 100 := by
    cases fz.1 with
    | tup h1 _ =>
     cases h1 _ List.mem_cons_self with
     | str _ hz => exact hz
   have ss := set_sz (w := z) (j := j) (B := 30 + 3 * a - 2) zz (fun v hv => ⟨szv.1 v hv,by have := dpv v hv; lia⟩) v8 su du
   exact ⟨c8,xs.set j u,vs.set j eu,rfl,fun b o ne ha => b9 _ _ (fun c => by rw [c,hp5'] at ha; cases ha) ((B6.trans b8) _ _ ne ha),b9 _ _ (Ne.symm np5) r8,upd_same,(isPs_set (rb6.but r6 b8) hu j).but e8 b9,(hy6.but r6 b8).but e8 b9,ss.1,by have := ss.2; lia,no⟩
  have mset : ∀ eu : Dt,eu ∈ vs.set j eu := fun eu => List.mem_of_getElem? (i := j) (by rw [List.getElem?_set_self jv])
  have h3 : 3 ≤ a + 2 := by have := fk.pos; lia
  rcases hz' with ⟨rfl,l',rfl⟩ | ⟨rfl,k,i,a',c',ha',fk',rfl⟩ | ⟨rfl,y',k,i,a',c',ha',fk',rfl⟩
  ·refine ⟨rfl,_,rfl,iteY ?_⟩
   refine goal_name fun gg hgg => ?_
   obtain ⟨fs,gs,rfl,ev,hnm,f8,_,_,_,each⟩ := rc_parts fk fv
   refine hgg ?_
   clear hgg gg
   obtain rfl : vs = gs.map prD := by simpa using ev
   have jg : j < gs.length := by rw [List.length_map] at jv; exact jv
   have lf : gs.length = fs.length := by simpa using congrArg List.length hnm
   have jf : j < fs.length := by lia
   refine goal_name fun gg hgg => ?_
   obtain ⟨en,fvj,a',c',ha',fk'⟩ := each j fs[j] gs[j] (List.getElem?_eq_getElem jf) (List.getElem?_eq_getElem jg)
   refine hgg ?_
   clear hgg gg
   have hdj' : (gs.map prD)[j]? = some (prD gs[j]) := by rw [List.getElem?_map,List.getElem?_eq_getElem jg]; rfl
   obtain rfl : dj = prD gs[j] := by rw [hdj] at hdj'; exact Option.some.inj hdj'
   have atf : atI (fs.map prD) (j : Int) = some (prD fs[j]) := atI_nat (by rw [List.getElem?_map,List.getElem?_eq_getElem jf]; rfl)
   refine ⟨_,rfl,_,rfl,p5,_,_,_,rfl,rfl,SqL.of e6,aj,?_⟩
   refine ⟨_,_,_,hpj,rfl,rfl,fun w1 hw1 => ?_⟩
   obtain rfl := isStrV hw1
   refine s_ix rfl hx6 rfl fun k1 hk1 => ?_
   refine ⟨_,rfl,_,_,_,hk1,rfl,atf,fun k2 hk2 => ?_⟩
   refine ⟨_,_,_,hk2,rfl,rfl,fun k3 hk3 => ?_⟩
   refine ⟨_,rfl,_,rfl,p5,_,_,_,rfl,rfl,SqL.of e6,aj,?_⟩
   refine ⟨_,_,_,hpj,rfl,rfl,fun w2 hw2 => ?_⟩
   refine ⟨_,rfl,r,c6,a',c',fs[j].2,gs[j].2,k3,w2,by lia,by lia,rfl,r6,hk3,hw2,fk',fvj,fun u eu c8 H8 b8 r8 hu su du no => ?_⟩
   refine ⟨[.str gs[j].1,eu],.cons .str (.cons hu .nil),(by show 2 ≤ sizeLine; decide),fun u9 H9 g9 hu9 => ?_⟩
   refine ⟨_,rfl,_,rfl,p5,xs,_,j,rfl,rfl,g9 _ _ (b8 _ _ np5 e6),ixj,?_⟩
   refine key _ _ (fin H9 u9 (.tup [.str gs[j].1,eu]) c8 (b8.trans (But.same g9)) (g9 _ _ r8) hu9 (sz2 (sz_str ?_) su) ?_ h3 ?_)
   ·cases szv.1 _ mj with
    | tup h1 _ =>
     cases h1 _ List.mem_cons_self with
     | str _ hz => exact hz
   ·simp only [Dt.dep,depS]
    lia
   ·refine rc_item (i := j) (e := .tup [.str gs[j].1,eu]) (f := prD fs[j]) (by rw [List.getElem?_set_self jv]) (by rw [List.getElem?_map,List.getElem?_eq_getElem jf]; rfl) fun m => ?_
    show (eqD (.str gs[j].1) (.str fs[j].1) && ofN m fs[j].2 eu) = false
    rw [no m,Bool.and_false]
  ·refine ⟨rfl,_,rfl,iteN (strNe (by decide)) ?_⟩
   refine if_yes rfl hx6 ?_
   refine s_ix rfl hx6 rfl fun k1 hk1 => ?_
   refine ⟨_,rfl,_,rfl,p5,_,_,_,rfl,rfl,SqL.of e6,aj,?_⟩
   have fvj : FV k dj := by
    cases fv with
    | list hvs hl => exact hvs dj mj
   refine ⟨_,rfl,r,c6,a',c',k,dj,k1,xs[j],by lia,by lia,rfl,r6,hk1,hpj,fk',fvj,fun u eu c8 H8 b8 r8 hu su du no => ?_⟩
   refine ⟨_,rfl,_,rfl,p5,xs,_,j,rfl,rfl,b8 _ _ np5 e6,ixj,?_⟩
   exact key _ _ (fin H8 u eu c8 b8 r8 hu su (by lia) h3 (ls_item (mset eu) no))
  ·refine ⟨rfl,_,rfl,iteN (strNe (by decide)) ?_⟩
   refine if_no rfl hx6 (by decide) ?_
   refine s_ix rfl hx6 rfl fun k1 hk1 => ?_
   refine ⟨_,rfl,_,rfl,p5,_,_,_,rfl,rfl,SqL.of e6,aj,?_⟩
   have fvj : FV k dj := by
    cases fv with
    | rows hvs hl _ => exact hvs dj mj
   refine ⟨_,rfl,r,c6,a',c',k,dj,k1,xs[j],by lia,by lia,rfl,r6,hk1,hpj,fk',fvj,fun u eu c8 H8 b8 r8 hu su du no => ?_⟩
   refine ⟨_,rfl,_,rfl,p5,xs,_,j,rfl,rfl,b8 _ _ np5 e6,ixj,?_⟩
   exact key _ _ (fin H8 u eu c8 b8 r8 hu su (by lia) h3 (rw_item (mset eu) no))
theorem spoilt_all (T : Tx K mg ad) {f : Addr} {fd : FuncData} (F : Gn K mg "_law_spoilt" s_law_spoilt ["kind","value","row"] f fd) : ∀ n,FnOk P w K mg base CX0 (n + 4) f fd ["kind","value","row"] (sspoilt K n)
 | 0 => fn_none fun vs H Q E z => by
  obtain ⟨_,_,a,_,_,_,_,_,h,_,_,_,_,_,g,_⟩ := z
  have := g.pos
  lia
 | n + 1 => ok_law_spoilt T n F (spoilt_all T F n)
inductive I_sp_made_value (K : PySem.W.Frag) (ad : Ads)  (vs : List V) (H : Hp) (Q : VK) (E : XK) : Prop
 | mk (a ct : Nat) (d e : Dt) (x y : V) : (a ≤ 5) → (vs = [y,x]) → (IsP K H d x) → (IsP K H e y) → (FK a ct d) → (Sz e) → (e.dep ≤ 55) → ((∀ n,ofN n d e = false)) → (∀ H',Same H H' → E (.ref ad.BadValue) none H') → I_sp_made_value K ad vs H Q E
noncomputable def sp_made_value (K : PySem.W.Frag) (ad : Ads)  : Sp := fun vs H Q E => I_sp_made_value K ad vs H Q E
theorem ok_made_value (T : Tx K mg ad) {f : Addr} {fd : FuncData} (F : Gn K mg "made_value" s_made_value ["value","kind"] f fd) : FnOk P w K mg base (CXE P w) 19 f fd ["value","kind"] (sp_made_value K ad) := by
 obtain ⟨f_is_of,fd_is_of,D_is_of⟩ := T.is_of
 obtain ⟨f4,d4,D4⟩ := T.holds_items
 obtain ⟨f5,d5,D5⟩ := T.is_record_of
 obtain ⟨f6,d6,D6⟩ := T.is_pair_of
 have G_is_of := isof_all (P := P) (w := w) (base := base) T D_is_of D4 D5 D6 5
 refine F.F.okE sc_made_value (fun vs H Q E h => ?_) (fun cdv A outer s H vs Q E hr h => ?_)
 ·obtain ⟨a,ct,d,e,x,y,_,rfl,_⟩ := h
  rfl
 obtain ⟨a,ct,d,e,x,y,ha,rfl,hd,he,fk,sz,dp,no,q⟩ := h
 refine ⟨_,(@pss_cons _ _ _ _ _ (@ps_if _ _ _ _ _ _ _ _ (@pt_not _ _ _ _ (@pt_val _ _ _ (pe_call G_is_of (hr.mono (by first | decide | lia)) rfl D_is_of.m D_is_of.F.kp D_is_of.b .nil pass0 (@pa_cons _ _ _ _ _ (pv 0) (@pa_cons _ _ _ _ _ (pv 1) pa_nil (by rfl)) (by rfl))) (by intro _; rfl))) (@pss_one _ _ _ (ps_raise xeOf rfl rfl rfl rfl T.x_BadValue rfl (@pa_cons _ _ _ _ _ pe_str pa_nil (by rfl)))) pss_nil) (@pss_one _ _ _ (@ps_ret _ _ _ _ (pv 0)))),?_⟩
 refine ⟨_,rfl,_,rfl,a,ct,d,e,x,y,ha,rfl,hd,he,fk,sz,dp,fun H1 g1 => ⟨_,rfl,?_⟩⟩
 rw [no 5]
 exact iteT ⟨(by show 1 ≤ sizeLine; decide),q H1 g1⟩
inductive I_sp_law_refused (K : PySem.W.Frag)   (vs : List V) (H : Hp) (Q : VK) : Prop
 | mk (a ct : Nat) (d e : Dt) (x y : V) : (a ≤ 5) → (vs = [y,x]) → (IsP K H d x) → (IsP K H e y) → (FK a ct d) → (Sz e) → (e.dep ≤ 55) → ((∀ n,ofN n d e = false)) → (∀ H',Same H H' → Q (.bl true) H') → I_sp_law_refused K vs H Q
noncomputable def sp_law_refused (K : PySem.W.Frag) (_ : Ads)  : Sp := fun vs H Q _ => I_sp_law_refused K vs H Q
theorem ok_law_refused (T : Tx K mg ad) {f : Addr} {fd : FuncData} (F : Gn K mg "_law_refused" s_law_refused ["value","kind"] f fd) : FnOk P w K mg base CX0 20 f fd ["value","kind"] (sp_law_refused K ad) := by
 obtain ⟨f_made_value,fd_made_value,D_made_value⟩ := T.made_value
 have G_made_value := ok_made_value (P := P) (w := w) (base := base) T D_made_value
 refine F.F.ok sc_law_refused (fun vs H Q E h => ?_) (fun cdv A outer s H vs Q E hr h => ?_)
 ·obtain ⟨a,ct,d,e,x,y,_,rfl,_⟩ := h
  rfl
 obtain ⟨a,ct,d,e,x,y,ha,rfl,hd,he,fk,sz,dp,no,q⟩ := h
 refine ⟨_,(@pss_cons _ _ _ _ _ (@ps_set _ _ 2 _ _ _ _ sc_law_refused.nd rfl (Or.inl rfl) pe_bl (by rfl) (by first | exact .inl rfl | exact .inr rfl | assumption)) (@pss_cons _ _ _ _ _ (ps_try1 (i := 3) rfl rfl (px_call G_made_value (hr.mono (by first | decide | lia)) rfl D_made_value.m D_made_value.F.kp D_made_value.b (@pa_cons _ _ _ _ _ (pv 0) (@pa_cons _ _ _ _ _ (pv 1) pa_nil (by rfl)) (by rfl))) T.x_HandError.m rfl sc_law_refused.nd rfl rfl (fun _ => (@pss_one _ _ _ (@ps_set _ _ 2 _ _ _ _ sc_law_refused.nd rfl (Or.inl rfl) (pe_and (pe_callB (call_isxH (K := K) rfl) rfl T.z_isinstance boot_isinstance (@pa_cons _ _ _ _ _ (pv 3) (@pa_cons _ _ _ _ _ (pe_gref rfl T.x_BadValue.m) pa_nil (by rfl)) (by rfl))) (pe_and (pe_callB (call_isxTH (K := K) rfl) rfl T.z_isinstance boot_isinstance (@pa_cons _ _ _ _ _ (pv 3) (@pa_cons _ _ _ _ _ (pe_gty rfl T.z_ValueError bootVE) pa_nil (by rfl)) (by rfl))) (pe_one (pe_not (pe_callB (call_isxH (K := K) rfl) rfl T.z_isinstance boot_isinstance (@pa_cons _ _ _ _ _ (pv 3) (@pa_cons _ _ _ _ _ (pe_gref rfl T.x_BadKind.m) pa_nil (by rfl)) (by rfl))))))) (by rfl) (by first | exact .inl rfl | exact .inr rfl | assumption))))) (@pss_one _ _ _ (@ps_ret _ _ _ _ (pv 2))))),?_⟩
 have kk := T.kits
 simp only [Bool.and_eq_true] at kk
 refine goal_name fun gg hgg => ?_
 obtain ⟨⟨k1,k2⟩,k3⟩ := kk
 refine hgg ?_
 clear hgg gg
 have X := T.x_BadValue.k
 refine ⟨_,rfl,_,rfl,a,ct,d,e,x,y,ha,rfl,hd,he,fk,sz,dp,no,fun H1 g1 => ⟨ad.BadValue,rfl,T.exk,fun ea hea => ?_⟩⟩
 have he' := upd_same (H := H1) (a := ea) (o := xO ea ad.BadValue)
 refine ⟨_,rfl,ea,_,_,_,rfl,he',X,beq_iff_eq.mp k1,_,rfl,iteT ⟨_,rfl,ea,_,_,_,rfl,he',X,beq_iff_eq.mp k2,_,rfl,iteT ⟨_,rfl,ea,_,_,_,rfl,he',X,beq_iff_eq.mp k3,_,rfl,?_⟩⟩⟩
 exact ⟨_,rfl,q _ (g1.trans (same_new hea (xO ea ad.BadValue)))⟩
theorem ok_law (T : Tx K mg ad) {f : Addr} {fd : FuncData} (F : Gn K mg "law" s_law ["script"] f fd) : FnOk P w K mg base CX0 depth f fd ["script"] (sp_law K ad) := by
 obtain ⟨f_law_own,fd_law_own,D_law_own⟩ := T.law_own
 have G_law_own := ok_law_own (P := P) (w := w) (base := base) T D_law_own
 obtain ⟨f_law_kind,fd_law_kind,D_law_kind⟩ := T.law_kind
 obtain ⟨f1,d1,D1⟩ := T.law_record_kind
 obtain ⟨f2,d2,D2⟩ := T.law_rows_kind
 have G_law_kind := kinds_all (P := P) (w := w) (base := base) T D_law_kind D1 D2 5
 obtain ⟨f_law_value,fd_law_value,D_law_value⟩ := T.law_value
 obtain ⟨f3,d3,D3⟩ := T.law_row_values
 have G_law_value := vals_all (P := P) (w := w) (base := base) T D_law_value D3
 obtain ⟨f_law_spoilt,fd_law_spoilt,D_law_spoilt⟩ := T.law_spoilt
 have G_law_spoilt := spoilt_all (P := P) (w := w) (base := base) T D_law_spoilt 5
 obtain ⟨f_is_of,fd_is_of,D_is_of⟩ := T.is_of
 obtain ⟨f4,d4,D4⟩ := T.holds_items
 obtain ⟨f5,d5,D5⟩ := T.is_record_of
 obtain ⟨f6,d6,D6⟩ := T.is_pair_of
 have G_is_of := isof_all (P := P) (w := w) (base := base) T D_is_of D4 D5 D6 5
 obtain ⟨f_law_refused,fd_law_refused,D_law_refused⟩ := T.law_refused
 have G_law_refused := ok_law_refused (P := P) (w := w) (base := base) T D_law_refused
 refine F.F.ok sc_law (fun vs H Q E h => ?_) (fun cdv A outer s H vs Q E hr h => ?_)
 ·obtain ⟨a,ns,rfl,_⟩ := h
  rfl
 obtain ⟨a,ns,rfl,hs,h63,q⟩ := h
 refine ⟨_,(@pss_cons _ _ _ _ _ (ps_for PassesOwn.never rfl (pi_range1 rfl T.z_range (@pa_cons _ _ _ _ _ (pe_callB (call_min2 rfl) rfl T.z_min boot_min (@pa_cons _ _ _ _ _ pe_int (@pa_cons _ _ _ _ _ (@pe_op _ _ _ _ _ _ _ _ op_add pe_int (pe_callB (call_len_seqN (K := K) rfl) rfl T.z_len PySem.boot_len (@pa_cons _ _ _ _ _ (pv 0) pa_nil (by rfl)))) pa_nil (by rfl)) (by rfl))) pa_nil (by rfl))) (pg_name (i := 1) sc_law.nd rfl (Or.inl rfl))
    (@pss_cons _ _ _ _ _ (@ps_set _ _ 2 _ _ _ _ sc_law.nd rfl (Or.inl rfl) (pe_call G_law_own (hr.mono (by first | decide | lia)) rfl D_law_own.m D_law_own.F.kp D_law_own.b .nil pass0 (@pa_cons _ _ _ _ _ (pv 0) (@pa_cons _ _ _ _ _ (pv 1) pa_nil (by rfl)) (by rfl))) (by rfl) (by first | exact .inl rfl | exact .inr rfl | assumption)) (@pss_one _ _ _ (ps_for PassesOwn.never rfl (pi_range1 rfl T.z_range (@pa_cons _ _ _ _ _ pe_int pa_nil (by rfl))) (pg_name (i := 3) sc_law.nd rfl (Or.inl rfl))
    (@pss_cons _ _ _ _ _ (@ps_set _ _ 4 _ _ _ _ sc_law.nd rfl (Or.inl rfl) (pe_call G_law_kind (hr.mono (by first | decide | lia)) rfl D_law_kind.m D_law_kind.F.kp D_law_kind.b .nil pass0 (@pa_cons _ _ _ _ _ (pv 2) (@pa_cons _ _ _ _ _ pe_int (@pa_cons _ _ _ _ _ (@pe_lst _ _ _ _ (@pa_cons _ _ _ _ _ pe_int pa_nil (by rfl))) pa_nil (by rfl)) (by rfl)) (by rfl))) (by rfl) (by first | exact .inl rfl | exact .inr rfl | assumption)) (@pss_cons _ _ _ _ _ (@ps_set _ _ 5 _ _ _ _ sc_law.nd rfl (Or.inl rfl) (pe_call G_law_value (hr.mono (by first | decide | lia)) rfl D_law_value.m D_law_value.F.kp D_law_value.b .nil pass0 (@pa_cons _ _ _ _ _ (pv 2) (@pa_cons _ _ _ _ _ (pv 4) pa_nil (by rfl)) (by rfl))) (by rfl) (by first | exact .inl rfl | exact .inr rfl | assumption)) (@pss_cons _ _ _ _ _ (@ps_set _ _ 6 _ _ _ _ sc_law.nd rfl (Or.inl rfl) (pe_call G_law_spoilt (hr.mono (by first | decide | lia)) rfl D_law_spoilt.m D_law_spoilt.F.kp D_law_spoilt.b .nil pass0 (@pa_cons _ _ _ _ _ (pv 4) (@pa_cons _ _ _ _ _ (pv 5) (@pa_cons _ _ _ _ _ (pv 2) pa_nil (by rfl)) (by rfl)) (by rfl))) (by rfl) (by first | exact .inl rfl | exact .inr rfl | assumption)) (@pss_one _ _ _ (@ps_if _ _ _ _ _ _ _ _ (PW.pt (@pw_or _ _ _ _ _ _ _ (pt_cmpR op_isnot_bl (pe_call G_is_of (hr.mono (by first | decide | lia)) rfl D_is_of.m D_is_of.F.kp D_is_of.b .nil pass0 (@pa_cons _ _ _ _ _ (pv 6) (@pa_cons _ _ _ _ _ (pv 4) pa_nil (by rfl)) (by rfl))) pe_bl (nomark _)) (@pw_or _ _ _ _ _ _ _ (@pt_not _ _ _ _ (@pt_val _ _ _ (pe_call G_law_refused (hr.mono (by first | decide | lia)) rfl D_law_refused.m D_law_refused.F.kp D_law_refused.b .nil pass0 (@pa_cons _ _ _ _ _ (pv 6) (@pa_cons _ _ _ _ _ (pv 4) pa_nil (by rfl)) (by rfl))) (by intro _; rfl))) (@pw_or1 _ _ _ _ (pt_cmpR op_isnot_bl (pe_call G_is_of (hr.mono (by first | decide | lia)) rfl D_is_of.m D_is_of.F.kp D_is_of.b .nil pass0 (@pa_cons _ _ _ _ _ (pv 5) (@pa_cons _ _ _ _ _ (pv 4) pa_nil (by rfl)) (by rfl))) pe_bl (nomark _)))))) (@pss_one _ _ _ (@ps_ret _ _ _ _ pe_bl)) pss_nil))))))))) (@pss_one _ _ _ (@ps_ret _ _ _ _ pe_bl))),?_⟩
 have lns : (ns.map V.int).length = ns.length := List.length_map ..
 refine ⟨_,rfl,a,_,rfl,.inl hs,_,_,rfl,rfl,_,_,rfl,?_⟩
 rw [lns]
 generalize hJ : (if (1 + ((ns.length : Nat) : Int)) < 12 then (1 + ((ns.length : Nat) : Int)) else 12) = J
 have J1 : 0 ≤ J ∧ J ≤ 12 := by rw [← hJ]; split <;> lia
 refine ⟨J,rfl,by lia,by lia,for_range (lo := 0) (n := J.toNat) (fun i σ H' => Same H H' ∧ ∃ v1 v2 v3 v4 v5 v6,σ = [some (.ref a),v1,v2,v3,v4,v5,v6]) ⟨Same.refl H,_,_,_,_,_,_,rfl⟩ ?_ ?_⟩
 ·intro i σ H1 hi hI9
  refine goal_name fun gg hgg => ?_
  obtain ⟨g1,v1,v2,v3,v4,v5,v6,rfl⟩ := hI9
  refine hgg ?_
  clear hgg gg
  refine ⟨_,rfl,_,rfl,a,ns,i,(by show [V.ref a,V.int (0 + (i : Int))] = _; rw [Int.zero_add]),g1.seq hs,h63,by lia,fun r c H2 hr2 g2 e2 => ?_⟩
  have hrH : H r = none := g1.free hr2
  refine ⟨6,rfl,by decide,by decide,for_range (lo := 0) (n := (6 : Int).toNat) (fun j σ H' => ∃ c',But r H2 H' ∧ H' r = some (.lst [.int c']) ∧ ∃ v3 v4 v5 v6,σ = [some (.ref a),some (.int (0 + i)),some (.ref r),v3,v4,v5,v6]) ⟨c,But.refl _ _,e2,_,_,_,_,rfl⟩ ?_ ?_⟩
  ·intro j σ H3 hj hI9
   refine goal_name fun gg hgg => ?_
   obtain ⟨c3,b3,r3,w3,w4,w5,w6,rfl⟩ := hI9
   refine hgg ?_
   clear hgg gg
   refine ⟨_,rfl,(by show 1 ≤ sizeLine; decide),fun p1 hp1 => ?_⟩
   have nr1 : r ≠ p1 := ne_of_none r3 hp1
   have g3 := same_new hp1 (.lst [.int 30])
   refine ⟨r,p1,c3,30,5,by decide,by decide,rfl,nr1,g3 _ _ r3,upd_same,fun vk dk ak ck n4 x4 H4 b4 r4 p4 hvk fkk hak hck => ?_⟩
   have B4 : But r H3 H4 := fun x o n e => b4 x o n (ne_of_none e hp1) (g3 _ _ e)
   refine ⟨_,rfl,_,rfl,r,n4,ak,ck,dk,vk,hak,rfl,r4,hvk,fkk,fun vv e c5 H5 b5 r5 hvv fv => ?_⟩
   have hvk5 := hvk.but r4 b5
   refine ⟨_,rfl,_,rfl,_,rfl,r,c5,ak,ck,dk,e,vk,vv,hak,hak,rfl,r5,hvk5,hvv,fkk,fv,fun vo eo c6 H6 b6 r6 hvo szo dpo no => ?_⟩
   have hvk6 := hvk5.but r5 b6
   have hvv6 := hvv.but r5 b6
   refine ⟨_,rfl,_,rfl,ak,ck,dk,eo,vk,vo,hak,rfl,hvk6,hvo,fkk,szo,by lia,fun H7 g7 => ?_⟩
   rw [no 5]
   refine ⟨_,_,rfl,rfl,_,rfl,iteF ?_⟩
   refine ⟨_,rfl,_,rfl,ak,ck,dk,eo,vk,vo,hak,rfl,hvk6.same g7,hvo.same g7,fkk,szo,by lia,no,fun H8 g8 => ?_⟩
   refine ⟨_,rfl,iteF ?_⟩
   have fz := fv_sz fkk fv
   refine ⟨_,rfl,_,rfl,ak,ck,dk,e,vk,vv,hak,rfl,(hvk6.same g7).same g8,(hvv6.same g7).same g8,fkk,fz.1,by have := fz.2; lia,fun H9 g9 => ?_⟩
   rw [fv_of fkk fv 5 hak]
   refine ⟨_,_,rfl,rfl,_,rfl,iteF ?_⟩
   have SZ := (g7.trans g8).trans g9
   exact ⟨c6,(((b3.trans B4).trans b5).trans b6).trans (But.same SZ),SZ _ _ r6,_,_,_,_,rfl⟩
  ·intro σ H3 hI9
   refine goal_name fun gg hgg => ?_
   obtain ⟨c3,b3,r3,w3,w4,w5,w6,rfl⟩ := hI9
   refine hgg ?_
   clear hgg gg
   exact ⟨fun x o e => b3 x o (ne_of_none e hrH) (g2 _ _ (g1 _ _ e)),_,_,_,_,_,_,rfl⟩
 ·intro σ H1 hI9
  refine goal_name fun gg hgg => ?_
  obtain ⟨g1,v1,v2,v3,v4,v5,v6,rfl⟩ := hI9
  refine hgg ?_
  clear hgg gg
  exact q H1
end
@[elab_as_elim] theorem of_len0 {α : Type} {p : List α → Prop} {us : List α} (hl : us.length = 0) (h : p []) : p us := by
 cases us with
 | nil => exact h
 | cons a r => cases hl
@[elab_as_elim] theorem of_len1 {α : Type} {p : List α → Prop} {us : List α} (hl : us.length = 1) (h : ∀ x0,p [x0]) : p us := by
 cases us with
 | nil => cases hl
 | cons a r => exact of_len0 (p := fun r => p (a :: r)) (Nat.succ.inj hl) (h a)
@[elab_as_elim] theorem of_len2 {α : Type} {p : List α → Prop} {us : List α} (hl : us.length = 2) (h : ∀ x0 x1,p [x0,x1]) : p us := by
 cases us with
 | nil => cases hl
 | cons a r => exact of_len1 (p := fun r => p (a :: r)) (Nat.succ.inj hl) (h a)
@[elab_as_elim] theorem of_len3 {α : Type} {p : List α → Prop} {us : List α} (hl : us.length = 3) (h : ∀ x0 x1 x2,p [x0,x1,x2]) : p us := by
 cases us with
 | nil => cases hl
 | cons a r => exact of_len2 (p := fun r => p (a :: r)) (Nat.succ.inj hl) (h a)
@[elab_as_elim] theorem of_len4 {α : Type} {p : List α → Prop} {us : List α} (hl : us.length = 4) (h : ∀ x0 x1 x2 x3,p [x0,x1,x2,x3]) : p us := by
 cases us with
 | nil => cases hl
 | cons a r => exact of_len3 (p := fun r => p (a :: r)) (Nat.succ.inj hl) (h a)
theorem tx_mk {K : PySem.W.Frag} {h : Heap} {mg : Str → Option Value} (X : K.In h) (G : h.Ns mainGlobals mg)
  {f0 : Addr} {od0 an0 : Option Addr} {sl0 : Array (Option Value)} {oc0 kV0 dc0 pm0 cd0 ct0 : Value}
  {f1 : Addr} {od1 an1 : Option Addr} {sl1 : Array (Option Value)} {oc1 kV1 dc1 pm1 cd1 ct1 : Value}
  {f2 : Addr} {od2 an2 : Option Addr} {sl2 : Array (Option Value)} {oc2 kV2 dc2 pm2 cd2 ct2 : Value}
  {f3 : Addr} {od3 an3 : Option Addr} {sl3 : Array (Option Value)} {oc3 kV3 dc3 pm3 cd3 ct3 : Value}
  {f4 : Addr} {od4 an4 : Option Addr} {sl4 : Array (Option Value)} {oc4 kV4 dc4 pm4 cd4 ct4 : Value}
  {f5 : Addr} {od5 an5 : Option Addr} {sl5 : Array (Option Value)} {oc5 kV5 dc5 pm5 cd5 ct5 : Value}
  {f6 : Addr} {od6 an6 : Option Addr} {sl6 : Array (Option Value)} {oc6 kV6 dc6 pm6 cd6 ct6 : Value}
  {f7 : Addr} {od7 an7 : Option Addr} {sl7 : Array (Option Value)} {oc7 kV7 dc7 pm7 cd7 ct7 : Value}
  {f8 : Addr} {od8 an8 : Option Addr} {sl8 : Array (Option Value)} {oc8 kV8 dc8 pm8 cd8 ct8 : Value}
  {f9 : Addr} {od9 an9 : Option Addr} {sl9 : Array (Option Value)} {oc9 kV9 dc9 pm9 cd9 ct9 : Value}
  {f10 : Addr} {od10 an10 : Option Addr} {sl10 : Array (Option Value)} {oc10 kV10 dc10 pm10 cd10 ct10 : Value}
  {f11 : Addr} {od11 an11 : Option Addr} {sl11 : Array (Option Value)} {oc11 kV11 dc11 pm11 cd11 ct11 : Value}
  {f12 : Addr} {od12 an12 : Option Addr} {sl12 : Array (Option Value)} {oc12 kV12 dc12 pm12 cd12 ct12 : Value}
  {f13 : Addr} {od13 an13 : Option Addr} {sl13 : Array (Option Value)} {oc13 kV13 dc13 pm13 cd13 ct13 : Value}
  {f14 : Addr} {od14 an14 : Option Addr} {sl14 : Array (Option Value)} {oc14 kV14 dc14 pm14 cd14 ct14 : Value}
  {f15 : Addr} {od15 an15 : Option Addr} {sl15 : Array (Option Value)} {oc15 kV15 dc15 pm15 cd15 ct15 : Value}
  {f16 : Addr} {od16 an16 : Option Addr} {sl16 : Array (Option Value)} {oc16 kV16 dc16 pm16 cd16 ct16 : Value}
  {f17 : Addr} {od17 an17 : Option Addr} {sl17 : Array (Option Value)} {oc17 kV17 dc17 pm17 cd17 ct17 : Value}
  {f18 : Addr} {od18 an18 : Option Addr} {sl18 : Array (Option Value)} {oc18 kV18 dc18 pm18 cd18 ct18 : Value}
  {f19 : Addr} {od19 an19 : Option Addr} {sl19 : Array (Option Value)} {oc19 kV19 dc19 pm19 cd19 ct19 : Value}
  {f20 : Addr} {od20 an20 : Option Addr} {sl20 : Array (Option Value)} {oc20 kV20 dc20 pm20 cd20 ct20 : Value}
  {f21 : Addr} {od21 an21 : Option Addr} {sl21 : Array (Option Value)} {oc21 kV21 dc21 pm21 cd21 ct21 : Value}
  {f22 : Addr} {od22 an22 : Option Addr} {sl22 : Array (Option Value)} {oc22 kV22 dc22 pm22 cd22 ct22 : Value}
  {f23 : Addr} {od23 an23 : Option Addr} {sl23 : Array (Option Value)} {oc23 kV23 dc23 pm23 cd23 ct23 : Value}
  {f24 : Addr} {od24 an24 : Option Addr} {sl24 : Array (Option Value)} {oc24 kV24 dc24 pm24 cd24 ct24 : Value}
  {f25 : Addr} {od25 an25 : Option Addr} {sl25 : Array (Option Value)} {oc25 kV25 dc25 pm25 cd25 ct25 : Value}
  {f26 : Addr} {od26 an26 : Option Addr} {sl26 : Array (Option Value)} {oc26 kV26 dc26 pm26 cd26 ct26 : Value}
  {f27 : Addr} {od27 an27 : Option Addr} {sl27 : Array (Option Value)} {oc27 kV27 dc27 pm27 cd27 ct27 : Value}
  {f28 : Addr} {od28 an28 : Option Addr} {sl28 : Array (Option Value)} {oc28 kV28 dc28 pm28 cd28 ct28 : Value}
  {f29 : Addr} {od29 an29 : Option Addr} {sl29 : Array (Option Value)} {oc29 kV29 dc29 pm29 cd29 ct29 : Value}
  {f30 : Addr} {od30 an30 : Option Addr} {sl30 : Array (Option Value)} {oc30 kV30 dc30 pm30 cd30 ct30 : Value}
  {f31 : Addr} {od31 an31 : Option Addr} {sl31 : Array (Option Value)} {oc31 kV31 dc31 pm31 cd31 ct31 : Value}
  {f32 : Addr} {od32 an32 : Option Addr} {sl32 : Array (Option Value)} {oc32 kV32 dc32 pm32 cd32 ct32 : Value}
  {f33 : Addr} {od33 an33 : Option Addr} {sl33 : Array (Option Value)} {oc33 kV33 dc33 pm33 cd33 ct33 : Value}
  {f34 : Addr} {od34 an34 : Option Addr} {sl34 : Array (Option Value)} {oc34 kV34 dc34 pm34 cd34 ct34 : Value}
  {f35 : Addr} {od35 an35 : Option Addr} {sl35 : Array (Option Value)} {oc35 kV35 dc35 pm35 cd35 ct35 : Value}
  {C_HandError : Addr} {cdx0 : ClassData}
  {C_BadKind : Addr} {cdx1 : ClassData}
  {C_BadValue : Addr} {cdx2 : ClassData}
  {tk0 : Tok}
  (a0 : PySem.W.nsIn K mainGlobals "is_whole" = some (some (.ref f0))) (l0 : K.lookup f0 = some ⟨oc0,od0,.func (PySem.W.fnOf "is_whole" "is_whole" (defArgs s_is_whole) (defBody s_is_whole) (defScope s_is_whole) .none kV0 dc0 pm0 an0 cd0 ct0),sl0⟩) (c0 : PySem.W.codeIn K cd0 "is_whole" = true) (k0 : PySem.W.keepIn K (.ref f0) = true)
  (a1 : PySem.W.nsIn K mainGlobals "is_whole_within" = some (some (.ref f1))) (l1 : K.lookup f1 = some ⟨oc1,od1,.func (PySem.W.fnOf "is_whole_within" "is_whole_within" (defArgs s_is_whole_within) (defBody s_is_whole_within) (defScope s_is_whole_within) .none kV1 dc1 pm1 an1 cd1 ct1),sl1⟩) (c1 : PySem.W.codeIn K cd1 "is_whole_within" = true) (k1 : PySem.W.keepIn K (.ref f1) = true)
  (a2 : PySem.W.nsIn K mainGlobals "is_sign" = some (some (.ref f2))) (l2 : K.lookup f2 = some ⟨oc2,od2,.func (PySem.W.fnOf "is_sign" "is_sign" (defArgs s_is_sign) (defBody s_is_sign) (defScope s_is_sign) .none kV2 dc2 pm2 an2 cd2 ct2),sl2⟩) (c2 : PySem.W.codeIn K cd2 "is_sign" = true) (k2 : PySem.W.keepIn K (.ref f2) = true)
  (a3 : PySem.W.nsIn K mainGlobals "is_of" = some (some (.ref f3))) (l3 : K.lookup f3 = some ⟨oc3,od3,.func (PySem.W.fnOf "is_of" "is_of" (defArgs s_is_of) (defBody s_is_of) (defScope s_is_of) .none kV3 dc3 pm3 an3 cd3 ct3),sl3⟩) (c3 : PySem.W.codeIn K cd3 "is_of" = true) (k3 : PySem.W.keepIn K (.ref f3) = true)
  (a4 : PySem.W.nsIn K mainGlobals "made_value" = some (some (.ref f4))) (l4 : K.lookup f4 = some ⟨oc4,od4,.func (PySem.W.fnOf "made_value" "made_value" (defArgs s_made_value) (defBody s_made_value) (defScope s_made_value) .none kV4 dc4 pm4 an4 cd4 ct4),sl4⟩) (c4 : PySem.W.codeIn K cd4 "made_value" = true) (k4 : PySem.W.keepIn K (.ref f4) = true)
  (a5 : PySem.W.nsIn K mainGlobals "is_text_of" = some (some (.ref f5))) (l5 : K.lookup f5 = some ⟨oc5,od5,.func (PySem.W.fnOf "is_text_of" "is_text_of" (defArgs s_is_text_of) (defBody s_is_text_of) (defScope s_is_text_of) .none kV5 dc5 pm5 an5 cd5 ct5),sl5⟩) (c5 : PySem.W.codeIn K cd5 "is_text_of" = true) (k5 : PySem.W.keepIn K (.ref f5) = true)
  (a6 : PySem.W.nsIn K mainGlobals "holds_tuple" = some (some (.ref f6))) (l6 : K.lookup f6 = some ⟨oc6,od6,.func (PySem.W.fnOf "holds_tuple" "holds_tuple" (defArgs s_holds_tuple) (defBody s_holds_tuple) (defScope s_holds_tuple) .none kV6 dc6 pm6 an6 cd6 ct6),sl6⟩) (c6 : PySem.W.codeIn K cd6 "holds_tuple" = true) (k6 : PySem.W.keepIn K (.ref f6) = true)
  (a7 : PySem.W.nsIn K mainGlobals "holds_items" = some (some (.ref f7))) (l7 : K.lookup f7 = some ⟨oc7,od7,.func (PySem.W.fnOf "holds_items" "holds_items" (defArgs s_holds_items) (defBody s_holds_items) (defScope s_holds_items) .none kV7 dc7 pm7 an7 cd7 ct7),sl7⟩) (c7 : PySem.W.codeIn K cd7 "holds_items" = true) (k7 : PySem.W.keepIn K (.ref f7) = true)
  (a8 : PySem.W.nsIn K mainGlobals "is_record_of" = some (some (.ref f8))) (l8 : K.lookup f8 = some ⟨oc8,od8,.func (PySem.W.fnOf "is_record_of" "is_record_of" (defArgs s_is_record_of) (defBody s_is_record_of) (defScope s_is_record_of) .none kV8 dc8 pm8 an8 cd8 ct8),sl8⟩) (c8 : PySem.W.codeIn K cd8 "is_record_of" = true) (k8 : PySem.W.keepIn K (.ref f8) = true)
  (a9 : PySem.W.nsIn K mainGlobals "is_pair_of" = some (some (.ref f9))) (l9 : K.lookup f9 = some ⟨oc9,od9,.func (PySem.W.fnOf "is_pair_of" "is_pair_of" (defArgs s_is_pair_of) (defBody s_is_pair_of) (defScope s_is_pair_of) .none kV9 dc9 pm9 an9 cd9 ct9),sl9⟩) (c9 : PySem.W.codeIn K cd9 "is_pair_of" = true) (k9 : PySem.W.keepIn K (.ref f9) = true)
  (a10 : PySem.W.nsIn K mainGlobals "are_keyed" = some (some (.ref f10))) (l10 : K.lookup f10 = some ⟨oc10,od10,.func (PySem.W.fnOf "are_keyed" "are_keyed" (defArgs s_are_keyed) (defBody s_are_keyed) (defScope s_are_keyed) .none kV10 dc10 pm10 an10 cd10 ct10),sl10⟩) (c10 : PySem.W.codeIn K cd10 "are_keyed" = true) (k10 : PySem.W.keepIn K (.ref f10) = true)
  (a11 : PySem.W.nsIn K mainGlobals "field_of" = some (some (.ref f11))) (l11 : K.lookup f11 = some ⟨oc11,od11,.func (PySem.W.fnOf "field_of" "field_of" (defArgs s_field_of) (defBody s_field_of) (defScope s_field_of) .none kV11 dc11 pm11 an11 cd11 ct11),sl11⟩) (c11 : PySem.W.codeIn K cd11 "field_of" = true) (k11 : PySem.W.keepIn K (.ref f11) = true)
  (a12 : PySem.W.nsIn K mainGlobals "_law_cell_at" = some (some (.ref f12))) (l12 : K.lookup f12 = some ⟨oc12,od12,.func (PySem.W.fnOf "_law_cell_at" "_law_cell_at" (defArgs s_law_cell_at) (defBody s_law_cell_at) (defScope s_law_cell_at) .none kV12 dc12 pm12 an12 cd12 ct12),sl12⟩) (c12 : PySem.W.codeIn K cd12 "_law_cell_at" = true) (k12 : PySem.W.keepIn K (.ref f12) = true)
  (a13 : PySem.W.nsIn K mainGlobals "_law_mixed" = some (some (.ref f13))) (l13 : K.lookup f13 = some ⟨oc13,od13,.func (PySem.W.fnOf "_law_mixed" "_law_mixed" (defArgs s_law_mixed) (defBody s_law_mixed) (defScope s_law_mixed) .none kV13 dc13 pm13 an13 cd13 ct13),sl13⟩) (c13 : PySem.W.codeIn K cd13 "_law_mixed" = true) (k13 : PySem.W.keepIn K (.ref f13) = true)
  (a14 : PySem.W.nsIn K mainGlobals "_law_own" = some (some (.ref f14))) (l14 : K.lookup f14 = some ⟨oc14,od14,.func (PySem.W.fnOf "_law_own" "_law_own" (defArgs s_law_own) (defBody s_law_own) (defScope s_law_own) .none kV14 dc14 pm14 an14 cd14 ct14),sl14⟩) (c14 : PySem.W.codeIn K cd14 "_law_own" = true) (k14 : PySem.W.keepIn K (.ref f14) = true)
  (a15 : PySem.W.nsIn K mainGlobals "_law_digit" = some (some (.ref f15))) (l15 : K.lookup f15 = some ⟨oc15,od15,.func (PySem.W.fnOf "_law_digit" "_law_digit" (defArgs s_law_digit) (defBody s_law_digit) (defScope s_law_digit) .none kV15 dc15 pm15 an15 cd15 ct15),sl15⟩) (c15 : PySem.W.codeIn K cd15 "_law_digit" = true) (k15 : PySem.W.keepIn K (.ref f15) = true)
  (a16 : PySem.W.nsIn K mainGlobals "_law_names" = some (some (.ref f16))) (l16 : K.lookup f16 = some ⟨oc16,od16,.func (PySem.W.fnOf "_law_names" "_law_names" (defArgs s_law_names) (defBody s_law_names) (defScope s_law_names) .none kV16 dc16 pm16 an16 cd16 ct16),sl16⟩) (c16 : PySem.W.codeIn K cd16 "_law_names" = true) (k16 : PySem.W.keepIn K (.ref f16) = true)
  (a17 : PySem.W.nsIn K mainGlobals "_law_number_kind" = some (some (.ref f17))) (l17 : K.lookup f17 = some ⟨oc17,od17,.func (PySem.W.fnOf "_law_number_kind" "_law_number_kind" (defArgs s_law_number_kind) (defBody s_law_number_kind) (defScope s_law_number_kind) .none kV17 dc17 pm17 an17 cd17 ct17),sl17⟩) (c17 : PySem.W.codeIn K cd17 "_law_number_kind" = true) (k17 : PySem.W.keepIn K (.ref f17) = true)
  (a18 : PySem.W.nsIn K mainGlobals "_law_leaf_kind" = some (some (.ref f18))) (l18 : K.lookup f18 = some ⟨oc18,od18,.func (PySem.W.fnOf "_law_leaf_kind" "_law_leaf_kind" (defArgs s_law_leaf_kind) (defBody s_law_leaf_kind) (defScope s_law_leaf_kind) .none kV18 dc18 pm18 an18 cd18 ct18),sl18⟩) (c18 : PySem.W.codeIn K cd18 "_law_leaf_kind" = true) (k18 : PySem.W.keepIn K (.ref f18) = true)
  (a19 : PySem.W.nsIn K mainGlobals "_law_record_kind" = some (some (.ref f19))) (l19 : K.lookup f19 = some ⟨oc19,od19,.func (PySem.W.fnOf "_law_record_kind" "_law_record_kind" (defArgs s_law_record_kind) (defBody s_law_record_kind) (defScope s_law_record_kind) .none kV19 dc19 pm19 an19 cd19 ct19),sl19⟩) (c19 : PySem.W.codeIn K cd19 "_law_record_kind" = true) (k19 : PySem.W.keepIn K (.ref f19) = true)
  (a20 : PySem.W.nsIn K mainGlobals "_law_rows_kind" = some (some (.ref f20))) (l20 : K.lookup f20 = some ⟨oc20,od20,.func (PySem.W.fnOf "_law_rows_kind" "_law_rows_kind" (defArgs s_law_rows_kind) (defBody s_law_rows_kind) (defScope s_law_rows_kind) .none kV20 dc20 pm20 an20 cd20 ct20),sl20⟩) (c20 : PySem.W.codeIn K cd20 "_law_rows_kind" = true) (k20 : PySem.W.keepIn K (.ref f20) = true)
  (a21 : PySem.W.nsIn K mainGlobals "_law_kind" = some (some (.ref f21))) (l21 : K.lookup f21 = some ⟨oc21,od21,.func (PySem.W.fnOf "_law_kind" "_law_kind" (defArgs s_law_kind) (defBody s_law_kind) (defScope s_law_kind) .none kV21 dc21 pm21 an21 cd21 ct21),sl21⟩) (c21 : PySem.W.codeIn K cd21 "_law_kind" = true) (k21 : PySem.W.keepIn K (.ref f21) = true)
  (a22 : PySem.W.nsIn K mainGlobals "_law_text" = some (some (.ref f22))) (l22 : K.lookup f22 = some ⟨oc22,od22,.func (PySem.W.fnOf "_law_text" "_law_text" (defArgs s_law_text) (defBody s_law_text) (defScope s_law_text) .none kV22 dc22 pm22 an22 cd22 ct22),sl22⟩) (c22 : PySem.W.codeIn K cd22 "_law_text" = true) (k22 : PySem.W.keepIn K (.ref f22) = true)
  (a23 : PySem.W.nsIn K mainGlobals "_law_keys" = some (some (.ref f23))) (l23 : K.lookup f23 = some ⟨oc23,od23,.func (PySem.W.fnOf "_law_keys" "_law_keys" (defArgs s_law_keys) (defBody s_law_keys) (defScope s_law_keys) .none kV23 dc23 pm23 an23 cd23 ct23),sl23⟩) (c23 : PySem.W.codeIn K cd23 "_law_keys" = true) (k23 : PySem.W.keepIn K (.ref f23) = true)
  (a24 : PySem.W.nsIn K mainGlobals "_law_row_values" = some (some (.ref f24))) (l24 : K.lookup f24 = some ⟨oc24,od24,.func (PySem.W.fnOf "_law_row_values" "_law_row_values" (defArgs s_law_row_values) (defBody s_law_row_values) (defScope s_law_row_values) .none kV24 dc24 pm24 an24 cd24 ct24),sl24⟩) (c24 : PySem.W.codeIn K cd24 "_law_row_values" = true) (k24 : PySem.W.keepIn K (.ref f24) = true)
  (a25 : PySem.W.nsIn K mainGlobals "_law_value" = some (some (.ref f25))) (l25 : K.lookup f25 = some ⟨oc25,od25,.func (PySem.W.fnOf "_law_value" "_law_value" (defArgs s_law_value) (defBody s_law_value) (defScope s_law_value) .none kV25 dc25 pm25 an25 cd25 ct25),sl25⟩) (c25 : PySem.W.codeIn K cd25 "_law_value" = true) (k25 : PySem.W.keepIn K (.ref f25) = true)
  (a26 : PySem.W.nsIn K mainGlobals "_law_odd_number" = some (some (.ref f26))) (l26 : K.lookup f26 = some ⟨oc26,od26,.func (PySem.W.fnOf "_law_odd_number" "_law_odd_number" (defArgs s_law_odd_number) (defBody s_law_odd_number) (defScope s_law_odd_number) .none kV26 dc26 pm26 an26 cd26 ct26),sl26⟩) (c26 : PySem.W.codeIn K cd26 "_law_odd_number" = true) (k26 : PySem.W.keepIn K (.ref f26) = true)
  (a27 : PySem.W.nsIn K mainGlobals "_law_odd_text" = some (some (.ref f27))) (l27 : K.lookup f27 = some ⟨oc27,od27,.func (PySem.W.fnOf "_law_odd_text" "_law_odd_text" (defArgs s_law_odd_text) (defBody s_law_odd_text) (defScope s_law_odd_text) .none kV27 dc27 pm27 an27 cd27 ct27),sl27⟩) (c27 : PySem.W.codeIn K cd27 "_law_odd_text" = true) (k27 : PySem.W.keepIn K (.ref f27) = true)
  (a28 : PySem.W.nsIn K mainGlobals "_law_odd_choice" = some (some (.ref f28))) (l28 : K.lookup f28 = some ⟨oc28,od28,.func (PySem.W.fnOf "_law_odd_choice" "_law_odd_choice" (defArgs s_law_odd_choice) (defBody s_law_odd_choice) (defScope s_law_odd_choice) .none kV28 dc28 pm28 an28 cd28 ct28),sl28⟩) (c28 : PySem.W.codeIn K cd28 "_law_odd_choice" = true) (k28 : PySem.W.keepIn K (.ref f28) = true)
  (a29 : PySem.W.nsIn K mainGlobals "_law_odd_list" = some (some (.ref f29))) (l29 : K.lookup f29 = some ⟨oc29,od29,.func (PySem.W.fnOf "_law_odd_list" "_law_odd_list" (defArgs s_law_odd_list) (defBody s_law_odd_list) (defScope s_law_odd_list) .none kV29 dc29 pm29 an29 cd29 ct29),sl29⟩) (c29 : PySem.W.codeIn K cd29 "_law_odd_list" = true) (k29 : PySem.W.keepIn K (.ref f29) = true)
  (a30 : PySem.W.nsIn K mainGlobals "_law_odd_record" = some (some (.ref f30))) (l30 : K.lookup f30 = some ⟨oc30,od30,.func (PySem.W.fnOf "_law_odd_record" "_law_odd_record" (defArgs s_law_odd_record) (defBody s_law_odd_record) (defScope s_law_odd_record) .none kV30 dc30 pm30 an30 cd30 ct30),sl30⟩) (c30 : PySem.W.codeIn K cd30 "_law_odd_record" = true) (k30 : PySem.W.keepIn K (.ref f30) = true)
  (a31 : PySem.W.nsIn K mainGlobals "_law_odd_rows" = some (some (.ref f31))) (l31 : K.lookup f31 = some ⟨oc31,od31,.func (PySem.W.fnOf "_law_odd_rows" "_law_odd_rows" (defArgs s_law_odd_rows) (defBody s_law_odd_rows) (defScope s_law_odd_rows) .none kV31 dc31 pm31 an31 cd31 ct31),sl31⟩) (c31 : PySem.W.codeIn K cd31 "_law_odd_rows" = true) (k31 : PySem.W.keepIn K (.ref f31) = true)
  (a32 : PySem.W.nsIn K mainGlobals "_law_odd" = some (some (.ref f32))) (l32 : K.lookup f32 = some ⟨oc32,od32,.func (PySem.W.fnOf "_law_odd" "_law_odd" (defArgs s_law_odd) (defBody s_law_odd) (defScope s_law_odd) .none kV32 dc32 pm32 an32 cd32 ct32),sl32⟩) (c32 : PySem.W.codeIn K cd32 "_law_odd" = true) (k32 : PySem.W.keepIn K (.ref f32) = true)
  (a33 : PySem.W.nsIn K mainGlobals "_law_spoilt" = some (some (.ref f33))) (l33 : K.lookup f33 = some ⟨oc33,od33,.func (PySem.W.fnOf "_law_spoilt" "_law_spoilt" (defArgs s_law_spoilt) (defBody s_law_spoilt) (defScope s_law_spoilt) .none kV33 dc33 pm33 an33 cd33 ct33),sl33⟩) (c33 : PySem.W.codeIn K cd33 "_law_spoilt" = true) (k33 : PySem.W.keepIn K (.ref f33) = true)
  (a34 : PySem.W.nsIn K mainGlobals "_law_refused" = some (some (.ref f34))) (l34 : K.lookup f34 = some ⟨oc34,od34,.func (PySem.W.fnOf "_law_refused" "_law_refused" (defArgs s_law_refused) (defBody s_law_refused) (defScope s_law_refused) .none kV34 dc34 pm34 an34 cd34 ct34),sl34⟩) (c34 : PySem.W.codeIn K cd34 "_law_refused" = true) (k34 : PySem.W.keepIn K (.ref f34) = true)
  (a35 : PySem.W.nsIn K mainGlobals "law" = some (some (.ref f35))) (l35 : K.lookup f35 = some ⟨oc35,od35,.func (PySem.W.fnOf "law" "law" (defArgs s_law) (defBody s_law) (defScope s_law) .none kV35 dc35 pm35 an35 cd35 ct35),sl35⟩) (c35 : PySem.W.codeIn K cd35 "law" = true) (k35 : PySem.W.keepIn K (.ref f35) = true)
  (xa0 : PySem.W.nsIn K mainGlobals "HandError" = some (some (.ref C_HandError))) (xq0 : PySem.W.excIn K C_HandError bmV "ValueError.__new__" = true) (xg0 : PySem.W.findIn K (.ref C_HandError) "__getattribute__" = some (some (.builtin "BaseException.__getattribute__"))) (xt0 : PySem.W.findIn K (.ref C_HandError) "__getattr__" = some none) (xc0 : PySem.W.findIn K (.ref C_HandError) "__class__" = some (some (.builtin "object.__class__"))) (xb0 : PySem.W.mroIn K C_HandError (.type "BaseException") = some true) (xo0 : PySem.W.mroIn K C_HandError (.type "object") = some true) (xd0 : PySem.W.clsIn K C_HandError = some cdx0) (xk0 : PySem.W.keepIn K (.ref C_HandError) = true)
  (xa1 : PySem.W.nsIn K mainGlobals "BadKind" = some (some (.ref C_BadKind))) (xq1 : PySem.W.excIn K C_BadKind bmV "ValueError.__new__" = true) (xg1 : PySem.W.findIn K (.ref C_BadKind) "__getattribute__" = some (some (.builtin "BaseException.__getattribute__"))) (xt1 : PySem.W.findIn K (.ref C_BadKind) "__getattr__" = some none) (xc1 : PySem.W.findIn K (.ref C_BadKind) "__class__" = some (some (.builtin "object.__class__"))) (xb1 : PySem.W.mroIn K C_BadKind (.type "BaseException") = some true) (xo1 : PySem.W.mroIn K C_BadKind (.type "object") = some true) (xd1 : PySem.W.clsIn K C_BadKind = some cdx1) (xk1 : PySem.W.keepIn K (.ref C_BadKind) = true)
  (xa2 : PySem.W.nsIn K mainGlobals "BadValue" = some (some (.ref C_BadValue))) (xq2 : PySem.W.excIn K C_BadValue bmV "ValueError.__new__" = true) (xg2 : PySem.W.findIn K (.ref C_BadValue) "__getattribute__" = some (some (.builtin "BaseException.__getattribute__"))) (xt2 : PySem.W.findIn K (.ref C_BadValue) "__getattr__" = some none) (xc2 : PySem.W.findIn K (.ref C_BadValue) "__class__" = some (some (.builtin "object.__class__"))) (xb2 : PySem.W.mroIn K C_BadValue (.type "BaseException") = some true) (xo2 : PySem.W.mroIn K C_BadValue (.type "object") = some true) (xd2 : PySem.W.clsIn K C_BadValue = some cdx2) (xk2 : PySem.W.keepIn K (.ref C_BadValue) = true)
  (g0 : PySem.W.nsIn K mainGlobals "PERCENT" = some (some (.int 37 tk0)))
  (z0 : PySem.W.nsIn K mainGlobals "ValueError" = some none)
  (z1 : PySem.W.nsIn K mainGlobals "all" = some none)
  (z2 : PySem.W.nsIn K mainGlobals "any" = some none)
  (z3 : PySem.W.nsIn K mainGlobals "bool" = some none)
  (z4 : PySem.W.nsIn K mainGlobals "dict" = some none)
  (z5 : PySem.W.nsIn K mainGlobals "int" = some none)
  (z6 : PySem.W.nsIn K mainGlobals "isinstance" = some none)
  (z7 : PySem.W.nsIn K mainGlobals "len" = some none)
  (z8 : PySem.W.nsIn K mainGlobals "list" = some none)
  (z9 : PySem.W.nsIn K mainGlobals "min" = some none)
  (z10 : PySem.W.nsIn K mainGlobals "ord" = some none)
  (z11 : PySem.W.nsIn K mainGlobals "range" = some none)
  (z12 : PySem.W.nsIn K mainGlobals "reversed" = some none)
  (z13 : PySem.W.nsIn K mainGlobals "sorted" = some none)
  (z14 : PySem.W.nsIn K mainGlobals "str" = some none)
  (z15 : PySem.W.nsIn K mainGlobals "sum" = some none)
  (z16 : PySem.W.nsIn K mainGlobals "tuple" = some none)
  (z17 : PySem.W.nsIn K mainGlobals "zip" = some none)
  (q0 : (PySem.W.kitOne K (.ref C_BadValue) (.ref C_BadValue) == some true && PySem.W.kitOne K (.ref C_BadValue) (.type "ValueError") == some true && PySem.W.kitOne K (.ref C_BadValue) (.ref C_BadKind) == some false) = true)
  (q1 : PySem.W.exmOne K (.ref C_BadValue) (.ref C_HandError) = some true) : Tx K mg ⟨C_HandError,C_BadKind,C_BadValue⟩ :=
 ⟨⟨f0,_,fun_mk (st := s_is_whole) l0 c0 k0,(fun_mk (st := s_is_whole) l0 c0 k0).binds (ps := ["thing"]) fun _ _ _ _ _ _ us hl => of_len1 hl fun _ => rfl,PySem.W.mg_of X G a0⟩,
  ⟨f1,_,fun_mk (st := s_is_whole_within) l1 c1 k1,(fun_mk (st := s_is_whole_within) l1 c1 k1).binds (ps := ["thing","low","high"]) fun _ _ _ _ _ _ us hl => of_len3 hl fun _ _ _ => rfl,PySem.W.mg_of X G a1⟩,
  ⟨f2,_,fun_mk (st := s_is_sign) l2 c2 k2,(fun_mk (st := s_is_sign) l2 c2 k2).binds (ps := ["letter"]) fun _ _ _ _ _ _ us hl => of_len1 hl fun _ => rfl,PySem.W.mg_of X G a2⟩,
  ⟨f3,_,fun_mk (st := s_is_of) l3 c3 k3,(fun_mk (st := s_is_of) l3 c3 k3).binds (ps := ["value","kind"]) fun _ _ _ _ _ _ us hl => of_len2 hl fun _ _ => rfl,PySem.W.mg_of X G a3⟩,
  ⟨f4,_,fun_mk (st := s_made_value) l4 c4 k4,(fun_mk (st := s_made_value) l4 c4 k4).binds (ps := ["value","kind"]) fun _ _ _ _ _ _ us hl => of_len2 hl fun _ _ => rfl,PySem.W.mg_of X G a4⟩,
  ⟨f5,_,fun_mk (st := s_is_text_of) l5 c5 k5,(fun_mk (st := s_is_text_of) l5 c5 k5).binds (ps := ["value","most"]) fun _ _ _ _ _ _ us hl => of_len2 hl fun _ _ => rfl,PySem.W.mg_of X G a5⟩,
  ⟨f6,_,fun_mk (st := s_holds_tuple) l6 c6 k6,(fun_mk (st := s_holds_tuple) l6 c6 k6).binds (ps := ["value","word"]) fun _ _ _ _ _ _ us hl => of_len2 hl fun _ _ => rfl,PySem.W.mg_of X G a6⟩,
  ⟨f7,_,fun_mk (st := s_holds_items) l7 c7 k7,(fun_mk (st := s_holds_items) l7 c7 k7).binds (ps := ["value","word","kind","most"]) fun _ _ _ _ _ _ us hl => of_len4 hl fun _ _ _ _ => rfl,PySem.W.mg_of X G a7⟩,
  ⟨f8,_,fun_mk (st := s_is_record_of) l8 c8 k8,(fun_mk (st := s_is_record_of) l8 c8 k8).binds (ps := ["value","fields"]) fun _ _ _ _ _ _ us hl => of_len2 hl fun _ _ => rfl,PySem.W.mg_of X G a8⟩,
  ⟨f9,_,fun_mk (st := s_is_pair_of) l9 c9 k9,(fun_mk (st := s_is_pair_of) l9 c9 k9).binds (ps := ["pair","field"]) fun _ _ _ _ _ _ us hl => of_len2 hl fun _ _ => rfl,PySem.W.mg_of X G a9⟩,
  ⟨f10,_,fun_mk (st := s_are_keyed) l10 c10 k10,(fun_mk (st := s_are_keyed) l10 c10 k10).binds (ps := ["items","key"]) fun _ _ _ _ _ _ us hl => of_len2 hl fun _ _ => rfl,PySem.W.mg_of X G a10⟩,
  ⟨f11,_,fun_mk (st := s_field_of) l11 c11 k11,(fun_mk (st := s_field_of) l11 c11 k11).binds (ps := ["record","name"]) fun _ _ _ _ _ _ us hl => of_len2 hl fun _ _ => rfl,PySem.W.mg_of X G a11⟩,
  ⟨f12,_,fun_mk (st := s_law_cell_at) l12 c12 k12,(fun_mk (st := s_law_cell_at) l12 c12 k12).binds (ps := ["script","k"]) fun _ _ _ _ _ _ us hl => of_len2 hl fun _ _ => rfl,PySem.W.mg_of X G a12⟩,
  ⟨f13,_,fun_mk (st := s_law_mixed) l13 c13 k13,(fun_mk (st := s_law_mixed) l13 c13 k13).binds (ps := ["cell","k"]) fun _ _ _ _ _ _ us hl => of_len2 hl fun _ _ => rfl,PySem.W.mg_of X G a13⟩,
  ⟨f14,_,fun_mk (st := s_law_own) l14 c14 k14,(fun_mk (st := s_law_own) l14 c14 k14).binds (ps := ["script","k"]) fun _ _ _ _ _ _ us hl => of_len2 hl fun _ _ => rfl,PySem.W.mg_of X G a14⟩,
  ⟨f15,_,fun_mk (st := s_law_digit) l15 c15 k15,(fun_mk (st := s_law_digit) l15 c15 k15).binds (ps := ["row","many"]) fun _ _ _ _ _ _ us hl => of_len2 hl fun _ _ => rfl,PySem.W.mg_of X G a15⟩,
  ⟨f16,_,fun_mk (st := s_law_names) l16 c16 k16,(fun_mk (st := s_law_names) l16 c16 k16).binds (ps := ["row","many"]) fun _ _ _ _ _ _ us hl => of_len2 hl fun _ _ => rfl,PySem.W.mg_of X G a16⟩,
  ⟨f17,_,fun_mk (st := s_law_number_kind) l17 c17 k17,(fun_mk (st := s_law_number_kind) l17 c17 k17).binds (ps := ["row"]) fun _ _ _ _ _ _ us hl => of_len1 hl fun _ => rfl,PySem.W.mg_of X G a17⟩,
  ⟨f18,_,fun_mk (st := s_law_leaf_kind) l18 c18 k18,(fun_mk (st := s_law_leaf_kind) l18 c18 k18).binds (ps := ["row"]) fun _ _ _ _ _ _ us hl => of_len1 hl fun _ => rfl,PySem.W.mg_of X G a18⟩,
  ⟨f19,_,fun_mk (st := s_law_record_kind) l19 c19 k19,(fun_mk (st := s_law_record_kind) l19 c19 k19).binds (ps := ["row","deep","room"]) fun _ _ _ _ _ _ us hl => of_len3 hl fun _ _ _ => rfl,PySem.W.mg_of X G a19⟩,
  ⟨f20,_,fun_mk (st := s_law_rows_kind) l20 c20 k20,(fun_mk (st := s_law_rows_kind) l20 c20 k20).binds (ps := ["row","deep","room"]) fun _ _ _ _ _ _ us hl => of_len3 hl fun _ _ _ => rfl,PySem.W.mg_of X G a20⟩,
  ⟨f21,_,fun_mk (st := s_law_kind) l21 c21 k21,(fun_mk (st := s_law_kind) l21 c21 k21).binds (ps := ["row","deep","room"]) fun _ _ _ _ _ _ us hl => of_len3 hl fun _ _ _ => rfl,PySem.W.mg_of X G a21⟩,
  ⟨f22,_,fun_mk (st := s_law_text) l22 c22 k22,(fun_mk (st := s_law_text) l22 c22 k22).binds (ps := ["row","most"]) fun _ _ _ _ _ _ us hl => of_len2 hl fun _ _ => rfl,PySem.W.mg_of X G a22⟩,
  ⟨f23,_,fun_mk (st := s_law_keys) l23 c23 k23,(fun_mk (st := s_law_keys) l23 c23 k23).binds (ps := ["row","kind"]) fun _ _ _ _ _ _ us hl => of_len2 hl fun _ _ => rfl,PySem.W.mg_of X G a23⟩,
  ⟨f24,_,fun_mk (st := s_law_row_values) l24 c24 k24,(fun_mk (st := s_law_row_values) l24 c24 k24).binds (ps := ["row","kind"]) fun _ _ _ _ _ _ us hl => of_len2 hl fun _ _ => rfl,PySem.W.mg_of X G a24⟩,
  ⟨f25,_,fun_mk (st := s_law_value) l25 c25 k25,(fun_mk (st := s_law_value) l25 c25 k25).binds (ps := ["row","kind"]) fun _ _ _ _ _ _ us hl => of_len2 hl fun _ _ => rfl,PySem.W.mg_of X G a25⟩,
  ⟨f26,_,fun_mk (st := s_law_odd_number) l26 c26 k26,(fun_mk (st := s_law_odd_number) l26 c26 k26).binds (ps := ["kind","row"]) fun _ _ _ _ _ _ us hl => of_len2 hl fun _ _ => rfl,PySem.W.mg_of X G a26⟩,
  ⟨f27,_,fun_mk (st := s_law_odd_text) l27 c27 k27,(fun_mk (st := s_law_odd_text) l27 c27 k27).binds (ps := ["kind","row"]) fun _ _ _ _ _ _ us hl => of_len2 hl fun _ _ => rfl,PySem.W.mg_of X G a27⟩,
  ⟨f28,_,fun_mk (st := s_law_odd_choice) l28 c28 k28,(fun_mk (st := s_law_odd_choice) l28 c28 k28).binds (ps := ["kind","row"]) fun _ _ _ _ _ _ us hl => of_len2 hl fun _ _ => rfl,PySem.W.mg_of X G a28⟩,
  ⟨f29,_,fun_mk (st := s_law_odd_list) l29 c29 k29,(fun_mk (st := s_law_odd_list) l29 c29 k29).binds (ps := ["kind","value","row"]) fun _ _ _ _ _ _ us hl => of_len3 hl fun _ _ _ => rfl,PySem.W.mg_of X G a29⟩,
  ⟨f30,_,fun_mk (st := s_law_odd_record) l30 c30 k30,(fun_mk (st := s_law_odd_record) l30 c30 k30).binds (ps := ["kind","value","row"]) fun _ _ _ _ _ _ us hl => of_len3 hl fun _ _ _ => rfl,PySem.W.mg_of X G a30⟩,
  ⟨f31,_,fun_mk (st := s_law_odd_rows) l31 c31 k31,(fun_mk (st := s_law_odd_rows) l31 c31 k31).binds (ps := ["kind","value","row"]) fun _ _ _ _ _ _ us hl => of_len3 hl fun _ _ _ => rfl,PySem.W.mg_of X G a31⟩,
  ⟨f32,_,fun_mk (st := s_law_odd) l32 c32 k32,(fun_mk (st := s_law_odd) l32 c32 k32).binds (ps := ["kind","value","row"]) fun _ _ _ _ _ _ us hl => of_len3 hl fun _ _ _ => rfl,PySem.W.mg_of X G a32⟩,
  ⟨f33,_,fun_mk (st := s_law_spoilt) l33 c33 k33,(fun_mk (st := s_law_spoilt) l33 c33 k33).binds (ps := ["kind","value","row"]) fun _ _ _ _ _ _ us hl => of_len3 hl fun _ _ _ => rfl,PySem.W.mg_of X G a33⟩,
  ⟨f34,_,fun_mk (st := s_law_refused) l34 c34 k34,(fun_mk (st := s_law_refused) l34 c34 k34).binds (ps := ["value","kind"]) fun _ _ _ _ _ _ us hl => of_len2 hl fun _ _ => rfl,PySem.W.mg_of X G a34⟩,
  ⟨f35,_,fun_mk (st := s_law) l35 c35 k35,(fun_mk (st := s_law) l35 c35 k35).binds (ps := ["script"]) fun _ _ _ _ _ _ us hl => of_len1 hl fun _ => rfl,PySem.W.mg_of X G a35⟩,
  ⟨PySem.W.mg_of X G xa0,xq0,⟨xg0,xt0,xc0,xb0,xo0,_,xd0⟩,xk0⟩,
  ⟨PySem.W.mg_of X G xa1,xq1,⟨xg1,xt1,xc1,xb1,xo1,_,xd1⟩,xk1⟩,
  ⟨PySem.W.mg_of X G xa2,xq2,⟨xg2,xt2,xc2,xb2,xo2,_,xd2⟩,xk2⟩,
  ⟨_,PySem.W.mg_of X G g0⟩,
  PySem.W.mg_none_of X G z0,
  PySem.W.mg_none_of X G z1,
  PySem.W.mg_none_of X G z2,
  PySem.W.mg_none_of X G z3,
  PySem.W.mg_none_of X G z4,
  PySem.W.mg_none_of X G z5,
  PySem.W.mg_none_of X G z6,
  PySem.W.mg_none_of X G z7,
  PySem.W.mg_none_of X G z8,
  PySem.W.mg_none_of X G z9,
  PySem.W.mg_none_of X G z10,
  PySem.W.mg_none_of X G z11,
  PySem.W.mg_none_of X G z12,
  PySem.W.mg_none_of X G z13,
  PySem.W.mg_none_of X G z14,
  PySem.W.mg_none_of X G z15,
  PySem.W.mg_none_of X G z16,
  PySem.W.mg_none_of X G z17,
  q0,
  q1⟩
theorem law_binds {K : PySem.W.Frag} {f : Addr} {fd : FuncData} (F : Fun K "law" "law" s_law f fd) : ∀ (s : Shared) (u : Value),BindsTo s fd ⟨[u],[]⟩ [("script",u)] := by
 obtain ⟨oc,od,kV,doc,pm,an,cdv,ct,osl,rfl,lk,hcd⟩ := F.ex
 exact fun s u => .of_eq rfl
noncomputable def hT (t : Nat) : Value := .str "/claim/cut.py" t
noncomputable def hE (P : Params) (x : Str) (t : Nat) (v : Value) : DictEntry := { hash := PyData.keyHash P x,key := .str x t,val := v }
noncomputable def hF (x y m : Str) (st : Stmt) (t c : Nat) : Obj := { cls := .type "function",data := .func (PySem.W.fnOf x y (defArgs st) (defBody st) (defScope st) .none .none .none (.str m t) none (.ref c) .none) }
noncomputable def hC (x y : Str) (t u v : Nat) (r : List Value) : Obj := { cls := .type "code",data := .fields (Array.mk (.str x t :: .str y u :: hT v :: r)) }
noncomputable def hK : Params → PySem.W.Frag := fun P =>
 (nat_lit 2,{ cls := .none,data := .dict #[] }) ::
 (nat_lit 3,{ cls := .type "dict",data := .dict #[hE P "__name__" 165 (.str ("law_oldhands_k05_no_values") 335),hE P "__doc__" 166 (.none),hE P "__package__" 167 (.none),hE P "__loader__" 168 (.builtin "__main__.__loader__#opaque"),hE P "__spec__" 169 (.none),hE P "__annotations__" 170 (.ref 6),hE P "__builtins__" 171 (.ref 4),hE P "__file__" 173 (.str ("/claim/cut.py") 172),hE P "__cached__" 174 (.none),hE P "HandError" 206 (.ref 24),hE P "BadKind" 222 (.ref 37),hE P "BadValue" 238 (.ref 49),hE P "is_whole" 247 (.ref 58),hE P "is_whole_within" 256 (.ref 65),hE P "PERCENT" 260 (.int 37 259),hE P "is_sign" 267 (.ref 72),hE P "is_of" 276 (.ref 79),hE P "made_value" 284 (.ref 86),hE P "is_text_of" 290 (.ref 91),hE P "holds_tuple" 298 (.ref 98),hE P "holds_items" 304 (.ref 103),hE P "is_record_of" 310 (.ref 108),hE P "is_pair_of" 318 (.ref 115),hE P "are_keyed" 324 (.ref 120),hE P "field_of" 334 (.ref 127),hE P "_law_cell_at" 344 (.ref 134),hE P "_law_mixed" 353 (.ref 141),hE P "_law_own" 364 (.ref 148),hE P "_law_digit" 373 (.ref 155),hE P "_law_names" 379 (.ref 160),hE P "_law_number_kind" 388 (.ref 167),hE P "_law_leaf_kind" 397 (.ref 174),hE P "_law_record_kind" 409 (.ref 181),hE P "_law_rows_kind" 423 (.ref 188),hE P "_law_kind" 433 (.ref 195),hE P "_law_text" 439 (.ref 200),hE P "_law_keys" 445 (.ref 205),hE P "_law_row_values" 451 (.ref 210),hE P "_law_value" 457 (.ref 215),hE P "_law_odd_number" 467 (.ref 222),hE P "_law_odd_text" 476 (.ref 229),hE P "_law_odd_choice" 485 (.ref 236),hE P "_law_odd_list" 497 (.ref 243),hE P "_law_odd_record" 509 (.ref 250),hE P "_law_odd_rows" 520 (.ref 257),hE P "_law_odd" 529 (.ref 264),hE P "_law_spoilt" 540 (.ref 271),hE P "_law_refused" 550 (.ref 278),hE P "law" 563 (.ref 285)] 49 }) ::
 (nat_lit 15,{ cls := .type "tuple",data := .seq #[.type "ValueError"] }) ::
 (nat_lit 22,{ cls := .type "tuple",data := .seq #[] }) ::
 (nat_lit 23,{ cls := .type "dict",data := .dict #[{ hash := PyData.keyHash P ("__module__"),key := .str ("__module__") 196,val := .str ("oldhands.errors") 187 },{ hash := PyData.keyHash P ("__firstlineno__"),key := .str ("__firstlineno__") 200,val := .int 2 199 },{ hash := PyData.keyHash P ("__static_attributes__"),key := .str ("__static_attributes__") 201,val := .ref 22 },{ hash := PyData.keyHash P ("__weakref__"),key := .str ("__weakref__") 203,val := .ref 25 },{ hash := PyData.keyHash P ("__doc__"),key := .str ("__doc__") 204,val := .none }] 3 }) ::
 (nat_lit 24,{ cls := .type "type",data := .cls { name := "HandError",bases := [.type "ValueError"],mro := [.ref 24,.type "ValueError",.type "Exception",.type "BaseException",.type "object"],ns := 23,qualname := "HandError",subclasses := [.ref 37,.ref 49] },slots := #[Option.some (.ref 15),Option.none,Option.some (.str ("HandError") 189),Option.some (.str ("HandError") 197),Option.some (.builtin "ValueError.__new__"),Option.some (.bool Bool.true)] }) ::
 (nat_lit 25,{ cls := .type "getset_descriptor",data := .fields #[.str ("__weakref__") 202,.ref 24,.builtin "ExceptionGroup.__weakref__",.none] }) ::
 (nat_lit 28,{ cls := .type "tuple",data := .seq #[.ref 24] }) ::
 (nat_lit 35,{ cls := .type "tuple",data := .seq #[] }) ::
 (nat_lit 36,{ cls := .type "dict",data := .dict #[{ hash := PyData.keyHash P ("__module__"),key := .str ("__module__") 214,val := .str ("oldhands.errors") 187 },{ hash := PyData.keyHash P ("__firstlineno__"),key := .str ("__firstlineno__") 218,val := .int 4 217 },{ hash := PyData.keyHash P ("__static_attributes__"),key := .str ("__static_attributes__") 219,val := .ref 35 },{ hash := PyData.keyHash P ("__doc__"),key := .str ("__doc__") 220,val := .none }] 2 }) ::
 (nat_lit 37,{ cls := .type "type",data := .cls { name := "BadKind",bases := [.ref 24],mro := [.ref 37,.ref 24,.type "ValueError",.type "Exception",.type "BaseException",.type "object"],ns := 36,qualname := "BadKind" },slots := #[Option.some (.ref 28),Option.none,Option.some (.str ("BadKind") 207),Option.some (.str ("BadKind") 215),Option.some (.builtin "ValueError.__new__"),Option.some (.bool Bool.true)] }) ::
 (nat_lit 40,{ cls := .type "tuple",data := .seq #[.ref 24] }) ::
 (nat_lit 47,{ cls := .type "tuple",data := .seq #[] }) ::
 (nat_lit 48,{ cls := .type "dict",data := .dict #[{ hash := PyData.keyHash P ("__module__"),key := .str ("__module__") 230,val := .str ("oldhands.errors") 187 },{ hash := PyData.keyHash P ("__firstlineno__"),key := .str ("__firstlineno__") 234,val := .int 6 233 },{ hash := PyData.keyHash P ("__static_attributes__"),key := .str ("__static_attributes__") 235,val := .ref 47 },{ hash := PyData.keyHash P ("__doc__"),key := .str ("__doc__") 236,val := .none }] 2 }) ::
 (nat_lit 49,{ cls := .type "type",data := .cls { name := "BadValue",bases := [.ref 24],mro := [.ref 49,.ref 24,.type "ValueError",.type "Exception",.type "BaseException",.type "object"],ns := 48,qualname := "BadValue" },slots := #[Option.some (.ref 40),Option.none,Option.some (.str ("BadValue") 223),Option.some (.str ("BadValue") 231),Option.some (.builtin "ValueError.__new__"),Option.some (.bool Bool.true)] }) ::
 (nat_lit 57,hC "is_whole" "is_whole" 241 242 243 [.int 9 0,.int 1 0,.int 0 0,.int 0 0,.int 3 0,.ref 52,.bool Bool.true,.int 181 0,.ref 53,.none,.ref 54,.ref 55,.ref 56,.int 245 0,.int 9 0,hT 246]) ::
 (nat_lit 58,hF "is_whole" "is_whole" "oldhands.kinds" (top 5) 239 57) ::
 (nat_lit 64,hC "is_whole_within" "is_whole_within" 248 249 250 [.int 11 0,.int 3 0,.int 0 0,.int 0 0,.int 3 0,.ref 59,.bool Bool.true,.int 181 0,.ref 60,.none,.ref 61,.ref 62,.ref 63,.int 254 0,.int 11 0,hT 255]) ::
 (nat_lit 65,hF "is_whole_within" "is_whole_within" "oldhands.kinds" (top 6) 239 64) ::
 (nat_lit 71,hC "is_sign" "is_sign" 261 262 263 [.int 15 0,.int 1 0,.int 0 0,.int 0 0,.int 3 0,.ref 66,.bool Bool.true,.int 181 0,.ref 67,.none,.ref 68,.ref 69,.ref 70,.int 265 0,.int 15 0,hT 266]) ::
 (nat_lit 72,hF "is_sign" "is_sign" "oldhands.values" (top 9) 257 71) ::
 (nat_lit 78,hC "is_of" "is_of" 268 269 270 [.int 17 0,.int 2 0,.int 0 0,.int 0 0,.int 3 0,.ref 73,.bool Bool.true,.int 181 0,.ref 74,.none,.ref 75,.ref 76,.ref 77,.int 274 0,.int 17 0,hT 275]) ::
 (nat_lit 79,hF "is_of" "is_of" "oldhands.values" (top 10) 257 78) ::
 (nat_lit 85,hC "made_value" "made_value" 277 278 279 [.int 30 0,.int 2 0,.int 0 0,.int 0 0,.int 3 0,.ref 80,.bool Bool.true,.int 181 0,.ref 81,.none,.ref 82,.ref 83,.ref 84,.int 282 0,.int 30 0,hT 283]) ::
 (nat_lit 86,hF "made_value" "made_value" "oldhands.values" (top 11) 257 85) ::
 (nat_lit 90,hC "is_text_of" "is_text_of" 285 286 287 [.int 34 0,.int 2 0,.int 0 0,.int 0 0,.int 3 0,.ref 87,.bool Bool.true,.int 181 0,.ref 88,.none,.none,.none,.ref 89,.int 288 0,.int 34 0,hT 289]) ::
 (nat_lit 91,hF "is_text_of" "is_text_of" "oldhands.values" (top 12) 257 90) ::
 (nat_lit 97,hC "holds_tuple" "holds_tuple" 291 292 293 [.int 38 0,.int 2 0,.int 0 0,.int 0 0,.int 3 0,.ref 92,.bool Bool.true,.int 181 0,.ref 93,.none,.ref 94,.ref 95,.ref 96,.int 296 0,.int 38 0,hT 297]) ::
 (nat_lit 98,hF "holds_tuple" "holds_tuple" "oldhands.values" (top 13) 257 97) ::
 (nat_lit 102,hC "holds_items" "holds_items" 299 300 301 [.int 40 0,.int 4 0,.int 0 0,.int 0 0,.int 3 0,.ref 99,.bool Bool.true,.int 181 0,.ref 100,.none,.none,.none,.ref 101,.int 302 0,.int 40 0,hT 303]) ::
 (nat_lit 103,hF "holds_items" "holds_items" "oldhands.values" (top 14) 257 102) ::
 (nat_lit 107,hC "is_record_of" "is_record_of" 305 306 307 [.int 44 0,.int 2 0,.int 0 0,.int 0 0,.int 3 0,.ref 104,.bool Bool.true,.int 181 0,.ref 105,.none,.none,.none,.ref 106,.int 308 0,.int 44 0,hT 309]) ::
 (nat_lit 108,hF "is_record_of" "is_record_of" "oldhands.values" (top 15) 257 107) ::
 (nat_lit 114,hC "is_pair_of" "is_pair_of" 311 312 313 [.int 48 0,.int 2 0,.int 0 0,.int 0 0,.int 3 0,.ref 109,.bool Bool.true,.int 181 0,.ref 110,.none,.ref 111,.ref 112,.ref 113,.int 316 0,.int 48 0,hT 317]) ::
 (nat_lit 115,hF "is_pair_of" "is_pair_of" "oldhands.values" (top 16) 257 114) ::
 (nat_lit 119,hC "are_keyed" "are_keyed" 319 320 321 [.int 52 0,.int 2 0,.int 0 0,.int 0 0,.int 3 0,.ref 116,.bool Bool.true,.int 181 0,.ref 117,.none,.none,.none,.ref 118,.int 322 0,.int 52 0,hT 323]) ::
 (nat_lit 120,hF "are_keyed" "are_keyed" "oldhands.values" (top 17) 257 119) ::
 (nat_lit 126,hC "field_of" "field_of" 325 326 327 [.int 55 0,.int 2 0,.int 0 0,.int 0 0,.int 3 0,.ref 121,.bool Bool.true,.int 181 0,.ref 122,.none,.ref 123,.ref 124,.ref 125,.int 332 0,.int 55 0,hT 333]) ::
 (nat_lit 127,hF "field_of" "field_of" "oldhands.values" (top 18) 257 126) ::
 (nat_lit 133,hC "_law_cell_at" "_law_cell_at" 337 338 339 [.int 61 0,.int 2 0,.int 0 0,.int 0 0,.int 3 0,.ref 128,.bool Bool.true,.int 181 0,.ref 129,.none,.ref 130,.ref 131,.ref 132,.int 342 0,.int 61 0,hT 343]) ::
 (nat_lit 134,hF "_law_cell_at" "_law_cell_at" "law_oldhands_k05_no_values" (top 20) 335 133) ::
 (nat_lit 140,hC "_law_mixed" "_law_mixed" 345 346 347 [.int 65 0,.int 2 0,.int 0 0,.int 0 0,.int 3 0,.ref 135,.bool Bool.true,.int 181 0,.ref 136,.none,.ref 137,.ref 138,.ref 139,.int 351 0,.int 65 0,hT 352]) ::
 (nat_lit 141,hF "_law_mixed" "_law_mixed" "law_oldhands_k05_no_values" (top 21) 335 140) ::
 (nat_lit 147,hC "_law_own" "_law_own" 354 355 356 [.int 68 0,.int 2 0,.int 0 0,.int 0 0,.int 3 0,.ref 142,.bool Bool.true,.int 181 0,.ref 143,.none,.ref 144,.ref 145,.ref 146,.int 362 0,.int 68 0,hT 363]) ::
 (nat_lit 148,hF "_law_own" "_law_own" "law_oldhands_k05_no_values" (top 22) 335 147) ::
 (nat_lit 154,hC "_law_digit" "_law_digit" 365 366 367 [.int 76 0,.int 2 0,.int 0 0,.int 0 0,.int 3 0,.ref 149,.bool Bool.true,.int 181 0,.ref 150,.none,.ref 151,.ref 152,.ref 153,.int 371 0,.int 76 0,hT 372]) ::
 (nat_lit 155,hF "_law_digit" "_law_digit" "law_oldhands_k05_no_values" (top 23) 335 154) ::
 (nat_lit 159,hC "_law_names" "_law_names" 374 375 376 [.int 80 0,.int 2 0,.int 0 0,.int 0 0,.int 3 0,.ref 156,.bool Bool.true,.int 181 0,.ref 157,.none,.none,.none,.ref 158,.int 377 0,.int 80 0,hT 378]) ::
 (nat_lit 160,hF "_law_names" "_law_names" "law_oldhands_k05_no_values" (top 24) 335 159) ::
 (nat_lit 166,hC "_law_number_kind" "_law_number_kind" 380 381 382 [.int 90 0,.int 1 0,.int 0 0,.int 0 0,.int 3 0,.ref 161,.bool Bool.true,.int 181 0,.ref 162,.none,.ref 163,.ref 164,.ref 165,.int 386 0,.int 90 0,hT 387]) ::
 (nat_lit 167,hF "_law_number_kind" "_law_number_kind" "law_oldhands_k05_no_values" (top 25) 335 166) ::
 (nat_lit 173,hC "_law_leaf_kind" "_law_leaf_kind" 389 390 391 [.int 94 0,.int 1 0,.int 0 0,.int 0 0,.int 3 0,.ref 168,.bool Bool.true,.int 181 0,.ref 169,.none,.ref 170,.ref 171,.ref 172,.int 395 0,.int 94 0,hT 396]) ::
 (nat_lit 174,hF "_law_leaf_kind" "_law_leaf_kind" "law_oldhands_k05_no_values" (top 26) 335 173) ::
 (nat_lit 180,hC "_law_record_kind" "_law_record_kind" 398 399 400 [.int 104 0,.int 3 0,.int 0 0,.int 0 0,.int 3 0,.ref 175,.bool Bool.true,.int 181 0,.ref 176,.none,.ref 177,.ref 178,.ref 179,.int 407 0,.int 104 0,hT 408]) ::
 (nat_lit 181,hF "_law_record_kind" "_law_record_kind" "law_oldhands_k05_no_values" (top 27) 335 180) ::
 (nat_lit 187,hC "_law_rows_kind" "_law_rows_kind" 410 411 412 [.int 110 0,.int 3 0,.int 0 0,.int 0 0,.int 3 0,.ref 182,.bool Bool.true,.int 181 0,.ref 183,.none,.ref 184,.ref 185,.ref 186,.int 421 0,.int 110 0,hT 422]) ::
 (nat_lit 188,hF "_law_rows_kind" "_law_rows_kind" "law_oldhands_k05_no_values" (top 28) 335 187) ::
 (nat_lit 194,hC "_law_kind" "_law_kind" 424 425 426 [.int 122 0,.int 3 0,.int 0 0,.int 0 0,.int 3 0,.ref 189,.bool Bool.true,.int 181 0,.ref 190,.none,.ref 191,.ref 192,.ref 193,.int 431 0,.int 122 0,hT 432]) ::
 (nat_lit 195,hF "_law_kind" "_law_kind" "law_oldhands_k05_no_values" (top 29) 335 194) ::
 (nat_lit 199,hC "_law_text" "_law_text" 434 435 436 [.int 132 0,.int 2 0,.int 0 0,.int 0 0,.int 3 0,.ref 196,.bool Bool.true,.int 181 0,.ref 197,.none,.none,.none,.ref 198,.int 437 0,.int 132 0,hT 438]) ::
 (nat_lit 200,hF "_law_text" "_law_text" "law_oldhands_k05_no_values" (top 30) 335 199) ::
 (nat_lit 204,hC "_law_keys" "_law_keys" 440 441 442 [.int 135 0,.int 2 0,.int 0 0,.int 0 0,.int 3 0,.ref 201,.bool Bool.true,.int 181 0,.ref 202,.none,.none,.none,.ref 203,.int 443 0,.int 135 0,hT 444]) ::
 (nat_lit 205,hF "_law_keys" "_law_keys" "law_oldhands_k05_no_values" (top 31) 335 204) ::
 (nat_lit 209,hC "_law_row_values" "_law_row_values" 446 447 448 [.int 143 0,.int 2 0,.int 0 0,.int 0 0,.int 3 0,.ref 206,.bool Bool.true,.int 181 0,.ref 207,.none,.none,.none,.ref 208,.int 449 0,.int 143 0,hT 450]) ::
 (nat_lit 210,hF "_law_row_values" "_law_row_values" "law_oldhands_k05_no_values" (top 32) 335 209) ::
 (nat_lit 214,hC "_law_value" "_law_value" 452 453 454 [.int 158 0,.int 2 0,.int 0 0,.int 0 0,.int 3 0,.ref 211,.bool Bool.true,.int 181 0,.ref 212,.none,.none,.none,.ref 213,.int 455 0,.int 158 0,hT 456]) ::
 (nat_lit 215,hF "_law_value" "_law_value" "law_oldhands_k05_no_values" (top 33) 335 214) ::
 (nat_lit 221,hC "_law_odd_number" "_law_odd_number" 458 459 460 [.int 177 0,.int 2 0,.int 0 0,.int 0 0,.int 3 0,.ref 216,.bool Bool.true,.int 181 0,.ref 217,.none,.ref 218,.ref 219,.ref 220,.int 465 0,.int 177 0,hT 466]) ::
 (nat_lit 222,hF "_law_odd_number" "_law_odd_number" "law_oldhands_k05_no_values" (top 34) 335 221) ::
 (nat_lit 228,hC "_law_odd_text" "_law_odd_text" 468 469 470 [.int 182 0,.int 2 0,.int 0 0,.int 0 0,.int 3 0,.ref 223,.bool Bool.true,.int 181 0,.ref 224,.none,.ref 225,.ref 226,.ref 227,.int 474 0,.int 182 0,hT 475]) ::
 (nat_lit 229,hF "_law_odd_text" "_law_odd_text" "law_oldhands_k05_no_values" (top 35) 335 228) ::
 (nat_lit 235,hC "_law_odd_choice" "_law_odd_choice" 477 478 479 [.int 185 0,.int 2 0,.int 0 0,.int 0 0,.int 3 0,.ref 230,.bool Bool.true,.int 181 0,.ref 231,.none,.ref 232,.ref 233,.ref 234,.int 483 0,.int 185 0,hT 484]) ::
 (nat_lit 236,hF "_law_odd_choice" "_law_odd_choice" "law_oldhands_k05_no_values" (top 36) 335 235) ::
 (nat_lit 242,hC "_law_odd_list" "_law_odd_list" 486 487 488 [.int 188 0,.int 3 0,.int 0 0,.int 0 0,.int 3 0,.ref 237,.bool Bool.true,.int 181 0,.ref 238,.none,.ref 239,.ref 240,.ref 241,.int 495 0,.int 188 0,hT 496]) ::
 (nat_lit 243,hF "_law_odd_list" "_law_odd_list" "law_oldhands_k05_no_values" (top 37) 335 242) ::
 (nat_lit 249,hC "_law_odd_record" "_law_odd_record" 498 499 500 [.int 196 0,.int 3 0,.int 0 0,.int 0 0,.int 3 0,.ref 244,.bool Bool.true,.int 181 0,.ref 245,.none,.ref 246,.ref 247,.ref 248,.int 507 0,.int 196 0,hT 508]) ::
 (nat_lit 250,hF "_law_odd_record" "_law_odd_record" "law_oldhands_k05_no_values" (top 38) 335 249) ::
 (nat_lit 256,hC "_law_odd_rows" "_law_odd_rows" 510 511 512 [.int 209 0,.int 3 0,.int 0 0,.int 0 0,.int 3 0,.ref 251,.bool Bool.true,.int 181 0,.ref 252,.none,.ref 253,.ref 254,.ref 255,.int 518 0,.int 209 0,hT 519]) ::
 (nat_lit 257,hF "_law_odd_rows" "_law_odd_rows" "law_oldhands_k05_no_values" (top 39) 335 256) ::
 (nat_lit 263,hC "_law_odd" "_law_odd" 521 522 523 [.int 219 0,.int 3 0,.int 0 0,.int 0 0,.int 3 0,.ref 258,.bool Bool.true,.int 181 0,.ref 259,.none,.ref 260,.ref 261,.ref 262,.int 527 0,.int 219 0,hT 528]) ::
 (nat_lit 264,hF "_law_odd" "_law_odd" "law_oldhands_k05_no_values" (top 40) 335 263) ::
 (nat_lit 270,hC "_law_spoilt" "_law_spoilt" 530 531 532 [.int 231 0,.int 3 0,.int 0 0,.int 0 0,.int 3 0,.ref 265,.bool Bool.true,.int 181 0,.ref 266,.none,.ref 267,.ref 268,.ref 269,.int 538 0,.int 231 0,hT 539]) ::
 (nat_lit 271,hF "_law_spoilt" "_law_spoilt" "law_oldhands_k05_no_values" (top 41) 335 270) ::
 (nat_lit 277,hC "_law_refused" "_law_refused" 541 542 543 [.int 243 0,.int 2 0,.int 0 0,.int 0 0,.int 3 0,.ref 272,.bool Bool.true,.int 181 0,.ref 273,.none,.ref 274,.ref 275,.ref 276,.int 548 0,.int 243 0,hT 549]) ::
 (nat_lit 278,hF "_law_refused" "_law_refused" "law_oldhands_k05_no_values" (top 42) 335 277) ::
 (nat_lit 284,hC "law" "law" 551 552 553 [.int 250 0,.int 1 0,.int 0 0,.int 0 0,.int 3 0,.ref 279,.bool Bool.true,.int 181 0,.ref 280,.none,.ref 281,.ref 282,.ref 283,.int 561 0,.int 250 0,hT 562]) ::
 (nat_lit 285,hF "law" "law" "law_oldhands_k05_no_values" (top 43) 335 284) :: []
noncomputable def hA : List Addr := [2,3,15,22,23,24,25,28,35,36,37,40,47,48,49,57,58,64,65,71,72,78,79,85,86,90,91,97,98,102,103,107,108,114,115,119,120,126,127,133,134,140,141,147,148,154,155,159,160,166,167,173,174,180,181,187,188,194,195,199,200,204,205,209,210,214,215,221,222,228,229,235,236,242,243,249,250,256,257,263,264,270,271,277,278,284,285]
theorem hKA : ∀ P,hA = (hK P).map (·.1) := fun _ => by kernel_rfl
noncomputable abbrev hH : PySem.W.Hook := PySem.W.kHook hK hA hKA
noncomputable abbrev hX (s : Shared) : Bool := PySem.W.xlAt PySem.Challenge.pw_oldhands_k05_no_values [] s && PySem.W.recOk (PySem.W.RowW.records (PySem.W.OpenRow.toRowW PySem.Challenge.rw_oldhands_k05_no_values.row)) s
theorem hl : PySem.W.LeftO PySem.Challenge.pw_oldhands_k05_no_values PySem.Challenge.pw_oldhands_k05_no_values [] hX hH.obs hH.val 3622 := fun w => by kernel_rfl
theorem said : PySem.Challenge.rw_oldhands_k05_no_values.wellSaid = true := by kernel_rfl
end K05
open PySem PySem.W PyProof.Rows
set_option maxRecDepth 100000 in
set_option maxHeartbeats 0 in
theorem PySem.Challenge.cw_oldhands_k05_no_values_holds : PySem.Challenge.rw_oldhands_k05_no_values.Holds := by
 w_on
 refine PySem.W.holds_law K05.said fun said => ?_
 refine PySem.W.holds_open (q := PySem.Challenge.pw_oldhands_k05_no_values) (loose := []) (Xt := K05.hX) (XP := PySem.W.XL PySem.Challenge.pw_oldhands_k05_no_values []) (Yf := K05.hH.obs) (Ya := K05.hH.val) (YP := PySem.W.InK K05.hK) (N := 3622) K05.hl K05.hH.of K05.hH.keeps (fun s e => PySem.W.xl_of s (Bool.and_eq_true_iff.mp e).1) PySem.W.XL.keeps (by rfl) (by rfl) (by rfl) (fun s e => PySem.W.recFacts_of (Bool.and_eq_true_iff.mp e).2) (by rfl) said (by decide +kernel) ⟨rfl,rfl,rfl,rfl,rfl,by decide +kernel⟩ ?hw ?hc
 case hw => w_witness2
 k_fill
 refine L2.walk_ofK (l := PySem.Challenge.rw_oldhands_k05_no_values) (K := K05.hK) (n := 63) (k := K05.depth) (x := "script") (CX := L2.CX0) (sp := K05.spLaw) rfl (by decide) rfl ⟨rfl,by decide,by decide⟩ (fun w h Y => Y) ?F (fun _ _ a ns hl _ hS => ⟨a,ns,rfl,hS,hl,fun _ => rfl⟩) (fun _ _ _ _ z => z)
 case F =>
  intro w mg fa h KX G hmg
  have T : ∃ ad,K05.Tx (L2.KOf KX) mg ad := by
   dsimp only [L2.KOf]
   refine' ⟨_,K05.tx_mk KX G ?ya0 ?yl0 ?yc0 ?yk0 ?ya1 ?yl1 ?yc1 ?yk1 ?ya2 ?yl2 ?yc2 ?yk2 ?ya3 ?yl3 ?yc3 ?yk3 ?ya4 ?yl4 ?yc4 ?yk4 ?ya5 ?yl5 ?yc5 ?yk5 ?ya6 ?yl6 ?yc6 ?yk6 ?ya7 ?yl7 ?yc7 ?yk7 ?ya8 ?yl8 ?yc8 ?yk8 ?ya9 ?yl9 ?yc9 ?yk9 ?ya10 ?yl10 ?yc10 ?yk10 ?ya11 ?yl11 ?yc11 ?yk11 ?ya12 ?yl12 ?yc12 ?yk12 ?ya13 ?yl13 ?yc13 ?yk13 ?ya14 ?yl14 ?yc14 ?yk14 ?ya15 ?yl15 ?yc15 ?yk15 ?ya16 ?yl16 ?yc16 ?yk16 ?ya17 ?yl17 ?yc17 ?yk17 ?ya18 ?yl18 ?yc18 ?yk18 ?ya19 ?yl19 ?yc19 ?yk19 ?ya20 ?yl20 ?yc20 ?yk20 ?ya21 ?yl21 ?yc21 ?yk21 ?ya22 ?yl22 ?yc22 ?yk22 ?ya23 ?yl23 ?yc23 ?yk23 ?ya24 ?yl24 ?yc24 ?yk24 ?ya25 ?yl25 ?yc25 ?yk25 ?ya26 ?yl26 ?yc26 ?yk26 ?ya27 ?yl27 ?yc27 ?yk27 ?ya28 ?yl28 ?yc28 ?yk28 ?ya29 ?yl29 ?yc29 ?yk29 ?ya30 ?yl30 ?yc30 ?yk30 ?ya31 ?yl31 ?yc31 ?yk31 ?ya32 ?yl32 ?yc32 ?yk32 ?ya33 ?yl33 ?yc33 ?yk33 ?ya34 ?yl34 ?yc34 ?yk34 ?ya35 ?yl35 ?yc35 ?yk35 ?yxa0 ?yxq0 ?yxg0 ?yxt0 ?yxc0 ?yxb0 ?yxo0 ?yxd0 ?yxk0 ?yxa1 ?yxq1 ?yxg1 ?yxt1 ?yxc1 ?yxb1 ?yxo1 ?yxd1 ?yxk1 ?yxa2 ?yxq2 ?yxg2 ?yxt2 ?yxc2 ?yxb2 ?yxo2 ?yxd2 ?yxk2 ?yg0 ?yz0 ?yz1 ?yz2 ?yz3 ?yz4 ?yz5 ?yz6 ?yz7 ?yz8 ?yz9 ?yz10 ?yz11 ?yz12 ?yz13 ?yz14 ?yz15 ?yz16 ?yz17 ?yq0 ?yq1⟩
   (case ya0 => k_is)
   (case yl0 => k_is)
   (case yc0 => k_is)
   (case yk0 => k_is)
   (case ya1 => k_is)
   (case yl1 => k_is)
   (case yc1 => k_is)
   (case yk1 => k_is)
   (case ya2 => k_is)
   (case yl2 => k_is)
   (case yc2 => k_is)
   (case yk2 => k_is)
   (case ya3 => k_is)
   (case yl3 => k_is)
   (case yc3 => k_is)
   (case yk3 => k_is)
   (case ya4 => k_is)
   (case yl4 => k_is)
   (case yc4 => k_is)
   (case yk4 => k_is)
   (case ya5 => k_is)
   (case yl5 => k_is)
   (case yc5 => k_is)
   (case yk5 => k_is)
   (case ya6 => k_is)
   (case yl6 => k_is)
   (case yc6 => k_is)
   (case yk6 => k_is)
   (case ya7 => k_is)
   (case yl7 => k_is)
   (case yc7 => k_is)
   (case yk7 => k_is)
   (case ya8 => k_is)
   (case yl8 => k_is)
   (case yc8 => k_is)
   (case yk8 => k_is)
   (case ya9 => k_is)
   (case yl9 => k_is)
   (case yc9 => k_is)
   (case yk9 => k_is)
   (case ya10 => k_is)
   (case yl10 => k_is)
   (case yc10 => k_is)
   (case yk10 => k_is)
   (case ya11 => k_is)
   (case yl11 => k_is)
   (case yc11 => k_is)
   (case yk11 => k_is)
   (case ya12 => k_is)
   (case yl12 => k_is)
   (case yc12 => k_is)
   (case yk12 => k_is)
   (case ya13 => k_is)
   (case yl13 => k_is)
   (case yc13 => k_is)
   (case yk13 => k_is)
   (case ya14 => k_is)
   (case yl14 => k_is)
   (case yc14 => k_is)
   (case yk14 => k_is)
   (case ya15 => k_is)
   (case yl15 => k_is)
   (case yc15 => k_is)
   (case yk15 => k_is)
   (case ya16 => k_is)
   (case yl16 => k_is)
   (case yc16 => k_is)
   (case yk16 => k_is)
   (case ya17 => k_is)
   (case yl17 => k_is)
   (case yc17 => k_is)
   (case yk17 => k_is)
   (case ya18 => k_is)
   (case yl18 => k_is)
   (case yc18 => k_is)
   (case yk18 => k_is)
   (case ya19 => k_is)
   (case yl19 => k_is)
   (case yc19 => k_is)
   (case yk19 => k_is)
   (case ya20 => k_is)
   (case yl20 => k_is)
   (case yc20 => k_is)
   (case yk20 => k_is)
   (case ya21 => k_is)
   (case yl21 => k_is)
   (case yc21 => k_is)
   (case yk21 => k_is)
   (case ya22 => k_is)
   (case yl22 => k_is)
   (case yc22 => k_is)
   (case yk22 => k_is)
   (case ya23 => k_is)
   (case yl23 => k_is)
   (case yc23 => k_is)
   (case yk23 => k_is)
   (case ya24 => k_is)
   (case yl24 => k_is)
   (case yc24 => k_is)
   (case yk24 => k_is)
   (case ya25 => k_is)
   (case yl25 => k_is)
   (case yc25 => k_is)
   (case yk25 => k_is)
   (case ya26 => k_is)
   (case yl26 => k_is)
   (case yc26 => k_is)
   (case yk26 => k_is)
   (case ya27 => k_is)
   (case yl27 => k_is)
   (case yc27 => k_is)
   (case yk27 => k_is)
   (case ya28 => k_is)
   (case yl28 => k_is)
   (case yc28 => k_is)
   (case yk28 => k_is)
   (case ya29 => k_is)
   (case yl29 => k_is)
   (case yc29 => k_is)
   (case yk29 => k_is)
   (case ya30 => k_is)
   (case yl30 => k_is)
   (case yc30 => k_is)
   (case yk30 => k_is)
   (case ya31 => k_is)
   (case yl31 => k_is)
   (case yc31 => k_is)
   (case yk31 => k_is)
   (case ya32 => k_is)
   (case yl32 => k_is)
   (case yc32 => k_is)
   (case yk32 => k_is)
   (case ya33 => k_is)
   (case yl33 => k_is)
   (case yc33 => k_is)
   (case yk33 => k_is)
   (case ya34 => k_is)
   (case yl34 => k_is)
   (case yc34 => k_is)
   (case yk34 => k_is)
   (case ya35 => k_is)
   (case yl35 => k_is)
   (case yc35 => k_is)
   (case yk35 => k_is)
   (case yxa0 => k_is)
   (case yxq0 => kernel_rfl)
   (case yxg0 => k_is)
   (case yxt0 => k_is)
   (case yxc0 => k_is)
   (case yxb0 => k_is)
   (case yxo0 => k_is)
   (case yxd0 => k_is)
   (case yxk0 => k_is)
   (case yxa1 => k_is)
   (case yxq1 => kernel_rfl)
   (case yxg1 => k_is)
   (case yxt1 => k_is)
   (case yxc1 => k_is)
   (case yxb1 => k_is)
   (case yxo1 => k_is)
   (case yxd1 => k_is)
   (case yxk1 => k_is)
   (case yxa2 => k_is)
   (case yxq2 => kernel_rfl)
   (case yxg2 => k_is)
   (case yxt2 => k_is)
   (case yxc2 => k_is)
   (case yxb2 => k_is)
   (case yxo2 => k_is)
   (case yxd2 => k_is)
   (case yxk2 => k_is)
   (case yg0 => k_is)
   (case yz0 => k_is)
   (case yz1 => k_is)
   (case yz2 => k_is)
   (case yz3 => k_is)
   (case yz4 => k_is)
   (case yz5 => k_is)
   (case yz6 => k_is)
   (case yz7 => k_is)
   (case yz8 => k_is)
   (case yz9 => k_is)
   (case yz10 => k_is)
   (case yz11 => k_is)
   (case yz12 => k_is)
   (case yz13 => k_is)
   (case yz14 => k_is)
   (case yz15 => k_is)
   (case yz16 => k_is)
   (case yz17 => k_is)
   (case yq0 => kernel_rfl)
   (case yq1 => kernel_rfl)
  obtain ⟨ad,T⟩ := T
  obtain ⟨fL,dL,L⟩ := T.law
  have e := hmg.symm.trans L.m
  cases e
  exact ⟨dL,K05.law_binds L.F,fun base _ _ => K05.ok_law T L⟩
#print axioms PySem.Challenge.cw_oldhands_k05_no_values_holds
