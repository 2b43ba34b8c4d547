import PyProof.Rows.All
import Wide.All
import OpenK.AllK
import Wide.FinOn
import Lean
import PyProof.EqAt
import PyProof.EqKinds
import PyProof.TupleCall
import PyProof.NeKinds
import KE.KIntText
import PyProof.StrCalls
import PyProof.ZipIter
import PyProof.Rows.SetFrom
import PyProof.SetRoads
import PyProof.CompUse
import PyProof.Rows.MinMaxN
import PyProof.Rows.SortStr
import PyProof.Rows.SortWalk
import PyProof.Rows.SeqMore2
import KE.KMinKey
import PyProof.Rows.CallKwBuiltin
import PyProof.TupleOfStr
import PyProof.Draws
import PyProof.Rows.TupIter
import KE.KxText
import PyProof.FString5
import PyProof.DictWalks
import PyProof.CollectStr
import PySem.Challenge.RW_oldhands_k11_no_places
set_option Elab.async false
set_option linter.all false
set_option maxRecDepth 100000
namespace L2
open PySem PySem.Spec PyProof.Rows
noncomputable abbrev Key := Sum Int Str
noncomputable def keyIs : Key → Value → Bool
 | .inl k,v => Value.isInt k v
 | .inr x,v => Value.isStrOf x v
noncomputable def keyH (w : World) : Key → Int
 | .inl k => hashInt k
 | .inr x => hashStr w x
theorem keyIs_shape : ∀ {k : Key} {v : Value},keyIs k v = true → (∃ i t,k = Sum.inl i ∧ v = Value.int i t) ∨ (∃ x t,k = Sum.inr x ∧ v = Value.str x t)
 | .inl i,v,h => by
  obtain ⟨t,e⟩ := Value.isInt_shape (k := i) (v := v) h
  exact .inl ⟨i,t,rfl,e⟩
 | .inr x,v,h => by
  obtain ⟨t,e⟩ := Value.isStrOf_shape (x := x) (v := v) h
  exact .inr ⟨x,t,rfl,e⟩
theorem keyIs_int (i : Int) (t : Tok) : keyIs (.inl i) (.int i t) = true := by simp [keyIs,Value.isInt]
theorem keyIs_str (x : Str) (t : Tok) : keyIs (.inr x) (.str x t) = true := by simp [keyIs,Value.isStrOf]
theorem key_ll (a b : Int) : decide ((Sum.inl a : Key) = Sum.inl b) = (a == b) := by
 by_cases e : a = b
 ·subst e; simp
 ·have h : ¬ (Sum.inl a : Key) = Sum.inl b := fun q => e (Sum.inl.inj q)
  rw [decide_eq_false h]
  exact (beq_eq_false_iff_ne.mpr e).symm
theorem key_rr (a b : Str) : decide ((Sum.inr a : Key) = Sum.inr b) = decide (a = b) := by
 by_cases e : a = b
 ·subst e; simp
 ·have h : ¬ (Sum.inr a : Key) = Sum.inr b := fun q => e (Sum.inr.inj q)
  rw [decide_eq_false h,decide_eq_false e]
theorem key_lr (a : Int) (b : Str) : decide ((Sum.inl a : Key) = Sum.inr b) = false := decide_eq_false (fun q => nomatch q)
theorem key_rl (a : Str) (b : Int) : decide ((Sum.inr a : Key) = Sum.inl b) = false := decide_eq_false (fun q => nomatch q)
noncomputable def mixKind (prog : Program) (w : World) : PySem.KeyKind prog w Key where
 is := keyIs
 hash := keyH w
 inj := fun v a b ha hb => by
  rcases keyIs_shape ha with ⟨i,t,rfl,rfl⟩ | ⟨x,t,rfl,rfl⟩
  ·rcases keyIs_shape hb with ⟨j,u,rfl,e⟩ | ⟨y,u,rfl,e⟩
   ·injection e with e1 _; rw [e1]
   ·exact nomatch e
  ·rcases keyIs_shape hb with ⟨j,u,rfl,e⟩ | ⟨y,u,rfl,e⟩
   ·exact nomatch e
   ·injection e with e1 _; rw [e1]
 byValue := fun k v h => by
  rcases keyIs_shape h with ⟨i,t,rfl,rfl⟩ | ⟨x,t,rfl,rfl⟩ <;> rfl
 pyHash := fun hv h => by
  rcases keyIs_shape hv with ⟨i,t,rfl,rfl⟩ | ⟨x,t,rfl,rfl⟩
  ·exact wpAny_pyHash_int h
  ·exact wpAny_pyHash_str h
 eqBool := fun hu hv h => by
  rcases keyIs_shape hu with ⟨i,t,rfl,rfl⟩ | ⟨x,t,rfl,rfl⟩
  ·rcases keyIs_shape hv with ⟨j,u,rfl,rfl⟩ | ⟨y,u,rfl,rfl⟩
   ·rw [key_ll] at h; exact wpAny_eqBool_int h
   ·rw [key_lr] at h; exact SeqAt.EqAt.int_str i t y u _ _ _ _ h
  ·rcases keyIs_shape hv with ⟨j,u,rfl,rfl⟩ | ⟨y,u,rfl,rfl⟩
   ·rw [key_rl] at h; exact SeqAt.EqAt.str_int x t j u _ _ _ _ h
   ·rw [key_rr] at h; exact wpAny_eqBool_str h
 «strs» := fun k x t v h => by
  rcases keyIs_shape h with ⟨i,u,rfl,e⟩ | ⟨y,u,rfl,e⟩
  ·exact nomatch e
  ·injection e with e1 _
   subst e1
   cases v <;> rfl
theorem mixKind_int (prog : Program) (w : World) (i : Int) (t : Tok) : (mixKind prog w).is (.inl i) (.int i t) = true := keyIs_int i t
theorem mixKind_str (prog : Program) (w : World) (x : Str) (t : Tok) : (mixKind prog w).is (.inr x) (.str x t) = true := keyIs_str x t
end L2
namespace L2
open PySem PySem.Spec PyProof.Rows
inductive V where
 | non | bl (b : Bool) | int (i : Int) | str (x : Str) | byt (b : Array UInt8) | flt (b : UInt64) | ref (a : Addr) | ty (n : String)
 deriving DecidableEq
noncomputable def RelV : V → Value → Prop
 | .non,u => u = Value.none
 | .bl b,u => u = Value.bool b
 | .int i,u => ∃ t,u = Value.int i t
 | .str x,u => ∃ t,u = Value.str x t
 | .byt b,u => ∃ t,u = Value.bytes b t
 | .flt b,u => ∃ t,u = Value.float b t
 | .ref a,u => u = Value.ref a
 | .ty n,u => u = Value.type n
noncomputable abbrev Vals : List V → List Value → Prop := Paired RelV
theorem Vals.length {xs : List V} {us : List Value} (r : Vals xs us) : xs.length = us.length := Paired.length r
theorem Vals.get : ∀ {xs : List V} {us : List Value} {i : Nat} {x : V},Vals xs us → xs[i]? = some x → ∃ u,us[i]? = some u ∧ RelV x u
 | _,_,_,_,.nil,e => by simp at e
 | _,_,0,_,.cons r _,e => by simp at e; subst e; exact ⟨_,rfl,r⟩
 | _,_,i + 1,x,.cons _ t,e => by
  obtain ⟨u,h1,h2⟩ := Vals.get (i := i) (x := x) t (by simpa using e)
  exact ⟨u,by simpa using h1,h2⟩
theorem Vals.set {x : V} {u : Value} (r : RelV x u) : ∀ {xs : List V} {us : List Value} (i : Nat),Vals xs us → Vals (xs.set i x) (us.set i u)
 | _,_,_,.nil => .nil
 | _,_,0,.cons _ t => .cons r t
 | _,_,i + 1,.cons q t => .cons q (Vals.set r i t)
theorem Vals.append : ∀ {xs ys : List V} {us ws : List Value},Vals xs us → Vals ys ws → Vals (xs ++ ys) (us ++ ws)
 | _,_,_,_,.nil,s => s
 | _,_,_,_,.cons r t,s => .cons r (Vals.append t s)
theorem Vals.take : ∀ {xs : List V} {us : List Value} (n : Nat),Vals xs us → Vals (xs.take n) (us.take n)
 | _,_,0,_ => .nil
 | _,_,_ + 1,.nil => .nil
 | _,_,n + 1,.cons r t => .cons r (Vals.take n t)
theorem Vals.drop : ∀ {xs : List V} {us : List Value} (n : Nat),Vals xs us → Vals (xs.drop n) (us.drop n)
 | _,_,0,r => r
 | _,_,_ + 1,.nil => .nil
 | _,_,n + 1,.cons _ t => Vals.drop n t
noncomputable def RelO : Option V → Option Value → Prop
 | some v,some u => RelV v u
 | none,none => True
 | _,_ => False
noncomputable def KV {κ : Type} : List (κ × V) → List (κ × Value) → Prop := Paired fun (p : κ × V) (q : κ × Value) => p.1 = q.1 ∧ RelV p.2 q.2
noncomputable def kV : Key → V
 | .inl i => .int i
 | .inr x => .str x
inductive HO where
 | lst (xs : List V)
 | tup (xs : List V)
 | dK (kvs : List (Key × V)) | dT (kvs : List (List Key × V))
 | set (S : Int → Bool) (n : Nat)
 | ins (C dx : Addr) (fs : List (Str × V))
 | own (x : Addr)
 | xd (fs : List (Str × V))
 | met (f x : Addr)
 | rng (lo hi : Int)
 | frz (o : Obj) (u : HO)
 | tbl (ps : Array Value)
 | ext (φ : Heap → Prop)
noncomputable abbrev Hp := Addr → Option HO
noncomputable def upd (H : Hp) (a : Addr) (o : HO) : Hp := fun b => if b = a then some o else H b
theorem upd_same {H : Hp} {a : Addr} {o : HO} : upd H a o a = some o := by unfold upd; rw [if_pos rfl]
theorem upd_ne {H : Hp} {a b : Addr} {o : HO} (h : b ≠ a) : upd H a o b = H b := by unfold upd; rw [if_neg h]
theorem ne_of {H : Hp} {a b : Addr} {o u : HO} (h : H a = some o) (h' : H b = some u) (d : o ≠ u) : a ≠ b := by
 intro e; subst e; rw [h] at h'; exact d (Option.some.inj h')
theorem ne_of_none {H : Hp} {a b : Addr} {o : HO} (h : H a = some o) (h' : H b = none) : a ≠ b := by
 intro e; subst e; rw [h] at h'; cases h'
section
variable (P : Program) (w : World)
noncomputable def ObjOk (H : Hp) (h : Heap) (a : Addr) : HO → Prop
 | .lst xs => xs.length ≤ sizeLine ∧ ∃ (its : List Value) (n : Nat),Vals xs its ∧ h.get? a = some { cls := .type "list",data := .seq its.toArray n }
 | .tup xs => xs.length ≤ sizeLine ∧ ∃ its : List Value,Vals xs its ∧ IsTup h a its.toArray
 | .dK kvs => kvs.length ≤ sizeLine ∧ (a == sysModules) = false ∧ ∃ vs,KV kvs vs ∧ h.DictOf (mixKind P w) a vs
 | .dT kvs => kvs.length ≤ sizeLine ∧ (a == sysModules) = false ∧ ∃ xs : List (List Key × Addr × Value),
   Paired (fun (p : List Key × V) (q : List Key × Addr × Value) => p.1 = q.1 ∧ H q.2.1 = some (.tup (p.1.map kV)) ∧ RelV p.2 q.2.2) kvs xs ∧
   ∃ o es ep,h.get? a = some o ∧ o.ExactDict ∧ o.data = .dict es ep ∧ es.toList = xs.map (entryOfKey (tupleKind (mixKind P w))) ∧ (xs.map (·.1)).Nodup
 | .set S n => h.SetOf (intKind P w) a S n
 | .ins C dx fs => H dx = some (.own a) ∧ fs.length ≤ 1000 ∧ dx ≠ a ∧ h.get? a = some (PySem.W.instObj C dx) ∧
   ∃ mA,h.Ns1 dx mA ∧ (∀ f,RelO (fs.lookup f) (mA f)) ∧ PySem.Within mA (fs.map (·.1))
 | .own _ => ∃ o,h.get? a = some o
 | .xd fs => ∃ mA,h.Ns1 a mA ∧ ∀ f,RelO (fs.lookup f) (mA f)
 | .rng lo hi => ∃ t u v,h.get? a = some { cls := .type "range",data := .fields #[.int lo t,.int hi u,.int 1 v] }
 | .frz o u => h.get? a = some o ∧ ObjOk H h a u
 | .tbl ps => h.get? a = some { cls := .none,data := .fields ps }
 | .met f x => h.get? a = some (PySem.W.methodObj (.ref f) (.ref x))
 | .ext φ => φ h ∧ (∃ o,h.get? a = some o) ∧ ∀ h1 h2 : Heap,φ h1 → (∀ o,h1.get? a = some o → h2.get? a = some o) → φ h2
noncomputable def HOk (H : Hp) (h : Heap) : Prop := ∀ a o,H a = some o → ObjOk P w H h a o
end
section
variable {P : Program} {w : World} {H H' : Hp} {h h' : Heap} {a : Addr} {o : HO}
theorem ObjOk.lt (x : ObjOk P w H h a o) : a < h.objs.size := by
 cases o with
 | lst xs => obtain ⟨_,_,_,_,e⟩ := x; exact Heap.lt_size e
 | tup xs => obtain ⟨_,_,_,p⟩ := x; exact p.lt
 | dK kvs => obtain ⟨_,_,_,_,o,_,_,e,_⟩ := x; exact Heap.lt_size e
 | dT kvs => obtain ⟨_,_,_,_,o,_,_,e,_⟩ := x; exact Heap.lt_size e
 | set S n => obtain ⟨o,_,_,_,e,_⟩ := x; exact Heap.lt_size e
 | ins C dx fs => obtain ⟨_,_,_,e,_⟩ := x; exact Heap.lt_size e
 | own y => obtain ⟨_,e⟩ := x; exact Heap.lt_size e
 | xd fs => obtain ⟨_,⟨_,_,_,e,_⟩,_⟩ := x; exact Heap.lt_size e
 | rng lo hi => obtain ⟨_,_,_,e⟩ := x; exact Heap.lt_size e
 | frz ob u => obtain ⟨e,_⟩ := x; exact Heap.lt_size e
 | tbl ps => exact Heap.lt_size (show h.get? a = some _ from x)
 | met f y => exact Heap.lt_size (show h.get? a = some _ from x)
 | ext φ => obtain ⟨_,⟨_,e⟩,_⟩ := x; exact Heap.lt_size e
theorem Paired.mapP {α β : Type} {F G : α → β → Prop} : ∀ {l₁ : List α} {l₂ : List β},Paired F l₁ l₂ → (∀ a b,F a b → G a b) → Paired G l₁ l₂
 | _,_,.nil,_ => .nil
 | _,_,.cons r t,f => .cons (f _ _ r) (Paired.mapP t f)
theorem ObjOk.stay (x : ObjOk P w H h a o) (k : ∀ b u,(b = a ∨ H b = some (.own a)) → h.get? b = some u → h'.get? b = some u)
  (ho : ∀ b,H b = some (.own a) → H' b = some (.own a)) (ht : ∀ b xs,H b = some (.tup xs) → H' b = some (.tup xs)) : ObjOk P w H' h' a o := by
 induction o with
 | lst xs => obtain ⟨z,its,n,r,e⟩ := x; exact ⟨z,its,n,r,k _ _ (.inl rfl) e⟩
 | tup xs => obtain ⟨z,its,r,ob,e,c⟩ := x; exact ⟨z,its,r,ob,k _ _ (.inl rfl) e,c⟩
 | dK kvs => obtain ⟨z,y,vs,r,ob,es,ep,e,c⟩ := x; exact ⟨z,y,vs,r,ob,es,ep,k _ _ (.inl rfl) e,c⟩
 | dT kvs =>
  obtain ⟨z,y,xs,r,ob,es,ep,e,c⟩ := x
  exact ⟨z,y,xs,Paired.mapP r fun p q z => ⟨z.1,ht _ _ z.2.1,z.2.2⟩,ob,es,ep,k _ _ (.inl rfl) e,c⟩
 | set S n => obtain ⟨ob,es,ep,t,e,c⟩ := x; exact ⟨ob,es,ep,t,k _ _ (.inl rfl) e,c⟩
 | ins C dx fs =>
  obtain ⟨d,z,ne,e,mA,⟨od,es,ep,e2,c⟩,r⟩ := x
  exact ⟨ho _ d,z,ne,k _ _ (.inl rfl) e,mA,⟨od,es,ep,k _ _ (.inr d) e2,c⟩,r⟩
 | own y => obtain ⟨ob,e⟩ := x; exact ⟨ob,k _ _ (.inl rfl) e⟩
 | xd fs => obtain ⟨mA,⟨od,es,ep,e,c⟩,r⟩ := x; exact ⟨mA,⟨od,es,ep,k _ _ (.inl rfl) e,c⟩,r⟩
 | rng lo hi => obtain ⟨t,u,v,e⟩ := x; exact ⟨t,u,v,k _ _ (.inl rfl) e⟩
 | frz ob u ih => obtain ⟨e,q⟩ := x; exact ⟨k _ _ (.inl rfl) e,ih q⟩
 | tbl ps =>
  have e : h.get? a = some { cls := .none,data := .fields ps } := x
  show h'.get? a = some { cls := .none,data := .fields ps }
  exact k a _ (.inl rfl) e
 | met f y =>
  have e : h.get? a = some (PySem.W.methodObj (.ref f) (.ref y)) := x
  show h'.get? a = some (PySem.W.methodObj (.ref f) (.ref y))
  exact k a _ (.inl rfl) e
 | ext φ => obtain ⟨p,⟨o,e⟩,st⟩ := x; exact ⟨st _ _ p fun o q => k _ _ (.inl rfl) q,⟨o,k _ _ (.inl rfl) e⟩,st⟩
theorem HOk.lt (x : HOk P w H h) (e : H a = some o) : a < h.objs.size := (x a o e).lt
theorem HOk.fresh (x : HOk P w H h) (e : h.objs.size ≤ a) : H a = none := by
 cases q : H a with
 | none => rfl
 | some u => exact absurd (Nat.lt_of_lt_of_le (x.lt q) e) (Nat.lt_irrefl _)
theorem HOk.kept (x : HOk P w H h) (k : ∀ b u,h.get? b = some u → h'.get? b = some u) : HOk P w H h' := fun a o e =>
 (x a o e).stay (fun b u _ q => k b u q) (fun _ q => q) fun _ _ q => q
theorem HOk.laid (x : HOk P w H h) (k : ∀ b u,h.get? b = some u → h'.get? b = some u) (hp : h.objs.size ≤ a) (new : ObjOk P w (upd H a o) h' a o) : HOk P w (upd H a o) h' := fun b u e => by
 have hn := x.fresh hp
 by_cases hb : b = a
 ·subst hb; rw [upd_same] at e; cases e; exact new
 ·rw [upd_ne hb] at e
  exact (x b u e).stay (fun c v _ q => k c v q) (fun c q => by rw [upd_ne (ne_of_none q hn)]; exact q) fun c xs q => by rw [upd_ne (ne_of_none q hn)]; exact q
end
noncomputable def Rd (H : Hp) (a : Addr) (u : HO) : Prop := H a = some u ∨ ∃ o,H a = some (.frz o u)
theorem Rd.ok {P : Program} {w : World} {H : Hp} {h : Heap} {a : Addr} {u : HO} (r : Rd H a u) (x : HOk P w H h) : ObjOk P w H h a u := by
 rcases r with r | ⟨o,r⟩
 ·exact x a u r
 ·obtain ⟨_,q⟩ := x a _ r
  exact q
noncomputable def Mut : Option HO → Prop
 | some (.lst _) => True
 | some (.dK _) => True
 | some (.dT _) => True
 | some (.set _ _) => True
 | some (.ins _ _ _) => True
 | some (.ext _) => True
 | _ => False
section
variable {P : Program} {w : World} {H : Hp} {h h' : Heap} {x e : Addr} {o' : HO}
theorem HOk.write (ok : HOk P w H h) (mu : Mut (H x)) (he : e = x ∨ H e = some (.own x)) (k : ∀ b u,b ≠ e → h.get? b = some u → h'.get? b = some u) (heo : ∃ u,h'.get? e = some u)
  (new : ObjOk P w (upd H x o') h' x o') : HOk P w (upd H x o') h' := fun b u q => by
 have nown : ∀ c y,H c = some (.own y) → c ≠ x := fun c y r z => by subst z; rw [r] at mu; exact mu
 have ntup : ∀ c xs,H c = some (.tup xs) → c ≠ x := fun c xs r z => by subst z; rw [r] at mu; exact mu
 by_cases hb : b = x
 ·subst hb; rw [upd_same] at q; cases q; exact new
 ·rw [upd_ne hb] at q
  by_cases hbe : b = e
  ·have q' : H b = some (.own x) := by
    rcases he with z | z
    ·exact absurd (hbe.trans z) hb
    ·rw [hbe]; exact z
   rw [q] at q'; cases q'
   obtain ⟨v,hv⟩ := heo
   exact ⟨v,by rw [hbe]; exact hv⟩
  ·refine (ok b u q).stay (fun c v hc r => k c v ?_ r) (fun c r => by rw [upd_ne (nown c b r)]; exact r) fun c xs r => by rw [upd_ne (ntup c xs r)]; exact r
   rcases hc with rfl | hc
   ·exact hbe
   ·rintro rfl
    rcases he with z | z
    ·exact nown c b hc z
    ·rw [hc] at z; cases z; exact hb rfl
end
structure Un (fs ex : List Addr) (H H' : Hp) (h h' : Heap) : Prop where
 keep : ∀ b o,h.get? b = some o → H b = none → b ∉ fs → b ∉ ex → h'.get? b = some o
 slot : ∀ b o,h.get? b = some o → H b = none → b ∈ fs → b ∉ ex → ∃ sl,h'.get? b = some { o with slots := sl }
 free : ∀ b o,h.get? b = some o → H b = none → b ∉ ex → H' b = none
 there : ∀ b o,h.get? b = some o → b ∉ ex → ∃ o',h'.get? b = some o'
 tups : ∀ b xs,H b = some (.tup xs) → H' b = some (.tup xs)
 frzs : ∀ b o u,H b = some (.frz o u) → H' b = some (.frz o u)
 tbls : ∀ b ps,H b = some (.tbl ps) → ∃ more,H' b = some (.tbl (ps ++ more))
section
variable {fs fs' ex ex' : List Addr} {H H1 H2 : Hp} {h h1 h2 h' : Heap} {a x e : Addr} {o : HO}
theorem Un.any (u : Un fs ex H H1 h h1) {b : Addr} {ob : Obj} (q : h.get? b = some ob) (n : H b = none) (hx : b ∉ ex) : ∃ sl,h1.get? b = some { ob with slots := sl } := by
 by_cases hb : b ∈ fs
 ·exact u.slot b ob q n hb hx
 ·exact ⟨ob.slots,u.keep b ob q n hb hx⟩
theorem Un.kept (k : ∀ b u,h.get? b = some u → h'.get? b = some u) : Un fs ex H H h h' :=
 ⟨fun b ob q _ _ _ => k b ob q,fun b ob q _ _ _ => ⟨ob.slots,k b ob q⟩,fun _ _ _ n _ => n,fun b ob q _ => ⟨ob,k b ob q⟩,fun _ _ q => q,fun _ _ _ q => q,fun _ ps q => ⟨#[],by rw [q]; simp⟩⟩
theorem Un.refl : Un fs ex H H h h := Un.kept fun _ _ q => q
theorem Un.laid (k : ∀ b u,h.get? b = some u → h'.get? b = some u) (hp : h.objs.size ≤ a) (hn : H a = none) : Un fs ex H (upd H a o) h h' where
 keep := fun b u q _ _ _ => k b u q
 slot := fun b u q _ _ _ => ⟨u.slots,k b u q⟩
 free := fun b u q n _ => by rw [upd_ne (Nat.ne_of_lt (Nat.lt_of_lt_of_le (Heap.lt_size q) hp))]; exact n
 there := fun b u q _ => ⟨u,k b u q⟩
 tups := fun b xs q => by rw [upd_ne (ne_of_none q hn)]; exact q
 frzs := fun b u xs q => by rw [upd_ne (ne_of_none q hn)]; exact q
 tbls := fun b ps q => ⟨#[],by rw [upd_ne (ne_of_none q hn),q]; simp⟩
theorem Un.write (mu : Mut (H x)) (he : e = x ∨ H e = some (.own x)) (k : ∀ b u,b ≠ e → h.get? b = some u → h'.get? b = some u) (heo : ∃ u,h'.get? e = some u) : Un fs ex H (upd H x o) h h' := by
 have hx : ∀ b,H b = none → b ≠ x := fun b n z => by subst z; rw [n] at mu; exact mu
 have hb : ∀ b,H b = none → b ≠ e := fun b n z => by
  subst z
  rcases he with r | r
  ·exact hx b n r
  ·rw [n] at r; cases r
 have hm : ∀ b u,H b = some u → ¬ Mut (some u) → b ≠ x := fun b u q nm z => by subst z; rw [q] at mu; exact nm mu
 refine ⟨fun b u q n _ _ => k b u (hb b n) q,fun b u q n _ _ => ⟨u.slots,k b u (hb b n) q⟩,fun b u q n _ => by rw [upd_ne (hx b n)]; exact n,fun b u q _ => ?_,
  fun b xs q => by rw [upd_ne (hm b _ q fun z => z)]; exact q,fun b u xs q => by rw [upd_ne (hm b _ q fun z => z)]; exact q,fun b ps q => ⟨#[],by rw [upd_ne (hm b _ q fun z => z),q]; simp⟩⟩
 by_cases hbe : b = e
 ·subst hbe; exact heo
 ·exact ⟨u,k b u hbe q⟩
end
noncomputable def trk (h : Heap) (H : Hp) : List Addr := (List.range h.objs.size).filter fun a => (H a).isSome
noncomputable def hidT (h : Heap) (H : Hp) : Heap := PySem.W.hideAll h (trk h H)
theorem hidT_size (h : Heap) (H : Hp) : (hidT h H).objs.size = h.objs.size := PySem.W.hideAll_size _ _
theorem hidT_get {h : Heap} {H : Hp} {b : Addr} {o : Obj} (e : h.get? b = some o) (n : H b = none) : (hidT h H).get? b = some o :=
 PySem.W.hideAll_get _ e fun hm => by
  have q : (H b).isSome = true := (List.mem_filter.mp hm).2
  rw [n] at q; simp at q
theorem of_hidT {h : Heap} {H : Hp} {b : Addr} {o : Obj} (e : (hidT h H).get? b = some o) : h.get? b = some o ∧ H b = none := by
 have e' : h.get? b = some o := PySem.W.of_hideAll (trk h H) e
 refine ⟨e',?_⟩
 cases q : H b with
 | none => rfl
 | some x =>
  have hm : b ∈ trk h H := List.mem_filter.mpr ⟨List.mem_range.mpr (Heap.lt_size e'),by simp [q]⟩
  have z : (hidT h H).get? b = none := PySem.W.hideAll_none (trk h H) hm
  rw [z] at e; cases e
noncomputable def allNews (g h : Heap) (L : Addr) : List (Addr × Obj) := (List.range h.objs.size).filterMap fun a => if a = L ∨ (g.get? a).isSome = true then none else (h.get? a).map fun o => (a,o)
noncomputable def rest (g h : Heap) (L d : Addr) : List (Addr × Obj) := (allNews g h L).filter fun p => decide (p.1 ≠ d)
end L2
namespace L2
open PySem PySem.Spec PyProof.Rows
structure Mod (K : PySem.W.Frag) (mg : Str → Option Value) (base : Heap) : Prop where
 kin : K.In base
 glob : base.Ns mainGlobals mg
 blt : ∃ mb,base.Ns builtinsNs mb ∧ ∀ x : Str,x ≠ "__name__" → mb x = bootBuiltins x
 nolimit : base.NoLimit
structure Cx where
 prog : Program
 w : World
 K : PySem.W.Frag
 mg : Str → Option Value
 base : Heap
 A : Around
 N : List Str
 s₀ : Shared
 H₀ : Hp
 env : Env
 outer : List Env
 stack : List Env
 ex : List Addr
 fn : Str → Bool
 calm : Bool
 pn : List (Addr × Obj)
 xe : Value → Shared → Prop
noncomputable def frs (l : List Env) : List Addr := l.filterMap (·.frame)
noncomputable abbrev Cx.fs (X : Cx) : List Addr := frs X.outer
noncomputable def Vis (sc : Scope) (x : Str) : Prop := sc.names.lookup x = some .local ∨ sc.names.lookup x = some .cell ∨ sc.names.lookup x = some .free
noncomputable def Loc (sc : Scope) (x : Str) : Prop := sc.names.lookup x = some .local ∨ sc.names.lookup x = some .cell
noncomputable def Look (env : Env) (h : Heap) (m : Str → Option Value) (x : Str) (u : Value) : Prop :=
 (env.kindOf x = some .local ∧ m x = some u) ∨ ((env.kindOf x = some .cell ∨ env.kindOf x = some .free) ∧ ∃ c,env.cells.lookup x = some c ∧ h.IsCell c (some u))
structure Cx.Ok (X : Cx) : Prop where
 mod : Mod X.K X.mg X.base
 kind : X.env.scope.kind = .function
 glob : X.env.globals = mainGlobals
 blt : X.env.builtins = builtinsNs
 above : X.s₀.heap.objs.size ≤ X.env.locals
 inj : ∀ x y c,X.env.cells.lookup x = some c → X.env.cells.lookup y = some c → x = y
 has : ∀ x,(X.env.kindOf x = some .cell ∨ X.env.kindOf x = some .free) → ∃ c,X.env.cells.lookup x = some c
 cab : ∀ x c,X.fn x = true → X.env.cells.lookup x = some c → X.s₀.heap.objs.size ≤ c
 hd : X.calm = true → X.A.handled = none
 frames : X.A.frames = some X.stack
 stk : X.stack = X.outer ∨ (X.stack = X.env :: X.outer ∧ X.env.frame = some X.env.locals)
 exf : ∀ b ∈ X.ex,b ≠ X.env.locals ∧ ∀ x c,X.env.cells.lookup x = some c → c ≠ b
 bs : ∀ b o,X.base.get? b = some o → X.s₀.heap.get? b = some o ∧ X.H₀ b = none
 bsz : X.base.objs.size ≤ X.s₀.heap.objs.size
 noex : ∀ b o,X.base.get? b = some o → b ∉ X.ex
 exfs : ∀ b ∈ X.ex,b ∉ X.fs
 funs : X.s₀.heap.FunFrames X.base X.outer
 frf : ∀ b ∈ X.fs,X.H₀ b = none
structure Inv (X : Cx) (pins : List (Addr × Obj)) (σ : List (Option V)) (H : Hp) (s : Shared) : Prop where
 ok : X.Ok
 os : s.os = X.s₀.os
 bare : AllBare s.gens
 base : Un X.fs X.ex X.H₀ H X.s₀.heap s.heap
 loc : ∃ m,s.heap.Ns X.env.locals m ∧ ∀ (i : Nat) (x : Str) (v : V),X.N[i]? = some x → σ[i]? = some (some v) → Vis X.env.scope x → ∃ u,RelV v u ∧ Look X.env s.heap m x u
 cell : ∀ x c,X.env.cells.lookup x = some c → ∃ v,s.heap.IsCell c v
 free : H X.env.locals = none
 freeC : ∀ x c,X.env.cells.lookup x = some c → H c = none
 pin : ∀ p ∈ X.pn ++ pins,s.heap.get? p.1 = some p.2 ∧ H p.1 = none ∧ p.1 ≠ X.env.locals ∧ p.1 ∉ X.fs ∧ ∀ v,p.2.data ≠ .cell v
 hok : HOk X.prog X.w H s.heap
 len : σ.length = X.N.length
section
variable {X : Cx} {pins : List (Addr × Obj)} {σ : List (Option V)} {H H' : Hp} {s : Shared} {h' : Heap}
theorem Cx.Ok.nofr (ok : X.Ok) {b : Addr} {o : Obj} (e : X.base.get? b = some o) : b ∉ X.fs := fun hb => by
 have := (ok.funs.mem hb).1
 rw [e] at this; cases this
theorem Inv.bs (I : Inv X pins σ H s) : ∀ b o,X.base.get? b = some o → s.heap.get? b = some o ∧ H b = none := fun b o e =>
 ⟨I.base.keep b o (I.ok.bs b o e).1 (I.ok.bs b o e).2 (I.ok.nofr e) (I.ok.noex b o e),I.base.free b o (I.ok.bs b o e).1 (I.ok.bs b o e).2 (I.ok.noex b o e)⟩
theorem Inv.bk (I : Inv X pins σ H s) : ∀ b o,X.base.get? b = some o → s.heap.get? b = some o := fun b o e => (I.bs b o e).1
theorem Inv.mod (I : Inv X pins σ H s) : Mod X.K X.mg X.base := I.ok.mod
theorem Inv.kIn (I : Inv X pins σ H s) : X.K.In s.heap := I.ok.mod.kin.keeps I.bk
theorem Inv.lt (I : Inv X pins σ H s) : X.env.locals < s.heap.objs.size := let ⟨_,hn,_⟩ := I.loc; hn.lt
theorem Inv.sz (I : Inv X pins σ H s) : X.s₀.heap.objs.size ≤ s.heap.objs.size := Nat.le_trans I.ok.above (Nat.le_of_lt I.lt)
theorem Inv.nofs (I : Inv X pins σ H s) {a : Addr} (h : s.heap.objs.size ≤ a) : a ∉ X.fs := fun hb => by
 obtain ⟨_,o,ho,_⟩ := I.ok.funs.mem hb
 exact absurd (Nat.lt_of_lt_of_le (Heap.lt_size ho) (Nat.le_trans I.sz h)) (Nat.lt_irrefl _)
theorem Inv.cne (I : Inv X pins σ H s) : ∀ x c,X.env.cells.lookup x = some c → c ≠ X.env.locals := fun x c e z => by
 obtain ⟨v,o,ho,hd⟩ := I.cell x c e
 obtain ⟨m,⟨o',es,ep,ho',hd',_⟩,_⟩ := I.loc
 rw [z,ho'] at ho; cases ho; rw [hd'] at hd; cases hd
theorem Inv.funs (I : Inv X pins σ H s) : s.heap.FunFrames X.base X.outer := by
 have all : ∀ (l : List Env),(∀ b ∈ frs l,b ∈ X.fs) → X.s₀.heap.FunFrames X.base l → s.heap.FunFrames X.base l := by
  intro l
  induction l with
  | nil => intro _ _; trivial
  | cons env r ih =>
   intro hs hl
   obtain ⟨hk,⟨L,o,hf,hn,ho,hd⟩,hr⟩ := hl
   have hL : L ∈ X.fs := hs L (by unfold frs; rw [List.filterMap_cons,hf]; exact List.mem_cons_self)
   obtain ⟨sl,e⟩ := I.base.slot L o ho (I.ok.frf L hL) hL fun z => I.ok.exfs L z hL
   exact ⟨hk,⟨L,_,hf,hn,e,hd⟩,ih (fun b hb => hs b (by unfold frs; rw [List.filterMap_cons,hf]; exact List.mem_cons_of_mem _ hb)) hr⟩
 exact all X.outer (fun _ hb => hb) I.ok.funs
theorem Inv.stack (I : Inv X pins σ H s) : s.heap.FunFrames X.base X.stack := by
 rcases I.ok.stk with e | ⟨e,hf⟩
 ·rw [e]; exact I.funs
 ·rw [e]
  obtain ⟨m,hn,_⟩ := I.loc
  refine .cons (by rw [I.ok.kind]; decide) hf hn ?_ I.funs
  exact Heap.get?_none_of_le (Nat.le_trans I.ok.bsz I.ok.above)
theorem Inv.stkSub (I : Inv X pins σ H s) : ∀ b ∈ frs X.stack,b ∈ X.env.locals :: X.fs := fun b hb => by
 rcases I.ok.stk with e | ⟨e,hf⟩
 ·rw [e] at hb; exact List.mem_cons_of_mem _ hb
 ·rw [e] at hb
  unfold frs at hb
  rw [List.filterMap_cons,hf] at hb
  exact hb
theorem Inv.stkFree (I : Inv X pins σ H s) : ∀ b ∈ frs X.stack,H b = none := fun b hb => by
 rcases List.mem_cons.mp (I.stkSub b hb) with e | hb
 ·rw [e]; exact I.free
 ·obtain ⟨_,o,ho,_⟩ := I.ok.funs.mem hb
  exact I.base.free b o ho (I.ok.frf b hb) fun z => I.ok.exfs b z hb
theorem Inv.step {g' : Array GenState} {t' : Nat} {d' : Drawn} {ch : List Addr} (I : Inv X pins σ H s)
  (hch : ∀ b ∈ ch,(b ∈ X.ex ∨ X.s₀.heap.objs.size ≤ b) ∧ b ≠ X.env.locals ∧ (∀ x c,X.env.cells.lookup x = some c → c ≠ b) ∧ ∀ p ∈ X.pn ++ pins,p.1 ≠ b)
  (keep : ∀ b o,b ≠ X.env.locals → b ∉ X.fs → b ∉ ch → s.heap.get? b = some o → H b = none → h'.get? b = some o)
  (slot : ∀ b o,b ≠ X.env.locals → b ∈ X.fs → b ∉ ch → s.heap.get? b = some o → H b = none → ∃ sl,h'.get? b = some { o with slots := sl }) (free : ∀ b o,b ∉ ch → s.heap.get? b = some o → H b = none → H' b = none)
  (there : ∀ b o,b ∉ ch → s.heap.get? b = some o → ∃ o',h'.get? b = some o')
  (tups : ∀ b xs,H b = some (.tup xs) → H' b = some (.tup xs)) (frzs : ∀ b o u,H b = some (.frz o u) → H' b = some (.frz o u)) (tbls : ∀ b ps,H b = some (.tbl ps) → ∃ more,H' b = some (.tbl (ps ++ more)))
  (ns : ∀ m,s.heap.Ns X.env.locals m → h'.Ns X.env.locals m) (hok : HOk X.prog X.w H' h') (hg : AllBare g') :
  Inv X pins σ H' { s with heap := h',gens := g',drawn := d',toks := t' } := by
 have neL : ∀ b o,X.s₀.heap.get? b = some o → b ≠ X.env.locals := fun b o e => Nat.ne_of_lt (Nat.lt_of_lt_of_le (Heap.lt_size e) I.ok.above)
 have neC : ∀ b o,X.s₀.heap.get? b = some o → b ∉ X.ex → b ∉ ch := fun b o e hx hb => by
  rcases (hch b hb).1 with z | z
  ·exact hx z
  ·exact absurd (Nat.lt_of_lt_of_le (Heap.lt_size e) z) (Nat.lt_irrefl _)
 have cellK : ∀ x c,X.env.cells.lookup x = some c → ∀ v,s.heap.IsCell c v → h'.IsCell c v := fun x c e v ⟨o,ho,hd⟩ => by
  have nch : c ∉ ch := fun z => (hch c z).2.2.1 x c e rfl
  by_cases hc : c ∈ X.fs
  ·obtain ⟨sl,q⟩ := slot c o (I.cne x c e) hc nch ho (I.freeC x c e)
   exact ⟨_,q,hd⟩
  ·exact ⟨o,keep c o (I.cne x c e) hc nch ho (I.freeC x c e),hd⟩
 refine ⟨I.ok,I.os,hg,⟨fun b o e n hb hx => ?_,fun b o e n hb hx => ?_,fun b o e n hx => ?_,fun b o e hx => ?_,fun b xs e => tups b xs (I.base.tups b xs e),fun b o xs e => frzs b o xs (I.base.frzs b o xs e),fun b ps e => ?_⟩,?_,fun x c e => ?_,?_,fun x c e => ?_,fun p hp => ?_,hok,I.len⟩
 ·exact keep b o (neL b o e) hb (neC b o e hx) (I.base.keep b o e n hb hx) (I.base.free b o e n hx)
 ·obtain ⟨sl,e1⟩ := I.base.slot b o e n hb hx
  obtain ⟨sl',e2⟩ := slot b _ (neL b o e) hb (neC b o e hx) e1 (I.base.free b o e n hx)
  exact ⟨sl',e2⟩
 ·obtain ⟨o',e1⟩ := I.base.there b o e hx
  exact free b o' (neC b o e hx) e1 (I.base.free b o e n hx)
 ·obtain ⟨o',e1⟩ := I.base.there b o e hx
  exact there b o' (neC b o e hx) e1
 ·obtain ⟨m1,e1⟩ := I.base.tbls b ps e
  obtain ⟨m2,e2⟩ := tbls b _ e1
  exact ⟨m1 ++ m2,by rw [e2,Array.append_assoc]⟩
 ·obtain ⟨m,hn,hl⟩ := I.loc
  refine ⟨m,ns m hn,fun i x v e1 e2 e3 => ?_⟩
  obtain ⟨u,r,l⟩ := hl i x v e1 e2 e3
  refine ⟨u,r,?_⟩
  rcases l with l | ⟨k,c,e,z⟩
  ·exact .inl l
  ·exact .inr ⟨k,c,e,cellK x c e _ z⟩
 ·obtain ⟨v,z⟩ := I.cell x c e
  exact ⟨v,cellK x c e v z⟩
 ·obtain ⟨m,⟨o,_,_,ho,_⟩,_⟩ := I.loc
  exact free _ o (fun z => (hch _ z).2.1 rfl) ho I.free
 ·obtain ⟨v,o,ho,hd⟩ := I.cell x c e
  exact free c o (fun z => (hch c z).2.2.1 x c e rfl) ho (I.freeC x c e)
 ·obtain ⟨e,n,ne,nf,d⟩ := I.pin p hp
  have nch : p.1 ∉ ch := fun z => (hch p.1 z).2.2.2 p hp rfl
  exact ⟨keep p.1 p.2 ne nf nch e n,free p.1 p.2 nch e n,ne,nf,d⟩
theorem Inv.un {t' : Nat} (I : Inv X pins σ H s) (u : Un X.fs [] H H' s.heap h') (hok : HOk X.prog X.w H' h') : Inv X pins σ H' { s with heap := h',toks := t' } := by
 obtain ⟨m,⟨o,es,ep,ho,r⟩,_⟩ := id I.loc
 obtain ⟨sl,hL⟩ := u.any ho I.free (by simp)
 exact I.step (g' := s.gens) (d' := s.drawn) (ch := []) (fun _ z => nomatch z) (fun b o _ hb _ e n => u.keep b o e n hb (by simp)) (fun b o _ hb _ e n => u.slot b o e n hb (by simp)) (fun b o _ e n => u.free b o e n (by simp)) (fun b o _ e => u.there b o e (by simp)) u.tups u.frzs u.tbls (fun m' hm => by
  obtain ⟨o',es',ep',ho',r'⟩ := hm
  rw [ho] at ho'; cases ho'
  exact ⟨_,es',ep',hL,r'⟩) hok I.bare
theorem Inv.call {g' : Array GenState} {t' : Nat} {d' : Drawn} {ch : List Addr} (I : Inv X pins σ H s) (u : Un (frs X.stack) ch H H' s.heap h') (hok : HOk X.prog X.w H' h') (hg : AllBare g')
  (hch : ∀ b ∈ ch,(b ∈ X.ex ∨ X.s₀.heap.objs.size ≤ b) ∧ b ≠ X.env.locals ∧ (∀ x c,X.env.cells.lookup x = some c → c ≠ b) ∧ ∀ p ∈ X.pn ++ pins,p.1 ≠ b) :
  Inv X pins σ H' { s with heap := h',gens := g',drawn := d',toks := t' } := by
 obtain ⟨m,⟨o,es,ep,ho,r⟩,_⟩ := id I.loc
 obtain ⟨sl,hL⟩ := u.any ho I.free fun z => (hch _ z).2.1 rfl
 exact I.step (ch := ch) hch (fun b o hL hb hc e n => u.keep b o e n (fun z => (List.mem_cons.mp (I.stkSub b z)).elim hL hb) hc) (fun b o _ _ hc e n => u.any e n hc) (fun b o hc e n => u.free b o e n hc) (fun b o hc e => u.there b o e hc) u.tups u.frzs u.tbls (fun m' hm => by
  obtain ⟨o',es',ep',ho',r'⟩ := hm
  rw [ho] at ho'; cases ho'
  exact ⟨_,es',ep',hL,r'⟩) hok hg
theorem Inv.turned {t' : Nat} {it : Addr} (I : Inv X pins σ H s) (k : ∀ b o,b ≠ it → s.heap.get? b = some o → h'.get? b = some o) (hn : H it = none) (hL : it ≠ X.env.locals)
  (h1 : it ∈ X.ex ∨ X.s₀.heap.objs.size ≤ it) (h2 : ∀ x c,X.env.cells.lookup x = some c → c ≠ it) (h3 : ∀ p ∈ X.pn ++ pins,p.1 ≠ it) : Inv X pins σ H { s with heap := h',toks := t' } := by
 have nit : ∀ b u,H b = some u → b ≠ it := fun b u e z => by rw [z,hn] at e; cases e
 refine I.step (g' := s.gens) (d' := s.drawn) (ch := [it]) (fun b hb => ?_) (fun b o _ _ hc e _ => k b o (fun z => hc (by simp [z])) e) (fun b o _ _ hc e _ => ⟨o.slots,k b o (fun z => hc (by simp [z])) e⟩) (fun _ _ _ _ n => n)
  (fun b o hc e => ⟨o,k b o (fun z => hc (by simp [z])) e⟩) (fun _ _ e => e) (fun _ _ _ e => e) (fun b ps e => ⟨#[],by rw [e]; simp⟩) (fun m hm => ?_) (fun b u e => ?_) I.bare
 ·have e : b = it := by simpa using hb
  subst e
  exact ⟨h1,hL,h2,h3⟩
 ·obtain ⟨o,es,ep,ho,r⟩ := hm
  exact ⟨o,es,ep,k _ o (Ne.symm hL) ho,r⟩
 ·refine (I.hok b u e).stay (fun c v hc q => k c v ?_ q) (fun _ q => q) fun _ _ q => q
  rcases hc with z | z
  ·rw [z]; exact nit b u e
  ·exact nit c _ z
theorem Inv.tok (I : Inv X pins σ H s) (t : Nat) : Inv X pins σ H { s with toks := t } := I.un (h' := s.heap) (t' := t) Un.refl I.hok
theorem Inv.kept {t' : Nat} (I : Inv X pins σ H s) (k : ∀ b u,s.heap.get? b = some u → h'.get? b = some u) : Inv X pins σ H { s with heap := h',toks := t' } := I.un (Un.kept k) (I.hok.kept k)
theorem Inv.laid {a : Addr} {o : HO} {t' : Nat} (I : Inv X pins σ H s) (k : ∀ b u,s.heap.get? b = some u → h'.get? b = some u) (hp : s.heap.objs.size ≤ a) (new : ObjOk X.prog X.w (upd H a o) h' a o) :
  Inv X pins σ (upd H a o) { s with heap := h',toks := t' } := I.un (Un.laid k hp (I.hok.fresh hp)) (I.hok.laid k hp new)
theorem Inv.write {x e : Addr} {o : HO} {t' : Nat} (I : Inv X pins σ H s) (mu : Mut (H x)) (he : e = x ∨ H e = some (.own x)) (k : ∀ b u,b ≠ e → s.heap.get? b = some u → h'.get? b = some u) (heo : ∃ u,h'.get? e = some u)
  (new : ObjOk X.prog X.w (upd H x o) h' x o) : Inv X pins σ (upd H x o) { s with heap := h',toks := t' } := I.un (Un.write mu he k heo) (I.hok.write mu he k heo new)
theorem Inv.pins_of {pins' : List (Addr × Obj)} (I : Inv X pins σ H s) (h : ∀ p ∈ pins',s.heap.get? p.1 = some p.2 ∧ H p.1 = none ∧ p.1 ≠ X.env.locals ∧ p.1 ∉ X.fs ∧ ∀ v,p.2.data ≠ .cell v) : Inv X pins' σ H s :=
 ⟨I.ok,I.os,I.bare,I.base,I.loc,I.cell,I.free,I.freeC,fun p hp => (List.mem_append.mp hp).elim (fun z => I.pin p (List.mem_append_left _ z)) (h p),I.hok,I.len⟩
theorem nodup_ix {N : List Str} (hN : N.Nodup) {i j : Nat} {x : Str} (a : N[i]? = some x) (b : N[j]? = some x) : i = j := by
 obtain ⟨h1,e1⟩ := List.getElem?_eq_some_iff.mp a
 obtain ⟨h2,e2⟩ := List.getElem?_eq_some_iff.mp b
 exact (List.getElem_inj hN).mp (e1.trans e2.symm)
theorem store_ok2 {M : Model} {A : Around} {E : Value → Shared → Prop} {i : Nat} {x : Str} {v : V} {u : Value} {Q : Unit → Shared → Prop} (I : Inv X pins σ H s) (hN : X.N.Nodup) (hi : X.N[i]? = some x) (hx : Loc X.env.scope x) (r : RelV v u)
  (h : ∀ s',Inv X pins (σ.set i (some v)) H s' → (∃ a,Heap.SameBut a s.heap s'.heap ∧ (a = X.env.locals ∨ X.env.cells.lookup x = some a)) → Q () s') (hf : X.fn x = true ∨ X.env.scope.names.lookup x = some .local := by first | exact .inl rfl | exact .inr rfl | assumption) : wpAny M A (storeName X.env x u) Q E s := by
 obtain ⟨m,hn,hl⟩ := id I.loc
 have hcls : (X.env.scope.kind == .class || (X.env.scope.kind == .module && X.env.locals != X.env.globals)) = false := by rw [I.ok.kind]; rfl
 have hiσ : i < σ.length := by rw [I.len]; exact (List.getElem?_eq_some_iff.mp hi).1
 have cne := I.cne
 have tracked : ∀ {a : Addr} {h' : Heap},(∃ o,s.heap.get? a = some o ∧ H a = none) → Heap.SameBut a s.heap h' → HOk X.prog X.w H h' := fun {a h'} ha hs b ob e => by
  obtain ⟨_,_,hfree⟩ := ha
  refine (I.hok b ob e).stay (fun c w' hc q => (hs.2 c ?_).trans q) (fun _ q => q) fun _ _ q => q
  rintro rfl
  rcases hc with rfl | hc
  ·rw [hfree] at e; cases e
  ·rw [hfree] at hc; cases hc
 rcases hx with hk | hk
 ·refine wpAny_storeName_local hk hn (fun h' hn' hs => ?_) hcls
  obtain ⟨oL,_,_,hoL,_⟩ := id hn
  refine h _ ⟨I.ok,I.os,I.bare,⟨fun b o e n hb hx => ?_,fun b o e n hb hx => ?_,I.base.free,fun b o e hx => ?_,I.base.tups,I.base.frzs,I.base.tbls⟩,⟨_,hn',fun j y v' e1 e2 e3 => ?_⟩,fun y c e => ?_,I.free,I.freeC,fun p hp => ?_,tracked ⟨oL,hoL,I.free⟩ hs,by simpa using I.len⟩ ⟨_,hs,.inl rfl⟩
  ·exact (hs.2 b (Nat.ne_of_lt (Nat.lt_of_lt_of_le (Heap.lt_size e) I.ok.above))).trans (I.base.keep b o e n hb hx)
  ·obtain ⟨sl,e1⟩ := I.base.slot b o e n hb hx
   exact ⟨sl,(hs.2 b (Nat.ne_of_lt (Nat.lt_of_lt_of_le (Heap.lt_size e) I.ok.above))).trans e1⟩
  ·obtain ⟨o',e1⟩ := I.base.there b o e hx
   exact ⟨o',(hs.2 b (Nat.ne_of_lt (Nat.lt_of_lt_of_le (Heap.lt_size e) I.ok.above))).trans e1⟩
  ·by_cases hj : j = i
   ·subst hj
    rw [hi] at e1; cases e1
    rw [List.getElem?_set_self hiσ] at e2
    cases e2
    exact ⟨u,r,.inl ⟨hk,by simp⟩⟩
   ·rw [List.getElem?_set_ne (Ne.symm hj)] at e2
    obtain ⟨u',r',q⟩ := hl j y v' e1 e2 e3
    refine ⟨u',r',?_⟩
    rcases q with ⟨k,e⟩ | ⟨k,c,e,z⟩
    ·refine .inl ⟨k,?_⟩
     have : y ≠ x := fun e => hj (nodup_ix hN e1 (e ▸ hi))
     simp [this,e]
    ·exact .inr ⟨k,c,e,z.sameBut hs (cne y c e)⟩
  ·obtain ⟨w',z⟩ := I.cell y c e
   exact ⟨w',z.sameBut hs (cne y c e)⟩
  ·obtain ⟨e,n,ne,nf,d⟩ := I.pin p hp
   exact ⟨(hs.2 p.1 ne).trans e,n,ne,nf,d⟩
 ·have hfn : X.fn x = true := by
   rcases hf with z | z
   ·exact z
   ·rw [z] at hk; cases hk
  obtain ⟨c,hc⟩ := I.ok.has x (.inl hk)
  obtain ⟨w',z⟩ := I.cell x c hc
  refine wpAny_storeName_cell I.ok.kind hk hc z (fun h' hc' hs => ?_)
  obtain ⟨oc,hoc,hocd⟩ := id z
  refine h { s with heap := h' } ⟨I.ok,I.os,I.bare,⟨fun b o e n hb hx => ?_,fun b o e n hb hx => ?_,I.base.free,fun b o e hx => ?_,I.base.tups,I.base.frzs,I.base.tbls⟩,⟨m,hn.sameBut hs (Ne.symm (cne x c hc)),fun j y v' e1 e2 e3 => ?_⟩,fun y c' e => ?_,I.free,I.freeC,fun p hp => ?_,tracked ⟨oc,hoc,I.freeC x c hc⟩ hs,by simpa using I.len⟩ ⟨c,hs,.inr hc⟩
  ·exact (hs.2 b (Nat.ne_of_lt (Nat.lt_of_lt_of_le (Heap.lt_size e) (I.ok.cab x c hfn hc)))).trans (I.base.keep b o e n hb hx)
  ·obtain ⟨sl,e1⟩ := I.base.slot b o e n hb hx
   exact ⟨sl,(hs.2 b (Nat.ne_of_lt (Nat.lt_of_lt_of_le (Heap.lt_size e) (I.ok.cab x c hfn hc)))).trans e1⟩
  ·obtain ⟨o',e1⟩ := I.base.there b o e hx
   exact ⟨o',(hs.2 b (Nat.ne_of_lt (Nat.lt_of_lt_of_le (Heap.lt_size e) (I.ok.cab x c hfn hc)))).trans e1⟩
  ·by_cases hj : j = i
   ·subst hj
    rw [hi] at e1; cases e1
    rw [List.getElem?_set_self hiσ] at e2
    cases e2
    exact ⟨u,r,.inr ⟨.inl hk,c,hc,hc'⟩⟩
   ·rw [List.getElem?_set_ne (Ne.symm hj)] at e2
    obtain ⟨u',r',q⟩ := hl j y v' e1 e2 e3
    refine ⟨u',r',?_⟩
    rcases q with q | ⟨k,c',e,z'⟩
    ·exact .inl q
    ·refine .inr ⟨k,c',e,z'.sameBut hs ?_⟩
     rintro rfl
     exact hj (nodup_ix hN e1 (I.ok.inj _ _ _ e hc ▸ hi))
  ·by_cases hcc : c' = c
   ·subst hcc; exact ⟨_,hc'⟩
   ·obtain ⟨w2,z2⟩ := I.cell y c' e
    exact ⟨w2,z2.sameBut hs hcc⟩
  ·obtain ⟨e,n,ne,nf,d⟩ := I.pin p hp
   refine ⟨(hs.2 p.1 ?_).trans e,n,ne,nf,d⟩
   intro q
   rw [q,hoc] at e
   have q' : oc = p.2 := Option.some.inj e
   exact d w' (by rw [← q']; exact hocd)
theorem store_ok {M : Model} {A : Around} {E : Value → Shared → Prop} {i : Nat} {x : Str} {v : V} {u : Value} {Q : Unit → Shared → Prop} (I : Inv X pins σ H s) (hN : X.N.Nodup) (hi : X.N[i]? = some x) (hx : Loc X.env.scope x) (r : RelV v u)
  (h : ∀ s',Inv X pins (σ.set i (some v)) H s' → Q () s') (hf : X.fn x = true ∨ X.env.scope.names.lookup x = some .local := by first | exact .inl rfl | exact .inr rfl | assumption) : wpAny M A (storeName X.env x u) Q E s :=
 store_ok2 I hN hi hx r (fun s' I' _ => h s' I') hf
theorem Inv.call' {s' : Shared} {ch : List Addr} (I : Inv X pins σ H s) (ho : s'.os = s.os) (u : Un (frs X.stack) ch H H' s.heap s'.heap) (hok : HOk X.prog X.w H' s'.heap) (hg : AllBare s'.gens)
  (hch : ∀ b ∈ ch,(b ∈ X.ex ∨ X.s₀.heap.objs.size ≤ b) ∧ b ≠ X.env.locals ∧ (∀ x c,X.env.cells.lookup x = some c → c ≠ b) ∧ ∀ p ∈ X.pn ++ pins,p.1 ≠ b) : Inv X pins σ H' s' := by
 obtain ⟨h',g',d',t',o'⟩ := s'
 have e : o' = s.os := ho
 subst e
 exact I.call (g' := g') (t' := t') (d' := d') u hok hg hch
end
noncomputable abbrev XK := Value → Option Addr → Hp → Prop
noncomputable abbrev St := List (Option V)
noncomputable abbrev VK := V → Hp → Prop
noncomputable abbrev TE := St → Hp → VK → Prop
noncomputable abbrev TT := St → Hp → (Bool → Hp → Prop) → Prop
noncomputable abbrev TA := St → Hp → (List V → Hp → Prop) → Prop
structure Ends where
 nx : St → Hp → Prop
 rt : VK
 bk : St → Hp → Prop := fun _ _ => False
 ct : St → Hp → Prop := fun _ _ => False
noncomputable abbrev TS := Ends → St → Hp → Prop
noncomputable def EP (X : Cx) (pins : List (Addr × Obj)) (σ : St) (Q : VK) (u : Value) (s' : Shared) : Prop := ∃ v H',Inv X pins σ H' s' ∧ RelV v u ∧ Q v H'
noncomputable def TP (X : Cx) (pins : List (Addr × Obj)) (σ : St) (Q : Bool → Hp → Prop) (b : Bool) (s' : Shared) : Prop := ∃ H',Inv X pins σ H' s' ∧ Q b H'
noncomputable def AP (X : Cx) (pins : List (Addr × Obj)) (σ : St) (Q : List V → Hp → Prop) (us : List Value) (s' : Shared) : Prop := ∃ vs H',Inv X pins σ H' s' ∧ Vals vs us ∧ Q vs H'
noncomputable def SP (X : Cx) (pins : List (Addr × Obj)) (D : Ends) (f : Flow) (s' : Shared) : Prop :=
 match f with
 | .next => ∃ σ' H',Inv X pins σ' H' s' ∧ D.nx σ' H'
 | .brk => ∃ σ' H',Inv X pins σ' H' s' ∧ D.bk σ' H'
 | .cont => ∃ σ' H',Inv X pins σ' H' s' ∧ D.ct σ' H'
 | .ret u => ∃ v σ' H',Inv X pins σ' H' s' ∧ RelV v u ∧ D.rt v H'
noncomputable def PE (X : Cx) (e : Expr) (t : TE) : Prop :=
 ∀ (pins : List (Addr × Obj)) (s : Shared) (σ : St) (H : Hp) (Q : VK),Inv X pins σ H s → t σ H Q → wpAny (model X.prog X.w) X.A (eval e X.env) (EP X pins σ Q) X.xe s
noncomputable def PT (X : Cx) (e : Expr) (t : TT) : Prop :=
 ∀ (pins : List (Addr × Obj)) (s : Shared) (σ : St) (H : Hp) (Q : Bool → Hp → Prop),Inv X pins σ H s → t σ H Q → wpAny (model X.prog X.w) X.A (isTrue e X.env (eval e X.env)) (TP X pins σ Q) X.xe s
noncomputable def PW (X : Cx) (e : Expr) (t : TT) : Prop :=
 ∀ (whole : Sem Value) (pins : List (Addr × Obj)) (s : Shared) (σ : St) (H : Hp) (Q : Bool → Hp → Prop),Inv X pins σ H s → t σ H Q → wpAny (model X.prog X.w) X.A (isTrue e X.env whole) (TP X pins σ Q) X.xe s
theorem PW.pt {X : Cx} {e : Expr} {t : TT} (h : PW X e t) : PT X e t := h _
noncomputable def PA (X : Cx) (es : List Expr) (t : TA) : Prop :=
 ∀ (pos : Pos) (pins : List (Addr × Obj)) (s : Shared) (σ : St) (H : Hp) (Q : List V → Hp → Prop),Inv X pins σ H s → t σ H Q → wpAny (model X.prog X.w) X.A (spliced (backTo pos (starEach es X.env))) (AP X pins σ Q) X.xe s
noncomputable def PS (X : Cx) (st : Stmt) (t : TS) : Prop :=
 ∀ (pins : List (Addr × Obj)) (s : Shared) (σ : St) (H : Hp) (D : Ends),Inv X pins σ H s → t D σ H → wpAny (model X.prog X.w) X.A (exec st X.env) (SP X pins D) X.xe s
noncomputable def PSs (X : Cx) (st : List Stmt) (t : TS) : Prop :=
 ∀ (pins : List (Addr × Obj)) (s : Shared) (σ : St) (H : Hp) (D : Ends),Inv X pins σ H s → t D σ H → wpAny (model X.prog X.w) X.A (execs st X.env) (SP X pins D) X.xe s
theorem thn {α : Type} {t : Sem α} {Q Q' : α → Shared → Prop} {M : Model} {A : Around} {E : Value → Shared → Prop} {s : Shared} (h : wpAny M A t Q E s) (hQ : ∀ a s,Q a s → Q' a s) : wpAny M A t Q' E s := wpAny_mono h hQ fun _ _ x => x
end L2
namespace L2
open PySem PySem.Spec PyProof.Rows
section
variable {X : Cx}
inductive IVar (i : Nat) (σ : St) (H : Hp) (Q : VK) : Prop
 | mk (v : V) : (σ[i]? = some (some v)) → (Q v H) → IVar i σ H Q
noncomputable def tVar (i : Nat) : TE := fun σ H Q => IVar i σ H Q
noncomputable def tC (v : V) : TE := fun _ H Q => Q v H
theorem pe_var {i : Nat} {x : Str} {pos : Pos} (hN : X.N[i]? = some x) (hv : Vis X.env.scope x) (hd : (x == ("__debug__" : Str)) = false := by decide) (hcd : (x == ("__classdict__" : Str)) = false := by decide) : PE X (.Name x pos) (tVar i) := by
 intro pins s σ H Q I h
 obtain ⟨v,e,h⟩ := h
 obtain ⟨m,hn,hl⟩ := I.loc
 obtain ⟨u,r,l⟩ := hl i x v hN e hv
 have fin : EP X pins σ Q u s := ⟨v,H,I,r,h⟩
 rcases l with ⟨hk,hm⟩ | ⟨hk,c,hc,hcell⟩
 ·exact wpAny_Name (wpAny_loadName_local I.ok.kind hk hn hm fin) hd
 ·rcases hk with hk | hk
  ·exact wpAny_Name (wpAny_loadName_cell I.ok.kind hk hc hcell fin) hd
  ·exact wpAny_Name (wpAny_loadName_free I.ok.kind hk hc hcell fin hcd) hd
theorem pe_int {i j pos} : PE X (.Constant (.int i) j pos) (tC (.int i)) := fun _ _ _ H _ I h => wpAny_Constant_int ⟨.int i,H,I.tok _,⟨_,rfl⟩,h⟩
theorem pe_bl {b j pos} : PE X (.Constant (.bool b) j pos) (tC (.bl b)) := fun _ _ _ H _ I h => Constant_bool ⟨.bl b,H,I,rfl,h⟩
theorem pe_non {j pos} : PE X (.Constant .none j pos) (tC .non) := fun _ _ _ H _ I h => Constant_none ⟨.non,H,I,rfl,h⟩
theorem pe_str {x j pos} : PE X (.Constant (.str x) j pos) (tC (.str x)) := fun _ _ _ H _ I h => Calls.Constant_str ⟨.str x,H,I.tok _,⟨_,rfl⟩,h⟩
noncomputable def Gl (X : Cx) (x : Str) : Prop := X.env.kindOf x = some .globalImplicit
theorem ld_glob {E : Value → Shared → Prop} {pins : List (Addr × Obj)} {s : Shared} {σ : St} {H : Hp} {x : Str} {u : Value} {pos : Pos} {Q : Value → Shared → Prop} (I : Inv X pins σ H s) (hg : Gl X x) (hm : X.mg x = some u) (h : Q u s)
  (hd : (x == ("__debug__" : Str)) = false := by decide) : wpAny (model X.prog X.w) X.A (eval (.Name x pos) X.env) Q E s :=
 Calls.Name_function_global I.ok.kind hg (Calls.loadGlobal_global (by rw [I.ok.glob]; exact I.mod.glob.keeps I.bk) hm h) hd
theorem ld_blt {E : Value → Shared → Prop} {pins : List (Addr × Obj)} {s : Shared} {σ : St} {H : Hp} {x : Str} {u : Value} {pos : Pos} {Q : Value → Shared → Prop} (I : Inv X pins σ H s) (hg : Gl X x) (hm : X.mg x = none) (hv : bootBuiltins x = some u) (h : Q u s)
  (hn : x ≠ "__name__" := by decide) (hd : (x == ("__debug__" : Str)) = false := by decide) : wpAny (model X.prog X.w) X.A (eval (.Name x pos) X.env) Q E s := by
 obtain ⟨mb,h1,h2⟩ := I.mod.blt
 exact Calls.Name_function_global I.ok.kind hg (Calls.loadGlobal_builtin (by rw [I.ok.glob]; exact I.mod.glob.keeps I.bk) hm (by rw [I.ok.blt]; exact h1.keeps I.bk) ((h2 x hn).trans hv) h) hd
variable {a b : Expr} {ta tb : TE} {pos : Pos}
variable {tA tB' : TT} {rest : List Expr}
noncomputable def tAnd (t u : TT) : TT := fun σ H Q => t σ H fun c H1 => if c = true then u σ H1 Q else Q false H1
noncomputable def tOr (t u : TT) : TT := fun σ H Q => t σ H fun c H1 => if c = true then Q true H1 else u σ H1 Q
theorem pw_and1 (ha : PT X a tA) : PW X (.BoolOp .And [a] pos) tA := by
 intro wh pins s σ H Q I h
 refine isTrue_and (thn (ha pins s σ H Q I h) fun c s1 e => ?_)
 cases c with
 | true => exact isTrue_and_nil e
 | false => exact e
theorem pw_or1 (ha : PT X a tA) : PW X (.BoolOp .Or [a] pos) tA := by
 intro wh pins s σ H Q I h
 refine isTrue_or (thn (ha pins s σ H Q I h) fun c s1 e => ?_)
 cases c with
 | false => exact isTrue_or_nil e
 | true => exact e
theorem pw_and (ha : PT X a tA) (hb : PW X (.BoolOp .And (b :: rest) pos) tB') : PW X (.BoolOp .And (a :: b :: rest) pos) (tAnd tA tB') := by
 intro wh pins s σ H Q I h
 refine isTrue_and (thn (ha pins s σ H _ I h) fun c s1 ⟨H1,I1,q1⟩ => ?_)
 cases c with
 | true => exact hb wh pins s1 σ H1 Q I1 q1
 | false => exact ⟨H1,I1,q1⟩
theorem pw_or (ha : PT X a tA) (hb : PW X (.BoolOp .Or (b :: rest) pos) tB') : PW X (.BoolOp .Or (a :: b :: rest) pos) (tOr tA tB') := by
 intro wh pins s σ H Q I h
 refine isTrue_or (thn (ha pins s σ H _ I h) fun c s1 ⟨H1,I1,q1⟩ => ?_)
 cases c with
 | true => exact ⟨H1,I1,q1⟩
 | false => exact hb wh pins s1 σ H1 Q I1 q1
end
end L2
namespace L2
open PySem PySem.Spec PyProof.Rows
noncomputable def SqL (K : PySem.W.Frag) (H : Hp) (a : Addr) (xs : List V) : Prop :=
 Rd H a (.lst xs) ∨
  ∃ (o : Obj) (its : Array Value) (n : Nat),K.lookup a = some o ∧ o.cls = .type "list" ∧ o.dict = none ∧ o.data = .seq its n ∧ its.size ≤ sizeLine ∧ Vals xs its.toList
noncomputable def SqT (K : PySem.W.Frag) (H : Hp) (a : Addr) (xs : List V) : Prop :=
 Rd H a (.tup xs) ∨
  ∃ (o : Obj) (its : Array Value) (n : Nat),K.lookup a = some o ∧ o.cls = .type "tuple" ∧ o.data = .seq its n ∧ its.size ≤ sizeLine ∧ Vals xs its.toList
noncomputable def absV : Value → Option V
 | .none => some .non
 | .bool b => some (.bl b)
 | .int i _ => some (.int i)
 | .str x _ => some (.str x)
 | .bytes b _ => some (.byt b)
 | .float b _ => some (.flt b)
 | .ref a => some (.ref a)
 | .type n => some (.ty n)
 | _ => none
theorem RelV.abs {x : V} {u : Value} (r : RelV x u) : absV u = some x := by
 cases x with
 | non => cases r; rfl
 | bl _ => cases r; rfl
 | int _ => obtain ⟨t,rfl⟩ := r; rfl
 | str _ => obtain ⟨t,rfl⟩ := r; rfl
 | byt _ => obtain ⟨t,rfl⟩ := r; rfl
 | flt _ => obtain ⟨t,rfl⟩ := r; rfl
 | ref _ => cases r; rfl
 | ty _ => cases r; rfl
theorem RelV.inj {x y : V} {u : Value} (r : RelV x u) (q : RelV y u) : x = y := Option.some.inj (r.abs.symm.trans q.abs)
theorem Vals.inj : ∀ {xs ys : List V} {us : List Value},Vals xs us → Vals ys us → xs = ys
 | _,_,_,.nil,.nil => rfl
 | _,_,_,.cons r t,.cons r' t' => by rw [r.inj r',Vals.inj t t']
section
variable {X : Cx} {pins : List (Addr × Obj)} {σ : St} {H : Hp} {s : Shared} {a : Addr} {xs ys : List V}
theorem SqL.of {K : PySem.W.Frag} (h : H a = some (.lst xs)) : SqL K H a xs := .inl (.inl h)
theorem Inv.list (I : Inv X pins σ H s) (h : SqL X.K H a xs) : ∃ its : List Value,Vals xs its ∧ PlainL s.heap a its.toArray ∧ xs.length ≤ sizeLine := by
 rcases h with h | ⟨o,its,n,hk,hc,hd,hs,hz,r⟩
 ·obtain ⟨z,its,n,r,e⟩ := h.ok I.hok
  exact ⟨its,r,⟨_,n,e,rfl,rfl,rfl⟩,z⟩
 ·refine ⟨its.toList,r,⟨o,n,I.kIn a o hk,hc,hd,by simpa using hs⟩,?_⟩
  have e := r.length
  simp only [Array.length_toList] at e
  lia
theorem Inv.tuple (I : Inv X pins σ H s) (h : SqT X.K H a xs) : ∃ its : List Value,Vals xs its ∧ IsTup s.heap a its.toArray ∧ xs.length ≤ sizeLine := by
 rcases h with h | ⟨o,its,n,hk,hc,hs,hz,r⟩
 ·obtain ⟨z,its,r,p⟩ := h.ok I.hok
  exact ⟨its,r,p,z⟩
 ·refine ⟨its.toList,r,⟨o,I.kIn a o hk,hc,n,by simpa using hs⟩,?_⟩
  have e := r.length
  simp only [Array.length_toList] at e
  lia
theorem Inv.list_inj (I : Inv X pins σ H s) (h : SqL X.K H a xs) (h' : SqL X.K H a ys) : xs = ys := by
 obtain ⟨its,r,⟨o,n,e,_,_,d⟩,_⟩ := I.list h
 obtain ⟨its',r',⟨o',n',e',_,_,d'⟩,_⟩ := I.list h'
 rw [e] at e'; cases e'
 rw [d] at d'
 injection d' with d1 _
 have : its = its' := by simpa using congrArg Array.toList d1
 subst this
 exact r.inj r'
theorem Inv.tuple_inj (I : Inv X pins σ H s) (h : SqT X.K H a xs) (h' : SqT X.K H a ys) : xs = ys := by
 obtain ⟨its,r,⟨o,e,_,n,d⟩,_⟩ := I.tuple h
 obtain ⟨its',r',⟨o',e',_,n',d'⟩,_⟩ := I.tuple h'
 rw [e] at e'; cases e'
 rw [d] at d'
 injection d' with d1 _
 have : its = its' := by simpa using congrArg Array.toList d1
 subst this
 exact r.inj r'
end
noncomputable abbrev Cx.wish (X : Cx) (E : Value → Shared → Prop) : Cx := { X with xe := E }
noncomputable abbrev Cx.nox (X : Cx) : Cx := X.wish fun _ _ => False
theorem Cx.Ok.wish {X : Cx} (ok : X.Ok) (E : Value → Shared → Prop) : (X.wish E).Ok :=
 ⟨ok.mod,ok.kind,ok.glob,ok.blt,ok.above,ok.inj,ok.has,ok.cab,ok.hd,ok.frames,ok.stk,ok.exf,ok.bs,ok.bsz,ok.noex,ok.exfs,ok.funs,ok.frf⟩
theorem Cx.Ok.unwish {X : Cx} {E : Value → Shared → Prop} (ok : (X.wish E).Ok) : X.Ok :=
 ⟨ok.mod,ok.kind,ok.glob,ok.blt,ok.above,ok.inj,ok.has,ok.cab,ok.hd,ok.frames,ok.stk,ok.exf,ok.bs,ok.bsz,ok.noex,ok.exfs,ok.funs,ok.frf⟩
section
variable {X : Cx} {pins : List (Addr × Obj)} {σ : St} {H : Hp} {s : Shared} {E : Value → Shared → Prop}
theorem Inv.wish (I : Inv X pins σ H s) (E : Value → Shared → Prop) : Inv (X.wish E) pins σ H s := ⟨I.ok.wish E,I.os,I.bare,I.base,I.loc,I.cell,I.free,I.freeC,I.pin,I.hok,I.len⟩
theorem Inv.unwish (I : Inv (X.wish E) pins σ H s) : Inv X pins σ H s := ⟨I.ok.unwish,I.os,I.bare,I.base,I.loc,I.cell,I.free,I.freeC,I.pin,I.hok,I.len⟩
theorem SP.unwish {D : Ends} {f : Flow} {s' : Shared} (h : SP (X.wish E) pins D f s') : SP X pins D f s' := by
 cases f with
 | next => obtain ⟨σ',H',I,q⟩ := h; exact ⟨σ',H',I.unwish,q⟩
 | brk => obtain ⟨σ',H',I,q⟩ := h; exact ⟨σ',H',I.unwish,q⟩
 | cont => obtain ⟨σ',H',I,q⟩ := h; exact ⟨σ',H',I.unwish,q⟩
 | ret u => obtain ⟨v,σ',H',I,r,q⟩ := h; exact ⟨v,σ',H',I.unwish,r,q⟩
theorem PSs.nox {st : List Stmt} {t : TS} (h : PSs X.nox st t) : PSs X st t := fun pins s σ H D I hw =>
 wpAny_mono (h pins s σ H D (I.wish _) hw) (fun _ _ q => q.unwish) fun _ _ z => False.elim z
end
section
variable {X : Cx} {st : Stmt} {rest : List Stmt} {t u : TS} {e : Expr} {te : TE} {pos : Pos}
noncomputable def tNext : TS := fun D σ H => D.nx σ H
noncomputable def tSeq (t u : TS) : TS := fun D σ H => t { D with nx := u D } σ H
theorem pss_nil : PSs X [] tNext := fun _ _ σ H _ I h => wpAny_execs_nil ⟨σ,H,I,h⟩
theorem pss_cons (h1 : PS X st t) (h2 : PSs X rest u) : PSs X (st :: rest) (tSeq t u) := by
 intro pins s σ H D I h
 refine wpAny_execs_cons (thn (h1 pins s σ H { D with nx := u D } I h) fun f s1 q => ?_)
 cases f with
 | next =>
  obtain ⟨σ',H',I',q⟩ := q
  exact h2 pins s1 σ' H' D I' q
 | ret v => exact q
 | brk => exact q
 | cont => exact q
theorem pss_one (h1 : PS X st t) : PSs X [st] t := by
 intro pins s σ H D I h
 refine wpAny_execs_cons (thn (h1 pins s σ H D I h) fun f s1 q => ?_)
 cases f with
 | next => exact wpAny_execs_nil q
 | ret v => exact q
 | brk => exact q
 | cont => exact q
theorem Inv.quiet {pins : List (Addr × Obj)} {σ : St} {H : Hp} {s : Shared} (I : Inv X pins σ H s) : interactive X.env = false := by simp [interactive,I.ok.kind]
noncomputable def tDrop (te : TE) : TS := fun D σ H => te σ H fun _ H1 => D.nx σ H1
theorem ps_expr (he : PE X e te) (hs : swapsWith e none pos.line X.env = pure false := by rfl) : PS X (.Expr e pos) (tDrop te) := by
 intro pins s σ H D I h
 exact wpAny_Expr_any (thn (he pins s σ H _ I h) fun v s1 ⟨x,H1,I1,r1,q1⟩ => ⟨σ,H1,I1,q1⟩) I.quiet hs
noncomputable def tRet (te : TE) : TS := fun D σ H => te σ H D.rt
theorem ps_ret (he : PE X e te) : PS X (.Return (some e) pos) (tRet te) := by
 intro pins s σ H D I h
 exact wpAny_Return_some (thn (he pins s σ H _ I h) fun v s1 ⟨x,H1,I1,r1,q1⟩ => ⟨x,σ,H1,I1,r1,q1⟩)
noncomputable def tIfS (c : TT) (t u : TS) : TS := fun D σ H => c σ H fun b H1 => if b = true then t D σ H1 else u D σ H1
theorem ps_if {c : Expr} {a b : List Stmt} {tc : TT} (hc : PT X c tc) (ha : PSs X a t) (hb : PSs X b u) : PS X (.If c a b pos) (tIfS tc t u) := by
 intro pins s σ H D I h
 refine wpAny_If (thn (hc pins s σ H _ I h) fun d s1 ⟨H1,I1,q1⟩ => ?_)
 cases d with
 | true => exact ha pins s1 σ H1 D I1 q1
 | false => exact hb pins s1 σ H1 D I1 q1
end
noncomputable abbrev TG := V → St → Hp → (St → Hp → Prop) → Prop
noncomputable abbrev TGs := List V → St → Hp → (St → Hp → Prop) → Prop
noncomputable def PG (X : Cx) (target : Expr) (t : TG) : Prop :=
 ∀ (pins : List (Addr × Obj)) (s : Shared) (σ : St) (H : Hp) (v : V) (u : Value) (Q : St → Hp → Prop),Inv X pins σ H s → RelV v u → t v σ H Q →
  wpAny (model X.prog X.w) X.A (assign target X.env u) (fun _ s' => ∃ σ' H',Inv X pins σ' H' s' ∧ Q σ' H') X.xe s
noncomputable def PGs (X : Cx) (ts : List Expr) (t : TGs) : Prop :=
 ∀ (pins : List (Addr × Obj)) (s : Shared) (σ : St) (H : Hp) (vs : List V) (us : List Value) (Q : St → Hp → Prop),Inv X pins σ H s → Vals vs us → t vs σ H Q →
  wpAny (model X.prog X.w) X.A (assignInOrder ((assignEach ts X.env).map (·.2)) us) (fun _ s' => ∃ σ' H',Inv X pins σ' H' s' ∧ Q σ' H') X.xe s
noncomputable abbrev TSet := V → V → V → Hp → (Hp → Prop) → Prop
noncomputable def PSet (X : Cx) (t : TSet) : Prop :=
 ∀ (pins : List (Addr × Obj)) (s : Shared) (σ : St) (H : Hp) (o i v : V) (ov iv u : Value) (Q : Hp → Prop),Inv X pins σ H s → RelV o ov → RelV i iv → RelV v u → t o i v H Q →
  wpAny (model X.prog X.w) X.A (setItem ov iv u) (fun _ s' => ∃ H',Inv X pins σ H' s' ∧ Q H') X.xe s
section
variable {X : Cx} {pos : Pos}
noncomputable def gName (i : Nat) : TG := fun v σ H Q => Q (σ.set i (some v)) H
theorem pg_name {i : Nat} {x : Str} (hN : X.N.Nodup) (hi : X.N[i]? = some x) (hx : Loc X.env.scope x) (hf : X.fn x = true ∨ X.env.scope.names.lookup x = some .local := by first | exact .inl rfl | exact .inr rfl | assumption) : PG X (.Name x pos) (gName i) := by
 intro pins s σ H v u Q I r h
 exact wpAny_assign_Name (store_ok I hN hi hx r (fun s' I' => ⟨_,H,I',h⟩) hf)
noncomputable def gNil : TGs := fun vs σ H Q => vs = [] ∧ Q σ H
noncomputable def gCons (t : TG) (u : TGs) : TGs := fun vs σ H Q => ∃ v r,vs = v :: r ∧ t v σ H fun σ' H' => u r σ' H' Q
theorem pgs_nil : PGs X [] gNil := by
 intro pins s σ H vs us Q I r h
 obtain ⟨e,h⟩ := h
 subst e
 cases r
 exact assignInOrder_nil ⟨σ,H,I,h⟩
theorem pgs_cons {e : Expr} {es : List Expr} {t : TG} {u : TGs} (h1 : PG X e t) (h2 : PGs X es u)
  (hs : (assignEach (e :: es) X.env).map (·.2) = assign e X.env :: (assignEach es X.env).map (·.2) := by rfl) : PGs X (e :: es) (gCons t u) := by
 intro pins s σ H vs us Q I r h
 obtain ⟨v,vr,e1,h⟩ := h
 subst e1
 cases r with
 | cons r rr =>
  rw [hs]
  refine assignInOrder_cons (thn (h1 pins s σ H _ _ _ I r h) fun _ s1 ⟨σ1,H1,I1,q1⟩ => ?_)
  exact h2 pins s1 σ1 H1 _ _ Q I1 rr q1
noncomputable def gTup (K : PySem.W.Frag) (n : Nat) (t : TGs) : TG := fun v σ H Q => ∃ a xs,v = .ref a ∧ SqT K H a xs ∧ xs.length = n ∧ t xs σ H Q
theorem pg_tup {es : List Expr} {k : Nat} {t : TGs} {n : Nat} (hc : X.calm = true) (h : PGs X es t)
  (hn : (assignEach es X.env).length = n := by rfl) (hst : (assignEach es X.env).findIdx? (·.1) = none := by rfl) : PG X (.Tuple es k pos) (gTup X.K n t) := by
 intro pins s σ H v u Q I r hw
 obtain ⟨a,xs,e1,hq,hl,hw⟩ := hw
 subst e1
 cases r
 obtain ⟨its,rv,ht,hz⟩ := I.tuple hq
 refine assign_Tuple_tuple (I.ok.hd hc) ht (by simp [hn,← hl,rv.length]) hst fun h' hx => ?_
 have I1 : Inv X pins σ H { s with heap := h' } := I.kept (t' := s.toks) fun b o e => hx b o (Nat.ne_of_lt (Heap.lt_size e)) e
 exact h pins _ σ H xs _ Q I1 (by simpa using rv) hw
noncomputable def gSub (to ti : TE) (t : TSet) : TG := fun v σ H Q => to σ H fun o H1 => ti σ H1 fun i H2 => t o i v H2 fun H3 => Q σ H3
theorem pg_sub {o i : Expr} {to ti : TE} {t : TSet} (ho : PE X o to) (hi : PE X i ti) (hs : PSet X t)
  (ha : ∀ v,assign (.Subscript o i pos) X.env v = (do
   let ov ← holding [v] (eval o X.env)
   let iv ← holding [v,ov] (eval i X.env)
   standAt pos
   holding [v,ov,iv] (setItem ov iv v)
   release [v,ov,iv] []) := by intro _; rfl) : PG X (.Subscript o i pos) (gSub to ti t) := by
 intro pins s σ H v u Q I r h
 rw [ha]
 refine wpAny_bind (wpAny_holding (thn (ho pins s σ H _ I h) fun ov s1 ⟨x,H1,I1,r1,q1⟩ => ?_))
 refine wpAny_bind (wpAny_holding (thn (hi pins s1 σ H1 _ I1 q1) fun iv s2 ⟨y,H2,I2,r2,q2⟩ => ?_))
 refine wpAny_bind (wpAny_standAt (wpAny_bind (wpAny_holding (thn (hs pins s2 σ H2 x y v ov iv u _ I2 r1 r2 r q2) fun _ s3 ⟨H3,I3,q3⟩ => ?_))))
 exact wpAny_release ⟨σ,H3,I3,q3⟩
noncomputable def tAsg (te : TE) (g : TG) : TS := fun D σ H => te σ H fun x H1 => g x σ H1 D.nx
theorem ps_asg {tg e : Expr} {te : TE} {g : TG} (he : PE X e te) (hg : PG X tg g) (hs : swapsWithSole [tg] e pos.line X.env = pure false := by rfl) (hw : swappedStores [tg] e X.env = pure none := by rfl)
  (h1 : (assignEach [tg] X.env).map (·.2) = [assign tg X.env] := by rfl) : PS X (.Assign [tg] e pos) (tAsg te g) := by
 intro pins s σ H D I h
 refine wpAny_Assign_stores (thn (he pins s σ H _ I h) fun v s1 ⟨x,H1,I1,r1,q1⟩ => ?_) hs hw
 rw [h1]
 exact thn (hg pins s1 σ H1 x v _ I1 r1 q1) fun _ s2 q => q
theorem ps_set {i : Nat} {x : Str} {e : Expr} {te : TE} {pos' : Pos} (hN : X.N.Nodup) (hi : X.N[i]? = some x) (hx : Loc X.env.scope x) (he : PE X e te) (hs : swapsWith e (some (.Name x pos')) pos.line X.env = pure false := by rfl) (hf : X.fn x = true ∨ X.env.scope.names.lookup x = some .local := by first | exact .inl rfl | exact .inr rfl | assumption) :
  PS X (.Assign [.Name x pos'] e pos) (tAsg te (gName i)) := by
 intro pins s σ H D I h
 refine wpAny_Assign_Name (thn (he pins s σ H _ I h) fun v s1 ⟨y,H1,I1,r1,q1⟩ => ?_) hs
 exact store_ok I1 hN hi hx r1 (fun s2 I2 => ⟨_,H1,I2,q1⟩) hf
end
section
variable {X : Cx} {pos : Pos}
end
structure It where
 go : Nat → Hp → Prop
 yld : Nat → Hp → V → Hp → Prop
 stop : Nat → Hp → Prop
noncomputable def FpOk (X : Cx) (pins : List (Addr × Obj)) (H : Hp) (b : Addr) : Prop :=
 H b = none ∧ b ≠ X.env.locals ∧ b ∉ X.fs ∧ (b ∈ X.ex ∨ X.s₀.heap.objs.size ≤ b) ∧ (∀ x c,X.env.cells.lookup x = some c → c ≠ b) ∧ ∀ p ∈ X.pn ++ pins,p.1 ≠ b
theorem Inv.fpOk {X : Cx} {pins : List (Addr × Obj)} {σ : St} {H H' : Hp} {s : Shared} {b : Addr} (I : Inv X pins σ H s) (hb : s.heap.objs.size ≤ b) (hn : H' b = none) : FpOk X pins H' b := by
 refine ⟨hn,Nat.ne_of_gt (Nat.lt_of_lt_of_le I.lt hb),I.nofs hb,.inr (Nat.le_trans I.sz hb),fun x c e z => ?_,fun p hp z => ?_⟩
 ·obtain ⟨v,q⟩ := I.cell x c e
  exact absurd (Nat.lt_of_lt_of_le q.lt (by rw [z]; exact hb)) (Nat.lt_irrefl _)
 ·exact absurd (Nat.lt_of_lt_of_le (Heap.lt_size (I.pin p hp).1) (by rw [z]; exact hb)) (Nat.lt_irrefl _)
structure Turn (P : Program) (w : World) (K : PySem.W.Frag) (tg : Expr) (J : It) (fp : List Addr) (it : Addr) (tn : Nat → Heap → Prop) : Prop where
 mem : it ∈ fp
 obj : ∀ i h,tn i h → ∀ b ∈ fp,∃ o,h.get? b = some o ∧ ∀ v,o.data ≠ .cell v
 keep : ∀ i h h',tn i h → (∀ b ∈ fp,∀ o,h.get? b = some o → h'.get? b = some o) → tn i h'
 item : ∀ (X : Cx),X.prog = P → X.w = w → X.K = K → X.calm = true → ∀ (i : Nat) (pins : List (Addr × Obj)) (s : Shared) (σ : St) (H : Hp) (E : Value → Shared → Prop),Inv X pins σ H s → (∀ b ∈ fp,FpOk X pins H b) → tn i s.heap → J.go i H →
  wpAny (model P w) X.A (pyNext (.ref it)) (fun r s1 => ∃ u,r = some u ∧
   wpAny (model P w) X.A (letOwnedTupleGo tg (.ref it) u) (fun _ s2 => ∃ x H',Inv X pins σ H' s2 ∧ RelV x u ∧ J.yld i H x H' ∧ tn (i + 1) s2.heap ∧ ∀ b ∈ fp,H' b = none) E s1) E s
 done : ∀ (X : Cx),X.prog = P → X.w = w → X.K = K → X.calm = true → ∀ (i : Nat) (pins : List (Addr × Obj)) (s : Shared) (σ : St) (H : Hp) (E : Value → Shared → Prop),Inv X pins σ H s → (∀ b ∈ fp,FpOk X pins H b) → tn i s.heap → J.stop i H →
  wpAny (model P w) X.A (pyNext (.ref it)) (fun r s1 => r = none ∧ Inv X pins σ H s1) E s
 self : ∀ (A : Around) (i : Nat) (s : Shared) (Q : Value → Shared → Prop) (E : Value → Shared → Prop),tn i s.heap → Q (.ref it) s → wpAny (model P w) A (pyIter (.ref it)) Q E s
noncomputable abbrev TI := St → Hp → (It → Hp → Prop) → Prop
noncomputable def PIE (X : Cx) (pins : List (Addr × Obj)) (σ : St) (tg : Expr) (R : It → Hp → Prop) (itv : Value) (s2 : Shared) : Prop :=
 ∃ (it : Addr) (fp : List Addr) (tn : Nat → Heap → Prop) (J : It) (H' : Hp),itv = .ref it ∧ Inv X pins σ H' s2 ∧ Turn X.prog X.w X.K tg J fp it tn ∧ tn 0 s2.heap ∧ (∀ b ∈ fp,FpOk X pins H' b) ∧ R J H'
noncomputable def PI (X : Cx) (tg iter : Expr) (wi : TI) : Prop :=
 ∀ (pins : List (Addr × Obj)) (s : Shared) (σ : St) (H : Hp) (R : It → Hp → Prop),Inv X pins σ H s → wi σ H R →
  wpAny (model X.prog X.w) X.A (eval iter X.env) (fun v s1 => wpAny (model X.prog X.w) X.A (pyIter v) (PIE X pins σ tg R) X.xe s1) X.xe s
theorem go_of {M : Model} {A : Around} {E : Value → Shared → Prop} {s : Shared} {tg : Expr} {it : Addr} {u : Value} {o : Obj} {n : String} {vs : Array Value} {Q : Unit → Shared → Prop} (ho : s.heap.get? it = some o) (hc : o.cls = .type n) (hd : o.data = .fields vs)
    (hn : ["enumerate","zip","dict_itemiterator","dict_reverseitemiterator","odict_iterator","itertools.zip_longest","itertools.pairwise"].contains n = false) (hQ : Q () s) : wpAny M A (letOwnedTupleGo tg (.ref it) u) Q E s := by
  unfold letOwnedTupleGo
  cases tg <;> first
    | exact wpAny_pure hQ
    | (cases u <;> first
        | exact wpAny_pure hQ
        | (refine wpAny_bind (wpAny_load ho ?_)
           rw [hc,hd]
           show wpAny M A (if (["enumerate","zip","dict_itemiterator","dict_reverseitemiterator","odict_iterator","itertools.zip_longest","itertools.pairwise"].contains n && vs[0]? == some (rawInt _)) = true then _ else _) Q E s
           rw [if_neg (by intro h; rw [hn,Bool.false_and] at h; cases h)]
           exact wpAny_pure hQ))
noncomputable def Itl (K : PySem.W.Frag) (a : Addr) : It :=
 ⟨fun i H => ∃ xs x,SqL K H a xs ∧ xs[i]? = some x,fun i H x H' => H' = H ∧ ∀ xs,SqL K H a xs → xs[i]? = some x,fun i H => ∃ xs,SqL K H a xs ∧ xs.length ≤ i⟩
noncomputable def Itt (K : PySem.W.Frag) (a : Addr) : It :=
 ⟨fun i H => ∃ xs x,SqT K H a xs ∧ xs[i]? = some x,fun i H x H' => H' = H ∧ ∀ xs,SqT K H a xs → xs[i]? = some x,fun i H => ∃ xs,SqT K H a xs ∧ xs.length ≤ i⟩
noncomputable def Itr (lo : Int) (n : Nat) : It := ⟨fun i _ => i < n,fun i H x H' => H' = H ∧ x = .int (lo + i),fun i _ => n ≤ i⟩
theorem turn_list {P : Program} {w : World} {K : PySem.W.Frag} {tg : Expr} (a it : Addr) : Turn P w K tg (Itl K a) [it] it (fun i h => h.IsListIter it a i) where
 mem := by simp
 obj := fun i h st b hb => by
  have e : b = it := by simpa using hb
  subst e
  obtain ⟨o,e,c,d⟩ := st
  exact ⟨o,e,fun v z => by rw [d] at z; cases z⟩
 keep := fun i h h' st k => st.at fun o e => k it (by simp) o e
 item := by
  intro X hP hw hK hc i pins s σ H E I hf st hg
  subst hP hw hK
  obtain ⟨xs,x,hq,hx⟩ := hg
  obtain ⟨its,rv,p,hz⟩ := I.list hq
  obtain ⟨u,hu,ru⟩ := rv.get hx
  obtain ⟨f0,f1,f2,f3,f4,f5⟩ := hf it (by simp)
  refine wpAny_pyNext_list_item st p.isList (x := u) (by simpa using hu) fun h' st' sb => ?_
  have I1 : Inv X pins σ H { s with heap := h' } := I.turned (t' := s.toks) (fun b o hb e => (sb.2 b hb).trans e) f0 f1 f3 f4 f5
  obtain ⟨o,e,c,d⟩ := id st'
  exact ⟨u,rfl,go_of (s := { s with heap := h' }) e c d (by decide) ⟨x,H,I1,ru,⟨rfl,fun ys hy => by rw [I.list_inj hy hq]; exact hx⟩,st',fun b hb => (hf b hb).1⟩⟩
 done := by
  intro X hP hw hK hc i pins s σ H E I hf st hg
  subst hP hw hK
  obtain ⟨xs,hq,hx⟩ := hg
  obtain ⟨its,rv,p,hz⟩ := I.list hq
  obtain ⟨f0,f1,f2,f3,f4,f5⟩ := hf it (by simp)
  have hl := rv.length
  exact wpAny_pyNext_list_end (I.ok.hd hc) st p.isList (by simp; lia) fun h' eb => ⟨rfl,I.turned (t' := s.toks) (fun b o hb e => eb b o hb e) f0 f1 f3 f4 f5⟩
 self := fun _ _ _ _ _ st h => wpAny_pyIter_listiter st h
theorem turn_tuple {P : Program} {w : World} {K : PySem.W.Frag} {tg : Expr} (a it : Addr) : Turn P w K tg (Itt K a) [it] it (fun i h => h.IsTupleIter it a i) where
 mem := by simp
 obj := fun i h st b hb => by
  have e : b = it := by simpa using hb
  subst e
  obtain ⟨o,e,c,d⟩ := st
  exact ⟨o,e,fun v z => by rw [d] at z; cases z⟩
 keep := fun i h h' st k => st.at fun o e => k it (by simp) o e
 item := by
  intro X hP hw hK hc i pins s σ H E I hf st hg
  subst hP hw hK
  obtain ⟨xs,x,hq,hx⟩ := hg
  obtain ⟨its,rv,p,hz⟩ := I.tuple hq
  obtain ⟨u,hu,ru⟩ := rv.get hx
  obtain ⟨f0,f1,f2,f3,f4,f5⟩ := hf it (by simp)
  refine wpAny_pyNext_tuple_item st (show s.heap.IsTuple a its.toArray from p) (x := u) (by simpa using hu) fun h' st' sb => ?_
  have I1 : Inv X pins σ H { s with heap := h' } := I.turned (t' := s.toks) (fun b o hb e => (sb.2 b hb).trans e) f0 f1 f3 f4 f5
  obtain ⟨o,e,c,d⟩ := id st'
  exact ⟨u,rfl,go_of (s := { s with heap := h' }) e c d (by decide) ⟨x,H,I1,ru,⟨rfl,fun ys hy => by rw [I.tuple_inj hy hq]; exact hx⟩,st',fun b hb => (hf b hb).1⟩⟩
 done := by
  intro X hP hw hK hc i pins s σ H E I hf st hg
  subst hP hw hK
  obtain ⟨xs,hq,hx⟩ := hg
  obtain ⟨its,rv,p,hz⟩ := I.tuple hq
  obtain ⟨f0,f1,f2,f3,f4,f5⟩ := hf it (by simp)
  have hl := rv.length
  exact wpAny_pyNext_tuple_end (I.ok.hd hc) st (show s.heap.IsTuple a its.toArray from p) (by simp; lia) fun h' eb => ⟨rfl,I.turned (t' := s.toks) (fun b o hb e => eb b o hb e) f0 f1 f3 f4 f5⟩
 self := fun _ _ _ _ _ st h => wpAny_pyIter_tupleiter st h
theorem turn_range {P : Program} {w : World} {K : PySem.W.Frag} {tg : Expr} (it : Addr) (lo : Int) (n : Nat) : Turn P w K tg (Itr lo n) [it] it (fun i h => IsRangeIter h it (lo + (i : Nat) * 1) ((n : Int) - (i : Nat)) 1) where
 mem := by simp
 obj := fun i h st b hb => by
  have e : b = it := by simpa using hb
  subst e
  exact ⟨_,st,fun v z => by
   have z' : Data.fields _ = Data.cell v := z
   cases z'⟩
 keep := fun i h h' st k => k it (by simp) _ st
 item := by
  intro X hP hw hK hc i pins s σ H E I hf st hg
  subst hP hw hK
  obtain ⟨f0,f1,f2,f3,f4,f5⟩ := hf it (by simp)
  have W := Walks.range (prog := X.prog) (w := X.w) (I.ok.hd hc) it lo 1 n
  refine W.item i s _ _ hg st fun v h' tk hv st' kk => ?_
  obtain ⟨t,rfl⟩ := hv
  have I1 : Inv X pins σ H { s with heap := h',toks := tk } := I.turned (fun b o hb e => kk b o (by simpa using hb) e) f0 f1 f3 f4 f5
  refine ⟨_,rfl,go_of (s := { s with heap := h',toks := tk }) (n := "range_iterator") st' rfl rfl (by decide) ⟨.int (lo + i),H,I1,⟨t,?_⟩,⟨rfl,rfl⟩,st',fun b hb => (hf b hb).1⟩⟩
  rw [Int.mul_one]
 done := by
  intro X hP hw hK hc i pins s σ H E I hf st hg
  subst hP hw hK
  obtain ⟨f0,f1,f2,f3,f4,f5⟩ := hf it (by simp)
  exact wpAny_pyNext_range_end (I.ok.hd hc) st (by have : n ≤ i := hg; lia) fun h' eb => ⟨rfl,I.turned (t' := s.toks) (fun b o hb e => eb b o hb e) f0 f1 f3 f4 f5⟩
 self := fun _ _ _ _ _ st h => wpAny_pyIter_rangeiter st h
end L2
namespace L2
open PySem PySem.Spec PyProof.Rows
section
variable {X : Cx} {tg : Expr}
noncomputable def iList (K : PySem.W.Frag) (tl : TE) : TI := fun σ H R => tl σ H fun x H1 => ∃ a,x = .ref a ∧ (∃ xs,SqL K H1 a xs) ∧ R (Itl K a) H1
noncomputable def iTup (K : PySem.W.Frag) (tl : TE) : TI := fun σ H R => tl σ H fun x H1 => ∃ a,x = .ref a ∧ (∃ xs,SqT K H1 a xs) ∧ R (Itt K a) H1
theorem pi_list {l : Expr} {tl : TE} (hl : PE X l tl) : PI X tg l (iList X.K tl) := by
 intro pins s σ H R I h
 refine thn (hl pins s σ H _ I h) fun v s1 ⟨x,H1,I1,r1,q1⟩ => ?_
 obtain ⟨a,e,⟨xs,hq⟩,q⟩ := q1
 subst e
 cases r1
 obtain ⟨its,rv,p,hz⟩ := I1.list hq
 refine wpAny_pyIter_list p.isList ?_
 refine ⟨s1.heap.objs.size,[s1.heap.objs.size],_,_,H1,rfl,I1.kept (t' := s1.toks) fun b o e => Heap.get?_push_of_some _ e,turn_list a _,⟨_,Heap.get?_push_size _ rfl,rfl,rfl⟩,fun b hb => ?_,q⟩
 have e : b = s1.heap.objs.size := by simpa using hb
 subst e
 exact I1.fpOk (Nat.le_refl _) (I1.hok.fresh (Nat.le_refl _))
theorem pi_tup {l : Expr} {tl : TE} (hl : PE X l tl) : PI X tg l (iTup X.K tl) := by
 intro pins s σ H R I h
 refine thn (hl pins s σ H _ I h) fun v s1 ⟨x,H1,I1,r1,q1⟩ => ?_
 obtain ⟨a,e,⟨xs,hq⟩,q⟩ := q1
 subst e
 cases r1
 obtain ⟨its,rv,p,hz⟩ := I1.tuple hq
 refine wpAny_pyIter_tuple (show s1.heap.IsTuple a its.toArray from p) ?_
 refine ⟨s1.heap.objs.size,[s1.heap.objs.size],_,_,H1,rfl,I1.kept (t' := s1.toks) fun b o e => Heap.get?_push_of_some _ e,turn_tuple a _,⟨_,Heap.get?_push_size _ rfl,rfl,rfl⟩,fun b hb => ?_,q⟩
 have e : b = s1.heap.objs.size := by simpa using hb
 subst e
 exact I1.fpOk (Nat.le_refl _) (I1.hok.fresh (Nat.le_refl _))
theorem range_it {pins : List (Addr × Obj)} {σ : St} {H : Hp} {s : Shared} {R : It → Hp → Prop} {E : Value → Shared → Prop} {lo hi : Int} {t u v : Tok} {tk : Nat} (I : Inv X pins σ H s) (h1 : -(2 ^ 62) ≤ lo) (h2 : lo < 2 ^ 62) (h3 : -(2 ^ 62) ≤ hi) (h4 : hi < 2 ^ 62)
  (q : R (Itr lo (hi - lo).toNat) H) : wpAny (model X.prog X.w) X.A (pyIter (.ref s.heap.objs.size)) (PIE X pins σ tg R) E { s with heap := s.heap.push { cls := .type "range",data := .fields #[.int lo t,.int hi u,.int 1 v] },toks := tk } := by
 refine wpAny_pyIter_range (IsRange.new ..) (small_one h1 h2 h3 h4) ?_
 have I1 : Inv X pins σ H { s with heap := s.heap.push { cls := .type "range",data := .fields #[.int lo t,.int hi u,.int 1 v] },toks := tk } := I.kept fun b o e => Heap.get?_push_of_some _ e
 refine ⟨(s.heap.push { cls := .type "range",data := .fields #[.int lo t,.int hi u,.int 1 v] }).objs.size,[(s.heap.push { cls := .type "range",data := .fields #[.int lo t,.int hi u,.int 1 v] }).objs.size],_,_,H,rfl,
  I1.kept (t' := tk) fun b o e => Heap.get?_push_of_some _ e,turn_range _ lo (hi - lo).toNat,?_,fun b hb => ?_,q⟩
 ·have e1 : lo + ((0 : Nat) : Int) * 1 = lo := by simp
  have e2 : (((hi - lo).toNat : Nat) : Int) - ((0 : Nat) : Int) = Builtin.Range.rangeSize lo hi 1 := by rw [rangeSize_one]; split <;> lia
  show IsRangeIter _ _ (lo + ((0 : Nat) : Int) * 1) ((((hi - lo).toNat : Nat) : Int) - ((0 : Nat) : Int)) 1
  rw [e1,e2]
  exact Heap.get?_push_size _ rfl
 ·have e : b = (s.heap.push { cls := .type "range",data := .fields #[.int lo t,.int hi u,.int 1 v] }).objs.size := by simpa using hb
  subst e
  exact I1.fpOk (Nat.le_refl _) (I1.hok.fresh (Nat.le_refl _))
noncomputable def iRng1 (ta : TA) : TI := fun σ H R => ta σ H fun vs H1 => ∃ j : Int,vs = [.int j] ∧ -(2 ^ 62) ≤ j ∧ j < 2 ^ 62 ∧ R (Itr 0 j.toNat) H1
theorem pi_range1 {a : Expr} {ta : TA} {p pos : Pos} (hg : Gl X "range") (hm : X.mg "range" = none) (ha : PA X [a] ta) (hs : starEach [a] X.env = [(false,eval a X.env)] := by rfl) : PI X tg (.Call (.Name "range" p) [a] [] pos) (iRng1 ta) := by
 intro pins s σ H R I h
 refine Call_ (ld_blt I hg hm boot_range (PyProof.Rows.callWith_type1 (thn (ha pos pins s σ H _ I h) fun us s1 ⟨vs,H1,I1,r1,q1⟩ => ?_) hs rfl))
 obtain ⟨j,e,q1,q2,q⟩ := q1
 subst e
 cases r1 with
 | cons r rr =>
  cases rr
  obtain ⟨t,rfl⟩ := r
  exact call_range_1 (range_it I1 (by lia) (by lia) q1 q2 (by simpa using q))
noncomputable def tFor (wi : TI) (g : TG) (tb : TS) : TS := fun D σ H => wi σ H fun J H1 => ∃ W : Nat → Nat → St → Hp → Prop,(∃ m,W 0 m σ H1) ∧ ∀ i m σ H,W i m σ H →
 (J.stop i H ∧ D.nx σ H) ∨ (J.go i H ∧ ∃ N : St → Hp → Prop,(∀ σ' H',N σ' H' → ∃ m',m' < m ∧ W (i + 1) m' σ' H') ∧ ∀ x H',J.yld i H x H' → g x σ H' fun σ2 H2 => tb { D with nx := N,ct := N,bk := D.nx } σ2 H2)
noncomputable def pinsAt (fp : List Addr) (h : Heap) : List (Addr × Obj) := fp.filterMap fun b => (h.get? b).map fun o => (b,o)
theorem mem_pinsAt {fp : List Addr} {h : Heap} {b : Addr} {o : Obj} (hb : b ∈ fp) (e : h.get? b = some o) : (b,o) ∈ pinsAt fp h := List.mem_filterMap.mpr ⟨b,hb,by rw [e]; rfl⟩
theorem of_pinsAt {fp : List Addr} {h : Heap} {p : Addr × Obj} (hp : p ∈ pinsAt fp h) : p.1 ∈ fp ∧ h.get? p.1 = some p.2 := by
 obtain ⟨b,hb,e⟩ := List.mem_filterMap.mp hp
 cases q : h.get? b with
 | none => rw [q] at e; cases e
 | some o =>
  rw [q] at e
  have e' : (b,o) = p := Option.some.inj e
  subst e'
  exact ⟨hb,q⟩
theorem Inv.pinned {pins : List (Addr × Obj)} {σ : St} {H : Hp} {s : Shared} {fp : List Addr} (I : Inv X pins σ H s) (hf : ∀ b ∈ fp,FpOk X pins H b) (ho : ∀ b ∈ fp,∃ o,s.heap.get? b = some o ∧ ∀ v,o.data ≠ .cell v) : Inv X (pins ++ pinsAt fp s.heap) σ H s :=
 I.pins_of fun p hp => (List.mem_append.mp hp).elim (fun z => I.pin p (List.mem_append_right _ z)) fun z => by
  obtain ⟨hb,e⟩ := of_pinsAt z
  obtain ⟨f0,f1,f2,_⟩ := hf p.1 hb
  obtain ⟨o,e',d⟩ := ho p.1 hb
  rw [e] at e'; cases e'
  exact ⟨e,f0,f1,f2,d⟩
theorem Inv.unpinned {pins pl : List (Addr × Obj)} {σ : St} {H : Hp} {s : Shared} (I : Inv X (pins ++ pl) σ H s) : Inv X pins σ H s := I.pins_of fun p hp => I.pin p (List.mem_append_right _ (List.mem_append_left _ hp))
theorem ps_for {iter : Expr} {body : List Stmt} {wi : TI} {g : TG} {tb : TS} {pos : Pos} (hp : PassesOwn (model X.prog X.w) X.A X.env X.xe) (hc : X.calm = true) (hi : PI X tg iter wi) (hg : PG X tg g) (hb : PSs X body tb)
  (hs : ∀ x,foldedSetIterable iter X.env x = pure x := by intro _; rfl) : PS X (.For tg iter body [] pos) (tFor wi g tb) := by
 intro pins s σ H D I h
 refine wpAny_For (thn (hi pins s σ H _ I h) fun v s1 h1 => thn h1 fun itv s2 h2 => ?_) hs
 obtain ⟨it,fp,tn,J,H2,e,I2,T,st2,f2,W,⟨m0,w0⟩,turn⟩ := h2
 subst e
 have stat : ∀ {H' : Hp},(∀ b ∈ fp,H' b = none) → ∀ b ∈ fp,FpOk X pins H' b := fun hn b hb => ⟨hn b hb,(f2 b hb).2⟩
 refine codeAny_forLoop_any (fun n s' => ∃ i σ' H',Inv X pins σ' H' s' ∧ tn i s'.heap ∧ (∀ b ∈ fp,H' b = none) ∧ W i n σ' H') ?_ m0 ⟨0,σ,H2,I2,st2,fun b hb => (f2 b hb).1,w0⟩
 rintro n s3 ⟨i,σ3,H3,I3,st3,fr3,w3⟩
 rcases turn i n σ3 H3 w3 with ⟨stop,qn⟩ | ⟨go,N,hN,step⟩
 ·refine wpAny_passesOwn hp (thn (T.done X rfl rfl rfl hc i pins s3 σ3 H3 X.xe I3 (stat fr3) st3 stop) fun r s4 ⟨hr,I4⟩ => ?_)
  subst hr
  exact wpAny_execs_nil ⟨σ3,H3,I4,qn⟩
 ·refine wpAny_passesOwn hp (thn (T.item X rfl rfl rfl hc i pins s3 σ3 H3 X.xe I3 (stat fr3) st3 go) fun r s4 ⟨u,hr,h4⟩ => ?_)
  subst hr
  refine wpAny_passesOwn hp (thn h4 fun _ s5 ⟨x,H5,I5,r5,y5,st5,fr5⟩ => ?_)
  have I5' := I5.pinned (stat fr5) (T.obj _ _ st5)
  refine wpAny_passesOwn hp (thn (hg _ s5 σ3 H5 x u _ I5' r5 (step x H5 y5)) fun _ s6 ⟨σ6,H6,I6,q6⟩ => ?_)
  refine wpAny_passesOwn hp (thn (hb _ s6 σ6 H6 _ I6 q6) fun f s7 q7 => ?_)
  have again : ∀ {σ7 : St} {H7 : Hp},Inv X (pins ++ pinsAt fp s5.heap) σ7 H7 s7 → N σ7 H7 → ∃ m,m < n ∧ ∃ i σ' H',Inv X pins σ' H' s7 ∧ tn i s7.heap ∧ (∀ b ∈ fp,H' b = none) ∧ W i m σ' H' := fun {σ7 H7} I7 n7 => by
   obtain ⟨m',hm,w7⟩ := hN σ7 H7 n7
   refine ⟨m',hm,i + 1,σ7,H7,I7.unpinned,T.keep _ _ _ st5 fun b hb o e => (I7.pin (b,o) (List.mem_append_right _ (List.mem_append_right _ (mem_pinsAt hb e)))).1,fun b hb => ?_,w7⟩
   obtain ⟨o,e,d⟩ := T.obj _ _ st5 b hb
   exact (I7.pin (b,o) (List.mem_append_right _ (List.mem_append_right _ (mem_pinsAt hb e)))).2.1
  cases f with
  | next => obtain ⟨σ7,H7,I7,n7⟩ := q7; exact again I7 n7
  | cont => obtain ⟨σ7,H7,I7,n7⟩ := q7; exact again I7 n7
  | brk => obtain ⟨σ7,H7,I7,q7⟩ := q7; exact ⟨σ7,H7,I7.unpinned,q7⟩
  | ret v => obtain ⟨x7,σ7,H7,I7,r7,q7⟩ := q7; exact ⟨x7,σ7,H7,I7.unpinned,r7,q7⟩
end
theorem for_list {K : PySem.W.Frag} {a : Addr} {xs : List V} {g : TG} {tb : TS} {D : Ends} {σ : St} {H : Hp} (Pv : Nat → St → Hp → Prop) (h0 : Pv 0 σ H) (hl : ∀ i σ H,i ≤ xs.length → Pv i σ H → SqL K H a xs)
  (hs : ∀ i x σ H,xs[i]? = some x → Pv i σ H → g x σ H fun σ2 H2 => tb { D with nx := Pv (i + 1),ct := Pv (i + 1),bk := D.nx } σ2 H2) (hd : ∀ σ H,Pv xs.length σ H → D.nx σ H) :
  ∃ W : Nat → Nat → St → Hp → Prop,(∃ m,W 0 m σ H) ∧ ∀ i m σ H,W i m σ H →
   ((Itl K a).stop i H ∧ D.nx σ H) ∨ ((Itl K a).go i H ∧ ∃ N : St → Hp → Prop,(∀ σ' H',N σ' H' → ∃ m',m' < m ∧ W (i + 1) m' σ' H') ∧ ∀ x H',(Itl K a).yld i H x H' → g x σ H' fun σ2 H2 => tb { D with nx := N,ct := N,bk := D.nx } σ2 H2) := by
 refine ⟨fun i m σ H => m = xs.length - i ∧ i ≤ xs.length ∧ Pv i σ H,⟨xs.length,by simp,Nat.zero_le _,h0⟩,?_⟩
 rintro i m σ H ⟨rfl,hi,p⟩
 have q := hl i σ H hi p
 by_cases hlt : i < xs.length
 ·refine .inr ⟨⟨xs,xs[i],q,by simp [hlt]⟩,Pv (i + 1),fun σ' H' p' => ⟨xs.length - (i + 1),by lia,rfl,hlt,p'⟩,fun x H' y => ?_⟩
  obtain ⟨e,y⟩ := y
  subst e
  exact hs i x σ _ (y xs q) p
 ·have e : i = xs.length := by lia
  subst e
  exact .inl ⟨⟨xs,q,Nat.le_refl _⟩,hd σ H p⟩
theorem for_tup {K : PySem.W.Frag} {a : Addr} {xs : List V} {g : TG} {tb : TS} {D : Ends} {σ : St} {H : Hp} (Pv : Nat → St → Hp → Prop) (h0 : Pv 0 σ H) (hl : ∀ i σ H,i ≤ xs.length → Pv i σ H → SqT K H a xs)
  (hs : ∀ i x σ H,xs[i]? = some x → Pv i σ H → g x σ H fun σ2 H2 => tb { D with nx := Pv (i + 1),ct := Pv (i + 1),bk := D.nx } σ2 H2) (hd : ∀ σ H,Pv xs.length σ H → D.nx σ H) :
  ∃ W : Nat → Nat → St → Hp → Prop,(∃ m,W 0 m σ H) ∧ ∀ i m σ H,W i m σ H →
   ((Itt K a).stop i H ∧ D.nx σ H) ∨ ((Itt K a).go i H ∧ ∃ N : St → Hp → Prop,(∀ σ' H',N σ' H' → ∃ m',m' < m ∧ W (i + 1) m' σ' H') ∧ ∀ x H',(Itt K a).yld i H x H' → g x σ H' fun σ2 H2 => tb { D with nx := N,ct := N,bk := D.nx } σ2 H2) := by
 refine ⟨fun i m σ H => m = xs.length - i ∧ i ≤ xs.length ∧ Pv i σ H,⟨xs.length,by simp,Nat.zero_le _,h0⟩,?_⟩
 rintro i m σ H ⟨rfl,hi,p⟩
 have q := hl i σ H hi p
 by_cases hlt : i < xs.length
 ·refine .inr ⟨⟨xs,xs[i],q,by simp [hlt]⟩,Pv (i + 1),fun σ' H' p' => ⟨xs.length - (i + 1),by lia,rfl,hlt,p'⟩,fun x H' y => ?_⟩
  obtain ⟨e,y⟩ := y
  subst e
  exact hs i x σ _ (y xs q) p
 ·have e : i = xs.length := by lia
  subst e
  exact .inl ⟨⟨xs,q,Nat.le_refl _⟩,hd σ H p⟩
theorem for_range {lo : Int} {n : Nat} {g : TG} {tb : TS} {D : Ends} {σ : St} {H : Hp} (Pv : Nat → St → Hp → Prop) (h0 : Pv 0 σ H)
  (hs : ∀ i σ H,i < n → Pv i σ H → g (.int (lo + i)) σ H fun σ2 H2 => tb { D with nx := Pv (i + 1),ct := Pv (i + 1),bk := D.nx } σ2 H2) (hd : ∀ σ H,Pv n σ H → D.nx σ H) :
  ∃ W : Nat → Nat → St → Hp → Prop,(∃ m,W 0 m σ H) ∧ ∀ i m σ H,W i m σ H →
   ((Itr lo n).stop i H ∧ D.nx σ H) ∨ ((Itr lo n).go i H ∧ ∃ N : St → Hp → Prop,(∀ σ' H',N σ' H' → ∃ m',m' < m ∧ W (i + 1) m' σ' H') ∧ ∀ x H',(Itr lo n).yld i H x H' → g x σ H' fun σ2 H2 => tb { D with nx := N,ct := N,bk := D.nx } σ2 H2) := by
 refine ⟨fun i m σ H => m = n - i ∧ i ≤ n ∧ Pv i σ H,⟨n,by simp,Nat.zero_le _,h0⟩,?_⟩
 rintro i m σ H ⟨rfl,hi,p⟩
 by_cases hlt : i < n
 ·refine .inr ⟨hlt,Pv (i + 1),fun σ' H' p' => ⟨n - (i + 1),by lia,rfl,hlt,p'⟩,fun x H' y => ?_⟩
  obtain ⟨e,y⟩ := y
  subst e y
  exact hs i σ _ hlt p
 ·have e : i = n := by lia
  subst e
  exact .inl ⟨Nat.le_refl _,hd σ H p⟩
end L2
namespace L2
open PySem PySem.Spec PyProof.Rows
noncomputable abbrev R2 := V → V → Hp → VK → Prop
noncomputable def OpR (X : Cx) (f : Value → Value → Sem Value) (r : R2) : Prop :=
 ∀ (pins : List (Addr × Obj)) (s : Shared) (σ : St) (H : Hp) (x y : V) (v u : Value) (Q : VK),Inv X pins σ H s → RelV x v → RelV y u → r x y H Q →
  wpAny (model X.prog X.w) X.A (f v u) (EP X pins σ Q) X.xe s
noncomputable def UnR (X : Cx) (f : Value → Sem Value) (r : V → Hp → VK → Prop) : Prop :=
 ∀ (pins : List (Addr × Obj)) (s : Shared) (σ : St) (H : Hp) (x : V) (v : Value) (Q : VK),Inv X pins σ H s → RelV x v → r x H Q →
  wpAny (model X.prog X.w) X.A (f v) (EP X pins σ Q) X.xe s
noncomputable def CallR (X : Cx) (f : Value) (r : List V → Hp → VK → Prop) : Prop :=
 ∀ (pins : List (Addr × Obj)) (s : Shared) (σ : St) (H : Hp) (xs : List V) (us : List Value) (Q : VK),Inv X pins σ H s → Vals xs us → r xs H Q →
  wpAny (model X.prog X.w) X.A (call f us) (EP X pins σ Q) X.xe s
noncomputable def tOp (r : R2) (ta tb : TE) : TE := fun σ H Q => ta σ H fun x H1 => tb σ H1 fun y H2 => r x y H2 Q
noncomputable def tUn (r : V → Hp → VK → Prop) (ta : TE) : TE := fun σ H Q => ta σ H fun x H1 => r x H1 Q
inductive IRI (C : Int → Int → Prop) (g : Int → Int → V) (x y : V) (H : Hp) (Q : VK) : Prop
 | mk (i j : Int) : (x = .int i) → (y = .int j) → (C i j) → (Q (g i j) H) → IRI C g x y H Q
noncomputable def rI (C : Int → Int → Prop) (g : Int → Int → V) : R2 := fun x y H Q => IRI C g x y H Q
inductive IRI0 (g : Int → Int → V) (x y : V) (H : Hp) (Q : VK) : Prop
 | mk (i j : Int) : (x = .int i) → (y = .int j) → (Q (g i j) H) → IRI0 g x y H Q
noncomputable def rI0 (g : Int → Int → V) : R2 := fun x y H Q => IRI0 g x y H Q
noncomputable def rU (g : Int → V) : V → Hp → VK → Prop := fun x H Q => ∃ i,x = .int i ∧ Q (g i) H
section
variable {X : Cx} {a b c : Expr} {ta tb tc : TE} {pos : Pos}
theorem binT (ha : PE X a ta) (hb : PE X b tb) {pins : List (Addr × Obj)} {s : Shared} {σ : St} {H : Hp} {R : V → V → Hp → Prop} (I : Inv X pins σ H s)
  (h : ta σ H fun x H1 => tb σ H1 fun y H2 => R x y H2) {Q : Value → Shared → Prop} {f : Value → Value → Sem Value}
  (hf : ∀ v u s2 x y H2,Inv X pins σ H2 s2 → RelV x v → RelV y u → R x y H2 → wpAny (model X.prog X.w) X.A (f v u) Q X.xe s2) :
  wpAny (model X.prog X.w) X.A (eval a X.env) (fun v s₁ => wpAny (model X.prog X.w) X.A (eval b X.env) (fun u s₂ => wpAny (model X.prog X.w) X.A (f v u) Q X.xe s₂) X.xe s₁) X.xe s := by
 refine thn (ha pins s σ H _ I h) fun v s1 ⟨x,H1,I1,r1,q1⟩ => ?_
 refine thn (hb pins s1 σ H1 _ I1 q1) fun u s2 ⟨y,H2,I2,r2,q2⟩ => ?_
 exact hf v u s2 x y H2 I2 r1 r2 q2
theorem pe_op {op : Operator} {r : R2} (ho : OpR X (binaryOp op) r) (ha : PE X a ta) (hb : PE X b tb) : PE X (.BinOp a op b pos) (tOp r ta tb) := by
 intro pins s σ H Q I h
 exact wpAny_BinOp (binT ha hb I h fun v u s2 x y H2 I2 rx ry q => ho pins s2 σ H2 x y v u Q I2 rx ry q)
theorem pe_un {op : UnaryOp} {r : V → Hp → VK → Prop} (ho : UnR X (unaryOp op) r) (ha : PE X a ta) : PE X (.UnaryOp op a pos) (tUn r ta) := by
 intro pins s σ H Q I h
 exact UnaryOp_ (thn (ha pins s σ H _ I h) fun v s1 ⟨x,H1,I1,r1,q1⟩ => ho pins s1 σ H1 x v Q I1 r1 q1)
theorem opI {f : Value → Value → Sem Value} {C : Int → Int → Prop} {g : Int → Int → Int}
  (rule : ∀ (i j : Int) (t u : Tok) (s : Shared) (Q : Value → Shared → Prop) (E : Value → Shared → Prop),C i j → Q (.int (g i j) s.toks) { s with toks := s.toks + 1 } → wpAny (model X.prog X.w) X.A (f (.int i t) (.int j u)) Q E s) :
  OpR X f (rI C fun i j => .int (g i j)) := by
 intro pins s σ H x y v u Q I rx ry h
 obtain ⟨i,j,rfl,rfl,hc,q⟩ := h
 obtain ⟨t,rfl⟩ := rx
 obtain ⟨t',rfl⟩ := ry
 exact rule i j t t' s _ _ hc ⟨.int (g i j),H,I.tok _,⟨_,rfl⟩,q⟩
theorem opI0 {f : Value → Value → Sem Value} {g : Int → Int → Int}
  (rule : ∀ (i j : Int) (t u : Tok) (s : Shared) (Q : Value → Shared → Prop) (E : Value → Shared → Prop),Q (.int (g i j) s.toks) { s with toks := s.toks + 1 } → wpAny (model X.prog X.w) X.A (f (.int i t) (.int j u)) Q E s) :
  OpR X f (rI0 fun i j => .int (g i j)) := by
 intro pins s σ H x y v u Q I rx ry h
 obtain ⟨i,j,rfl,rfl,q⟩ := h
 obtain ⟨t,rfl⟩ := rx
 obtain ⟨t',rfl⟩ := ry
 exact rule i j t t' s _ _ ⟨.int (g i j),H,I.tok _,⟨_,rfl⟩,q⟩
theorem opB0 {f : Value → Value → Sem Value} {g : Int → Int → Bool}
  (rule : ∀ (i j : Int) (t u : Tok) (s : Shared) (Q : Value → Shared → Prop) (E : Value → Shared → Prop),Q (.bool (g i j)) s → wpAny (model X.prog X.w) X.A (f (.int i t) (.int j u)) Q E s) :
  OpR X f (rI0 fun i j => .bl (g i j)) := by
 intro pins s σ H x y v u Q I rx ry h
 obtain ⟨i,j,rfl,rfl,q⟩ := h
 obtain ⟨t,rfl⟩ := rx
 obtain ⟨t',rfl⟩ := ry
 exact rule i j t t' s _ _ ⟨.bl (g i j),H,I,rfl,q⟩
noncomputable def CPow (i j : Int) : Prop := 0 ≤ j ∧ j ≤ 1000000 ∧ i.natAbs < 2 ^ 64
noncomputable def CMul (i j : Int) : Prop := (-(2 ^ 64) < i ∧ i < 2 ^ 64) ∨ (-(2 ^ 64) < j ∧ j < 2 ^ 64)
theorem CMul.ok {i j : Int} (h : CMul i j) : IntMulOk i j := by
 rcases h with ⟨h1,h2⟩ | ⟨h1,h2⟩
 ·exact .of_left (intBits_le_64 h1 h2)
 ·exact .of_right (intBits_le_64 h1 h2)
theorem op_add : OpR X (binaryOp .Add) (rI0 fun i j => .int (i + j)) := opI0 fun _ _ _ _ _ _ _ q => add_int q
theorem op_sub : OpR X (binaryOp .Sub) (rI0 fun i j => .int (i - j)) := opI0 fun _ _ _ _ _ _ _ q => sub_int q
theorem op_mul : OpR X (binaryOp .Mult) (rI CMul fun i j => .int (i * j)) := opI fun _ _ _ _ _ _ _ hc q => mul_int q hc.ok
theorem op_mod : OpR X (binaryOp .Mod) (rI (fun _ j => 0 < j) fun i j => .int (i % j)) := opI fun i j _ _ _ _ _ hc q => by
 have h1 : (0 : Int) < j := hc
 exact mod_int' (by lia) (by rw [Int.fmod_eq_emod_of_nonneg i (by lia)]; exact q)
theorem op_pow : OpR X (binaryOp .Pow) (rI CPow fun i j => .int (i ^ j.toNat)) := opI fun _ _ _ _ _ _ _ hc q => pow_int_small hc.1 hc.2.1 hc.2.2 q
theorem unI {f : Value → Sem Value} {g : Int → Int}
  (rule : ∀ (i : Int) (t : Tok) (s : Shared) (Q : Value → Shared → Prop) (E : Value → Shared → Prop),Q (.int (g i) s.toks) { s with toks := s.toks + 1 } → wpAny (model X.prog X.w) X.A (f (.int i t)) Q E s) :
  UnR X f (rU fun i => .int (g i)) := by
 intro pins s σ H x v Q I rx h
 obtain ⟨i,rfl,q⟩ := h
 obtain ⟨t,rfl⟩ := rx
 exact rule i t s _ _ ⟨.int (g i),H,I.tok _,⟨_,rfl⟩,q⟩
theorem un_neg : UnR X (unaryOp .USub) (rU fun i => .int (-i)) := unI fun _ _ _ _ _ q => neg_int q
end
noncomputable def scal : V → V → Bool
 | .non,.non => true | .non,.int _ => true | .int _,.non => true | .non,.bl _ => true | .bl _,.non => true | .non,.str _ => true | .str _,.non => true
 | .int _,.int _ => true | .bl _,.bl _ => true | .str _,.str _ => true | .byt _,.byt _ => true
 | .int _,.str _ => true | .str _,.int _ => true | .bl _,.str _ => true | .str _,.bl _ => true
 | _,_ => false
noncomputable def rEq : R2 := fun x y H Q => scal x y = true ∧ Q (.bl (decide (x = y))) H
noncomputable def rNe : R2 := fun x y H Q => scal x y = true ∧ Q (.bl (!decide (x = y))) H
theorem dec_int {i j : Int} : decide (V.int i = V.int j) = (i == j) := by
 rw [Bool.eq_iff_iff]
 simp
theorem dec_bl {i j : Bool} : decide (V.bl i = V.bl j) = (i == j) := by
 rw [Bool.eq_iff_iff]
 simp
theorem dec_str {i j : Str} : decide (V.str i = V.str j) = (i == j) := by
 rw [Bool.eq_iff_iff]
 simp
theorem dec_byt {i j : Array UInt8} : decide (V.byt i = V.byt j) = (i.toList == j.toList) := by
 rw [Bool.eq_iff_iff]
 cases i
 cases j
 simp
section
variable {X : Cx} {a b c : Expr} {ta tb tc : TE} {pos : Pos}
theorem fin_bl {pins : List (Addr × Obj)} {σ : St} {H : Hp} {s : Shared} {Q : VK} {k k' : Bool} (I : Inv X pins σ H s) (q : Q (.bl k) H) (e : k = k') : EP X pins σ Q (.bool k') s := by
 subst e
 exact ⟨.bl k,H,I,rfl,q⟩
theorem op_eq : OpR X (compareOp .Eq) rEq := by
 intro pins s σ H x y v u Q I rx ry h
 obtain ⟨hs,q⟩ := h
 cases x with
 | non =>
  cases rx
  cases y with
  | non => cases ry; exact PySem.EqNone.eq_none_none (fin_bl I q (by simp))
  | bl j => cases ry; exact PySem.EqNone.eq_none_bool (fin_bl I q (by simp))
  | int j => obtain ⟨t',rfl⟩ := ry; exact PySem.EqNone.eq_none_int (fin_bl I q (by simp))
  | str j => obtain ⟨t',rfl⟩ := ry; exact PySem.EqNone.eq_none_str (fin_bl I q (by simp))
  | _ => exact absurd (show false = true from hs) Bool.false_ne_true
 | bl i =>
  cases rx
  cases y with
  | non => cases ry; exact PySem.EqNone.eq_bool_none (fin_bl I q (by simp))
  | bl j => cases ry; exact eq_bool (fin_bl I q dec_bl)
  | str j => obtain ⟨t',rfl⟩ := ry; exact PySem.EqMixed.eq_bool_str (fin_bl I q (by simp))
  | _ => exact absurd (show false = true from hs) Bool.false_ne_true
 | int i =>
  obtain ⟨t,rfl⟩ := rx
  cases y with
  | non => cases ry; exact PySem.EqNone.eq_int_none (fin_bl I q (by simp))
  | int j => obtain ⟨t',rfl⟩ := ry; exact eq_int (fin_bl I q dec_int)
  | str j => obtain ⟨t',rfl⟩ := ry; exact PySem.EqMixed.eq_int_str (fin_bl I q (by simp))
  | _ => exact absurd (show false = true from hs) Bool.false_ne_true
 | str i =>
  obtain ⟨t,rfl⟩ := rx
  cases y with
  | non => cases ry; exact PySem.EqNone.eq_str_none (fin_bl I q (by simp))
  | bl j => cases ry; exact PySem.EqMixed.eq_str_bool (fin_bl I q (by simp))
  | int j => obtain ⟨t',rfl⟩ := ry; exact PySem.EqMixed.eq_str_int (fin_bl I q (by simp))
  | str j => obtain ⟨t',rfl⟩ := ry; exact eq_str (fin_bl I q dec_str)
  | _ => exact absurd (show false = true from hs) Bool.false_ne_true
 | byt i =>
  obtain ⟨t,rfl⟩ := rx
  cases y with
  | byt j => obtain ⟨t',rfl⟩ := ry; exact PySem.W.eq_bytes (fin_bl I q dec_byt)
  | _ => exact absurd (show false = true from hs) Bool.false_ne_true
 | _ => cases y <;> exact absurd (show false = true from hs) Bool.false_ne_true
theorem op_ne : OpR X (compareOp .NotEq) rNe := by
 intro pins s σ H x y v u Q I rx ry h
 obtain ⟨hs,q⟩ := h
 cases x with
 | non =>
  cases rx
  cases y with
  | non => cases ry; exact PySem.EqNone.ne_none_none (fin_bl I q (by simp))
  | bl j => cases ry; exact PySem.EqNone.ne_none_bool (fin_bl I q (by simp))
  | int j => obtain ⟨t',rfl⟩ := ry; exact PySem.EqNone.ne_none_int (fin_bl I q (by simp))
  | str j => obtain ⟨t',rfl⟩ := ry; exact PySem.EqNone.ne_none_str (fin_bl I q (by simp))
  | _ => exact absurd (show false = true from hs) Bool.false_ne_true
 | bl i =>
  cases rx
  cases y with
  | non => cases ry; exact PySem.EqNone.ne_bool_none (fin_bl I q (by simp))
  | bl j => cases ry; exact ne_bool (fin_bl I q (congrArg not dec_bl))
  | str j => obtain ⟨t',rfl⟩ := ry; exact PySem.EqMixed.ne_bool_str (fin_bl I q (by simp))
  | _ => exact absurd (show false = true from hs) Bool.false_ne_true
 | int i =>
  obtain ⟨t,rfl⟩ := rx
  cases y with
  | non => cases ry; exact PySem.EqNone.ne_int_none (fin_bl I q (by simp))
  | int j => obtain ⟨t',rfl⟩ := ry; exact ne_int (fin_bl I q (congrArg not dec_int))
  | str j => obtain ⟨t',rfl⟩ := ry; exact PySem.EqMixed.ne_int_str (fin_bl I q (by simp))
  | _ => exact absurd (show false = true from hs) Bool.false_ne_true
 | str i =>
  obtain ⟨t,rfl⟩ := rx
  cases y with
  | non => cases ry; exact PySem.EqNone.ne_str_none (fin_bl I q (by simp))
  | bl j => cases ry; exact PySem.EqMixed.ne_str_bool (fin_bl I q (by simp))
  | int j => obtain ⟨t',rfl⟩ := ry; exact PySem.EqMixed.ne_str_int (fin_bl I q (by simp))
  | str j => obtain ⟨t',rfl⟩ := ry; exact ne_str (fin_bl I q (congrArg not dec_str))
  | _ => exact absurd (show false = true from hs) Bool.false_ne_true
 | byt i =>
  obtain ⟨t,rfl⟩ := rx
  cases y with
  | byt j => obtain ⟨t',rfl⟩ := ry; exact PySem.W.ne_bytes (fin_bl I q (congrArg not dec_byt))
  | _ => exact absurd (show false = true from hs) Bool.false_ne_true
 | _ => cases y <;> exact absurd (show false = true from hs) Bool.false_ne_true
theorem op_lt : OpR X (compareOp .Lt) (rI0 fun i j => .bl (decide (i < j))) := opB0 fun _ _ _ _ _ _ _ q => lt_int q
theorem op_le : OpR X (compareOp .LtE) (rI0 fun i j => .bl (decide (i ≤ j))) := opB0 fun _ _ _ _ _ _ _ q => le_int q
theorem op_gt : OpR X (compareOp .Gt) (rI0 fun i j => .bl (decide (j < i))) := opB0 fun _ _ _ _ _ _ _ q => gt_int q
theorem op_ge : OpR X (compareOp .GtE) (rI0 fun i j => .bl (decide (j ≤ i))) := opB0 fun _ _ _ _ _ _ _ q => ge_int q
theorem nomark (b : Expr) {op : CmpOp} (h : op ≠ .In := by decide) (h2 : op ≠ .NotIn := by decide) : behindInMarks op b = false := by
 have e1 : (op == CmpOp.In) = false := by cases op <;> first | rfl | exact absurd rfl h
 have e2 : (op == CmpOp.NotIn) = false := by cases op <;> first | rfl | exact absurd rfl h2
 cases b <;> simp [behindInMarks,e1,e2]
theorem pe_cmpR {op : CmpOp} {r : R2} (ho : OpR X (compareOp op) r) (ha : PE X a ta) (hb : PE X b tb) (hm : behindInMarks op b = false) : PE X (.Compare a [op] [b] pos) (tOp r ta tb) := by
 intro pins s σ H Q I h
 exact wpAny_Compare1 (binT ha hb I h fun v u s2 x y H2 I2 rx ry q => ho pins s2 σ H2 x y v u Q I2 rx ry q) hm
inductive IBl (x : V) (H' : Hp) (Q : Bool → Hp → Prop) : Prop
 | mk (k : Bool) : (x = .bl k) → (Q k H') → IBl x H' Q
noncomputable def tTest (t : TE) : TT := fun σ H Q => t σ H fun x H' => IBl x H' Q
theorem pt_cmpR {op : CmpOp} {r : R2} (ho : OpR X (compareOp op) r) (ha : PE X a ta) (hb : PE X b tb) (hm : behindInMarks op b = false) : PT X (.Compare a [op] [b] pos) (tTest (tOp r ta tb)) := by
 intro pins s σ H Q I h
 refine wpAny_isTrue_Compare1 (thn (ha pins s σ H _ I h) fun v s1 ⟨x,H1,I1,r1,q1⟩ => thn (hb pins s1 σ H1 _ I1 q1) fun u s2 ⟨y,H2,I2,r2,q2⟩ =>
  thn (ho pins s2 σ H2 x y v u _ I2 r1 r2 q2) fun c s3 ⟨z,H3,I3,r3,k,e,q3⟩ => ?_) hm
 subst e
 cases r3
 exact wpAny_truthy_bool ⟨H3,I3,q3⟩
theorem line63 : (sizeLine : Nat) < 2 ^ 63 := by rw [sizeLine_eq]; decide
theorem op_add_str : OpR X (binaryOp .Add) (fun x y H Q => ∃ i j,x = .str i ∧ y = .str j ∧ i.length + j.length ≤ sizeLine ∧ Q (.str (i ++ j)) H) := by
 intro pins s σ H x y v u Q I rx ry h
 obtain ⟨i,j,rfl,rfl,hz,q⟩ := h
 obtain ⟨t,rfl⟩ := rx
 obtain ⟨t',rfl⟩ := ry
 exact add_str (fun t' tk => ⟨.str (i ++ j),H,I.tok _,⟨_,rfl⟩,q⟩) hz
theorem vals1 {x : V} {us : List Value} (r : Vals [x] us) : ∃ u,us = [u] ∧ RelV x u := by
 cases r with
 | cons r1 r2 => cases r2; exact ⟨_,rfl,r1⟩
theorem vals2 {x y : V} {us : List Value} (r : Vals [x,y] us) : ∃ u w',us = [u,w'] ∧ RelV x u ∧ RelV y w' := by
 cases r with
 | cons r1 r2 =>
  cases r2 with
  | cons r3 r4 => cases r4; exact ⟨_,_,rfl,r1,r3⟩
theorem call_min2 (hc : X.calm = true) : CallR X (.builtin "min") (fun xs H Q => ∃ i j,xs = [.int i,.int j] ∧ Q (.int (if j < i then j else i)) H) := by
 intro pins s σ H xs us Q I r h
 obtain ⟨i,j,rfl,q⟩ := h
 obtain ⟨u,w',rfl,⟨t,rfl⟩,⟨t',rfl⟩⟩ := vals2 r
 refine min_two_ints (I.ok.hd hc) fun h' tk k => ⟨_,H,I.kept k,?_,q⟩
 by_cases hj : j < i
 ·rw [if_pos hj,if_pos hj]; exact ⟨_,rfl⟩
 ·rw [if_neg hj,if_neg hj]; exact ⟨_,rfl⟩
theorem call_int1 : CallR X (.type "int") (fun xs H Q => (∃ i,xs = [.int i] ∧ Q (.int i) H) ∨ ∃ k,xs = [.bl k] ∧ Q (.int (if k then 1 else 0)) H) := by
 intro pins s σ H xs us Q I r h
 rcases h with ⟨i,rfl,q⟩ | ⟨k,rfl,q⟩
 ·obtain ⟨u,rfl,t,rfl⟩ := vals1 r
  exact call_int_int ⟨.int i,H,I,⟨_,rfl⟩,q⟩
 ·obtain ⟨u,rfl,r1⟩ := vals1 r
  cases r1
  exact call_int_bool ⟨.int (if k then 1 else 0),H,I.tok _,⟨_,rfl⟩,q⟩
end
end L2
namespace L2
open PySem PySem.Spec PyProof.Rows
structure ObjM (h : Heap) (x dx C : Addr) (mA : Str → Option Value) : Prop where
 obj : h.get? x = some (PySem.W.instObj C dx)
 ns : h.Ns1 dx mA
 ne : dx ≠ x
section
variable {prog : Program} {w : World} {A : Around} {E : Value → Shared → Prop} {s : Shared} {K : PySem.W.Frag} {x dx C f : Addr} {mA : Str → Option Value} {name : Str} {v : Value}
end
theorem RelO.some_of {v : V} {o : Option Value} (r : RelO (some v) o) : ∃ u,o = some u ∧ RelV v u := by
 cases o with
 | none => exact (show False from r).elim
 | some u => exact ⟨u,rfl,r⟩
section
variable {P : Program} {w : World} {H H' : Hp} {h h' : Heap} {a C dx : Addr} {fs fs' : List (Str × V)}
end
structure Cls (K : PySem.W.Frag) (C : Addr) : Prop where
 pg : PySem.W.plainGet K C Str.empty = true
 hd : PySem.W.hasDictIn K C = true
 po : PySem.W.plainOver K C = true
 sa : PySem.W.findIn K (.ref C) "__setattr__" = some (some (.builtin "object.__setattr__"))
section
variable {X : Cx} {pins : List (Addr × Obj)} {σ : St} {H : Hp} {s : Shared} {a C dx : Addr} {fs : List (Str × V)} {f : Str} {v : V} {A : Around} {E : Value → Shared → Prop}
end
noncomputable def InOp (X : Cx) (op : Operator) (rd : V → V → Hp → VK → Prop) : Prop :=
 ∀ (pins : List (Addr × Obj)) (s : Shared) (σ : St) (H : Hp) (x y : V) (u v : Value) (Q : VK),Inv X pins σ H s → RelV x u → RelV y v → rd x y H Q → wpAny (model X.prog X.w) X.A (inplaceOp op u v) (EP X pins σ Q) X.xe s
section
variable {X : Cx} {o e value : Expr} {f : Str} {pos pos' tpos : Pos} {ta tv : TE}
noncomputable def rAdd : V → V → Hp → VK → Prop := fun x y H Q => ∃ i j,x = .int i ∧ y = .int j ∧ Q (.int (i + j)) H
theorem in_add : InOp X .Add rAdd := by
 rintro pins s σ H x y u v Q I rx ry ⟨i,j,rfl,rfl,q⟩
 obtain ⟨t,rfl⟩ := (show ∃ t,u = Value.int i t from rx)
 obtain ⟨t',rfl⟩ := (show ∃ t',v = Value.int j t' from ry)
 exact PyProof.Rows.iadd_int ⟨.int (i + j),H,I.tok _,⟨_,rfl⟩,q⟩
end
section
variable {X : Cx} {pins : List (Addr × Obj)} {σ : St} {H : Hp} {s : Shared} {A : Around} {E : Value → Shared → Prop} {Q : Value → Shared → Prop} {c : Value} {b : Bool}
end
end L2
namespace L2
open PySem PySem.Spec PyProof.Rows
structure Room (k : Nat) (A : Around) : Prop where
 hd : A.handled = none
 dp : A.depth + 3 * k + 5 < recursionLimit
 un : A.units + 16 * k + 200 < cLine
theorem Room.mono {j k : Nat} {A : Around} (r : Room k A) (h : j ≤ k) : Room j A := ⟨r.hd,by have := r.dp; lia,by have := r.un; lia⟩
theorem Room.deeper {k : Nat} {A : Around} (r : Room (k + 1) A) (env : Env) : Room k (A.deeper env) :=
 ⟨r.hd,by have := r.dp; show A.depth + 1 + 3 * k + 5 < _; lia,by have := r.un; show A.units + 3 + 16 * k + 200 < _; lia⟩
theorem Room.depth {k : Nat} {A : Around} (r : Room k A) : A.depth < recursionLimit := by have := r.dp; lia
theorem Room.units {k : Nat} {A : Around} (r : Room k A) : A.units + 64 < cLine := by have := r.un; lia
noncomputable def tNil : TA := fun _ H Q => Q [] H
noncomputable def tCons (ta : TE) (tr : TA) : TA := fun σ H Q => ta σ H fun x H1 => tr σ H1 fun xs H2 => Q (x :: xs) H2
section
variable {X : Cx} {e : Expr} {es : List Expr} {te : TE} {t : TA} {pos : Pos}
theorem pa_nil : PA X [] tNil := fun _ _ _ _ H Q I h => Calls.spliced_nil ⟨[],H,I,.nil,h⟩
theorem pa_cons (ha : PE X e te) (hr : PA X es t) (hs : starEach (e :: es) X.env = (false,eval e X.env) :: starEach es X.env := by rfl) : PA X (e :: es) (tCons te t) := by
 intro pos pins s σ H Q I h
 rw [hs]
 show wpAny _ _ (spliced ((false,eval e X.env) :: backTo pos (starEach es X.env))) _ _ s
 refine Calls.spliced_cons (thn (ha pins s σ H _ I h) fun u s1 ⟨x,H1,I1,r1,q1⟩ => ?_)
 exact thn (hr pos pins s1 σ H1 _ I1 q1) fun us s2 ⟨xs,H2,I2,r2,q2⟩ => ⟨x :: xs,H2,I2,.cons r1 r2,q2⟩
noncomputable def tLst (t : TA) : TE := fun σ H Q => t σ H fun xs H1 => xs.length ≤ sizeLine ∧ ∀ p,H1 p = none → Q (.ref p) (upd H1 p (.lst xs))
theorem pe_lst (h : PA X es t) : PE X (.List es pos) (tLst t) := by
 intro pins s σ H Q I hq
 refine wpAny_List_spliced (thn (h pos pins s σ H _ I hq) fun us s1 ⟨xs,H1,I1,r,z,q⟩ => ⟨by rw [← r.length]; exact z,?_⟩)
 have hf : H1 s1.heap.objs.size = none := I1.hok.fresh (Nat.le_refl _)
 refine ⟨.ref s1.heap.objs.size,upd H1 s1.heap.objs.size (.lst xs),I1.laid (t' := s1.toks) (fun b u e => Heap.get?_push_of_some _ e) (Nat.le_refl _) ?_,rfl,q _ hf⟩
 exact ⟨z,us,0,r,Heap.get?_push_size _ rfl⟩
end
noncomputable abbrev Sp := List V → Hp → VK → XK → Prop
noncomputable abbrev CXT := List Env → Hp → Shared → XK → Value → Shared → Prop
structure Env0 (P : Program) (w : World) (K : PySem.W.Frag) (mg : Str → Option Value) (base : Heap) (A : Around) (outer : List Env) (s : Shared) (H : Hp) : Prop where
 frames : A.frames = some outer
 mod : Mod K mg base
 bs : ∀ b o,base.get? b = some o → s.heap.get? b = some o ∧ H b = none
 bsz : base.objs.size ≤ s.heap.objs.size
 funs : s.heap.FunFrames base outer
 frf : ∀ b ∈ frs outer,H b = none
 hok : HOk P w H s.heap
 bare : AllBare s.gens
noncomputable def CE (outer : List Env) (P : Program) (w : World) (H : Hp) (s : Shared) (Q : VK) (u : Value) (s' : Shared) : Prop :=
 ∃ v H',s'.os = s.os ∧ AllBare s'.gens ∧ Un (frs outer) [] H H' s.heap s'.heap ∧ HOk P w H' s'.heap ∧ RelV v u ∧ Q v H'
noncomputable def CR (CX : CXT) (outer : List Env) (P : Program) (w : World) (H : Hp) (s : Shared) (Q : VK) (E : XK) (r : Result) (s' : Shared) : Prop :=
 match r with
 | .ok (.ret u) => CE outer P w H s Q u s'
 | .ok _ => False
 | .error e => CX outer H s E e s'
structure FnOk (P : Program) (w : World) (K : PySem.W.Frag) (mg : Str → Option Value) (base : Heap) (CX : CXT) (k : Nat) (f : Addr) (fd : FuncData) (ps : List Str) (sp : Sp) : Prop where
 len : ∀ vs H Q E,sp vs H Q E → vs.length = ps.length
 run : ∀ (A : Around) (outer : List Env) (s : Shared) (H : Hp) (args : Args) (us : List Value) (vs : List V) (Q : VK) (E : XK),Room k A → Env0 P w K mg base A outer s H → BindsTo s fd args (ps.zip us) → Vals vs us → sp vs H Q E →
  codeAny (model P w) A (.call (.ref f) args) (CR CX outer P w H s Q E) s
section
variable {X : Cx} {pins : List (Addr × Obj)} {σ : St} {H : Hp} {s s' : Shared}
theorem Inv.env0 (I : Inv X pins σ H s) : Env0 X.prog X.w X.K X.mg X.base X.A X.stack s H :=
 ⟨I.ok.frames,I.ok.mod,I.bs,Nat.le_trans I.ok.bsz I.sz,I.stack,I.stkFree,I.hok,I.bare⟩
theorem Inv.after {Q : VK} {u : Value} (I : Inv X pins σ H s) (h : CE X.stack X.prog X.w H s Q u s') : EP X pins σ Q u s' := by
 obtain ⟨v,H',os,bare,un,hok,r,q⟩ := h
 obtain ⟨hh,g,d,t,os'⟩ := s'
 obtain rfl : os' = s.os := os
 exact ⟨v,H',I.call (h' := hh) (g' := g) (d' := d) (t' := t) (ch := []) un hok bare (fun b z => absurd z (by simp)),r,q⟩
end
noncomputable def tCall (sp : Sp) (dvs : List V) (E : XK) (t : TA) : TE := fun σ H Q => t σ H fun vs H1 => sp (vs ++ dvs) H1 Q E
noncomputable def Binds (K : PySem.W.Frag) (fd : FuncData) (ps : List Str) (ds : List Value) : Prop :=
 ∀ (s : Shared) (us : List Value),K.In s.heap → (us ++ ds).length = ps.length → BindsTo s fd ⟨us,[]⟩ (ps.zip (us ++ ds))
theorem Binds.all {K : PySem.W.Frag} {fd : FuncData} {ps : List Str} (h : ∀ us : List Value,us.length = ps.length → bindArgs fd ⟨us,[]⟩ = pure (ps.zip us)) : Binds K fd ps [] := fun s us _ hl => by
 rw [List.append_nil] at hl ⊢
 exact .of_eq (h us hl)
noncomputable def Passes (CX : CXT) (X : Cx) (E : XK) : Prop := ∀ (pins : List (Addr × Obj)) (σ : St) (H : Hp) (s : Shared) (e : Value) (s' : Shared),Inv X pins σ H s → CX X.stack H s E e s' → X.xe e s'
section
variable {X : Cx} {CX : CXT} {k : Nat} {f C : Addr} {fd : FuncData} {ps : List Str} {sp : Sp} {dvs : List V} {ds : List Value} {E : XK} {x m : Str} {p pos apos : Pos} {e o : Expr} {es : List Expr} {ta : TE} {t : TA}
theorem run_fn {pins : List (Addr × Obj)} {σ : St} {H : Hp} {s : Shared} {Q : VK} {us : List Value} {vs : List V} (F : FnOk X.prog X.w X.K X.mg X.base CX k f fd ps sp) (hr : Room k X.A) (hb : Binds X.K fd ps ds) (hd : Vals dvs ds) (hx : Passes CX X E)
  (I : Inv X pins σ H s) (r : Vals vs us) (h : sp (vs ++ dvs) H Q E) : wpAny (model X.prog X.w) X.A (call (.ref f) us) (EP X pins σ Q) X.xe s := by
 have r2 : Vals (vs ++ dvs) (us ++ ds) := r.append hd
 have hl : (us ++ ds).length = ps.length := by rw [← r2.length]; exact F.len _ _ _ _ h
 refine wpAny_call (codeAny_mono (F.run X.A X.stack s H ⟨us,[]⟩ (us ++ ds) (vs ++ dvs) Q E hr I.env0 (hb s us I.kIn hl) r2 h) fun r s' hq => ?_)
 cases r with
 | error e => exact hx pins σ H s e s' I hq
 | ok fl =>
  cases fl with
  | ret u => exact I.after hq
  | next => exact False.elim hq
  | brk => exact False.elim hq
  | cont => exact False.elim hq
theorem pe_call (F : FnOk X.prog X.w X.K X.mg X.base CX k f fd ps sp) (hr : Room k X.A) (hg : Gl X x) (hm : X.mg x = some (.ref f)) (hk : PySem.W.keepIn X.K (.ref f) = true) (hb : Binds X.K fd ps ds) (hd : Vals dvs ds) (hx : Passes CX X E)
  (ha : PA X (e :: es) t) (hdb : (x == ("__debug__" : Str)) = false := by decide) (he : starEach (e :: es) X.env = (false,eval e X.env) :: starEach es X.env := by rfl) (hpl : (backTo pos (starEach es X.env)).any (·.1) = false := by rfl) :
  PE X (.Call (.Name x p) (e :: es) [] pos) (tCall sp dvs E t) := by
 intro pins s σ H Q I h
 refine wpAny_Call_Name_kw (ld_glob I hg hm ?_ hdb)
 refine PySem.W.callWith_K (h₀ := X.base) I.ok.mod.kin hk (thn (ha pos pins s σ H _ I h) fun us s1 ⟨vs,H1,I1,r,q⟩ => ⟨I1.kIn,?_⟩) he hpl
 exact run_fn F hr hb hd hx I1 r q
end
section
variable {X : Cx} {CX : CXT} {k : Nat} {f C : Addr} {fd : FuncData} {ps ks : List Str} {sp : Sp} {E : XK} {x m : Str} {p pos apos kpos : Pos} {e o : Expr} {es : List Expr} {kws : List Keyword} {te ta : TE} {t tk : TA} {nm : Option Str}
variable {g : List Value → List Value → List Value} {gV : List V → List V → List V}
end
structure FnScope (N P : List Str) (sc : Scope) : Prop where
 kind : sc.kind = .function
 co : sc.isCoroutine = false
 gen : sc.isGenerator = false
 nd : N.Nodup
 pre : N.take P.length = P
 par : ∀ x ∈ P,sc.names.lookup x = some .local ∨ sc.names.lookup x = some .cell
 nofree : ∀ y ∈ sc.names,y.2 ≠ .free
theorem bindL_out {kindOf : Str → Option NameKind} {x : Str} : ∀ {binds : List (Str × Value)} {m : Str → Option Value},(∀ v,(x,v) ∉ binds) → bindL kindOf binds m x = m x
 | [],_,_ => rfl
 | (n,v) :: r,m,h => by
  unfold bindL
  rw [bindL_out fun w hw => h w (List.mem_cons_of_mem _ hw)]
  split
  ·have : x ≠ n := by rintro rfl; exact h v List.mem_cons_self
   simp [this]
  ·rfl
theorem bindC_out {kindOf : Str → Option NameKind} {x : Str} : ∀ {binds : List (Str × Value)} {m : Str → Option Value},(∀ v,(x,v) ∉ binds) → bindC kindOf binds m x = m x
 | [],_,_ => rfl
 | (n,v) :: r,m,h => by
  unfold bindC
  rw [bindC_out fun w hw => h w (List.mem_cons_of_mem _ hw)]
  split
  ·rfl
  ·have : x ≠ n := by rintro rfl; exact h v List.mem_cons_self
   simp [this]
theorem bindL_get {kindOf : Str → Option NameKind} {x : Str} {v : Value} : ∀ {P : List Str} {vs : List Value} {i : Nat} {m : Str → Option Value},P.Nodup → P[i]? = some x → vs[i]? = some v → kindOf x = some .local →
  bindL kindOf (P.zip vs) m x = some v
 | [],_,_,_,_,h,_,_ => by simp at h
 | _ :: _,[],_,_,_,_,h,_ => by simp at h
 | p :: P,w :: vs,0,m,nd,h1,h2,hk => by
  simp at h1 h2; subst h1; subst h2
  show bindL kindOf ((p,w) :: P.zip vs) m p = _
  unfold bindL
  rw [bindL_out fun v hv => (List.nodup_cons.mp nd).1 (List.of_mem_zip hv).1,if_pos hk]
  simp
 | p :: P,w :: vs,i + 1,m,nd,h1,h2,hk => by
  show bindL kindOf ((p,w) :: P.zip vs) m x = _
  unfold bindL
  exact bindL_get (i := i) (List.nodup_cons.mp nd).2 (by simpa using h1) (by simpa using h2) hk
theorem bindC_get {kindOf : Str → Option NameKind} {x : Str} {v : Value} : ∀ {P : List Str} {vs : List Value} {i : Nat} {m : Str → Option Value},P.Nodup → P[i]? = some x → vs[i]? = some v → kindOf x ≠ some .local →
  bindC kindOf (P.zip vs) m x = some v
 | [],_,_,_,_,h,_,_ => by simp at h
 | _ :: _,[],_,_,_,_,h,_ => by simp at h
 | p :: P,w :: vs,0,m,nd,h1,h2,hk => by
  simp at h1 h2; subst h1; subst h2
  show bindC kindOf ((p,w) :: P.zip vs) m p = _
  unfold bindC
  rw [bindC_out fun v hv => (List.nodup_cons.mp nd).1 (List.of_mem_zip hv).1,if_neg hk]
  simp
 | p :: P,w :: vs,i + 1,m,nd,h1,h2,hk => by
  show bindC kindOf ((p,w) :: P.zip vs) m x = _
  unfold bindC
  exact bindC_get (i := i) (List.nodup_cons.mp nd).2 (by simpa using h1) (by simpa using h2) hk
noncomputable def start (N : List Str) (vs : List V) : St := vs.map some ++ List.replicate (N.length - vs.length) none
noncomputable def cxOf (CX : CXT) (P : Program) (w : World) (K : PySem.W.Frag) (mg : Str → Option Value) (base : Heap) (N : List Str) (qual : Str) (scope : Scope) (f : Addr) (cd : Value) (A : Around) (outer : List Env) (s : Shared) (H : Hp) (E : XK) : Cx where
 prog := P
 w := w
 K := K
 mg := mg
 base := base
 A := A.deeper (envOfC qual scope s.heap.objs.size f cd)
 N := N
 s₀ := s
 H₀ := H
 env := envOfC qual scope s.heap.objs.size f cd
 outer := outer
 stack := envOfC qual scope s.heap.objs.size f cd :: outer
 ex := []
 calm := true
 fn := fun _ => true
 pn := []
 xe := fun e s' => wpAny (model P w) (A.deeper (envOfC qual scope s.heap.objs.size f cd)) (leaving (envOfC qual scope s.heap.objs.size f cd) e) (fun _ s'' => CX outer H s E e s'') (fun e' s'' => CX outer H s E e' s'') s'
theorem cell_has {sc : Scope} {n : Nat} {x : Str} (h : sc.names.lookup x = some .cell) : ∃ c,(cellsFrom n sc.names []).lookup x = some c := by
 have q := PySem.W.cellsFrom_some sc.names n [] (.inl h)
 exact Option.isSome_iff_exists.mp q
theorem inv_start {CX : CXT} {P : Program} {w : World} {K : PySem.W.Frag} {mg : Str → Option Value} {base : Heap} {N ps : List Str} {qual : Str} {scope : Scope} {f : Addr} {cd : Value} {A : Around} {outer : List Env} {s s1 : Shared} {H : Hp} {E : XK} {us : List Value} {vs : List V}
  (S : FnScope N ps scope) (hd : A.handled = none) (e0 : Env0 P w K mg base A outer s H) (hl : vs.length = ps.length) (r : Vals vs us)
  (x : InCallC s s.heap.objs.size (bindL (envOfC qual scope s.heap.objs.size f cd).kindOf (ps.zip us) fun _ => none) (cellsFrom (s.heap.objs.size + 1) scope.names []) (bindC (envOfC qual scope s.heap.objs.size f cd).kindOf (ps.zip us) fun _ => none) s1) :
  Inv (cxOf CX P w K mg base N qual scope f cd A outer s H E) [] (start N vs) H s1 := by
 have hpl : ps.length ≤ N.length := by have := congrArg List.length S.pre; rw [List.length_take] at this; lia
 obtain ⟨h1,tk,rfl,hk⟩ := x.done
 have noA : ∀ b : Addr,b ∉ (cxOf CX P w K mg base N qual scope f cd A outer s H E).ex := fun b z => absurd (show b ∈ ([] : List Addr) from z) (by simp)
 refine ⟨⟨e0.mod,S.kind,rfl,rfl,Nat.le_refl _,fun y z c h1 h2 => ?_,fun y hy => ?_,fun y c _ h => ?_,fun _ => hd,Around.frames_deeper e0.frames,.inr ⟨rfl,rfl⟩,fun b z => absurd z (noA b),e0.bs,e0.bsz,fun b _ _ => noA b,fun b z => absurd z (noA b),e0.funs,e0.frf⟩,
  rfl,e0.bare,Un.kept hk,⟨_,x.toInCall.ns,fun i y v h1 h2 h3 => ?_⟩,fun y c h => ⟨_,x.cell y c h⟩,e0.hok.fresh (Nat.le_refl _),fun y c h => ?_,fun p hp => absurd (show p ∈ ([] : List (Addr × Obj)) from hp) (by simp),e0.hok.kept hk,?_⟩
 ·exact name_of_addr x.apart (PySem.mem_of_lookup h1) (PySem.mem_of_lookup h2)
 ·have hy : scope.names.lookup y = some .cell ∨ scope.names.lookup y = some .free := hy
  rcases hy with hy | hy
  ·exact cell_has hy
  ·exact absurd rfl (S.nofree _ (PySem.mem_of_lookup hy))
 ·exact Nat.le_of_lt (x.above y c (PySem.mem_of_lookup h))
 ·have hi : i < vs.length := by
   unfold start at h2
   by_cases hi : i < vs.length
   ·exact hi
   ·rw [List.getElem?_append_right (by simpa using hi)] at h2
    rw [List.getElem?_replicate] at h2
    split at h2 <;> cases h2
  have ha : vs[i]? = some v := by
   unfold start at h2
   rw [List.getElem?_append_left (by simpa using hi),List.getElem?_map] at h2
   cases e : vs[i]? with
   | none => rw [e] at h2; cases h2
   | some a => rw [e] at h2; cases h2; rfl
  obtain ⟨u,hu,rv⟩ := r.get ha
  have hp : ps[i]? = some y := by
   rw [← S.pre,List.getElem?_take_of_lt (by lia)]; exact h1
  have ndP : ps.Nodup := by rw [← S.pre]; exact S.nd.sublist (List.take_sublist _ _)
  refine ⟨u,rv,?_⟩
  rcases S.par y (List.mem_of_getElem? hp) with k | k
  ·exact .inl ⟨k,bindL_get ndP hp hu k⟩
  ·obtain ⟨c,e⟩ := cell_has (n := s.heap.objs.size + 1) k
   refine .inr ⟨.inl k,c,e,?_⟩
   have q := x.cell y c e
   rw [bindC_get ndP hp hu (by show scope.names.lookup y ≠ _; rw [k]; decide)] at q
   exact q
 ·exact e0.hok.fresh (Nat.le_of_lt (x.above y c (PySem.mem_of_lookup h)))
 ·unfold start
  show _ = N.length
  rw [List.length_append,List.length_map,List.length_replicate]
  lia
theorem fn_of {CX : CXT} {P : Program} {w : World} {K : PySem.W.Frag} {mg : Str → Option Value} {base : Heap} {k : Nat} {f : Addr} {name qual : Str} {params : Arguments} {body : List Stmt} {scope : Scope} {dV kV doc pm cdv ct oc : Value} {an od : Option Addr}
  {osl : Array (Option Value)} {N ps : List Str} {sp : Sp} (lk : K.lookup f = some ⟨oc,od,.func (PySem.W.fnOf name qual params body scope dV kV doc pm an cdv ct),osl⟩) (hcd : PySem.W.codeIn K cdv qual = true) (S : FnScope N ps scope)
  (len : ∀ vs H Q E,sp vs H Q E → vs.length = ps.length)
  (hbody : ∀ (A : Around) (outer : List Env) (s : Shared) (H : Hp) (vs : List V) (Q : VK) (E : XK),Room k (A.deeper (envOfC qual scope s.heap.objs.size f cdv)) → sp vs H Q E →
   ∃ t,PSs (cxOf CX P w K mg base N qual scope f cdv A outer s H E) body t ∧ t { nx := fun _ H' => Q .non H',rt := Q } (start N vs) H) :
  FnOk P w K mg base CX (k + 1) f (PySem.W.fnOf name qual params body scope dV kV doc pm an cdv ct) ps sp := by
 refine ⟨len,fun A outer s H args us vs Q E hr e0 hb r hsp => ?_⟩
 have hl := len _ _ _ _ hsp
 have KX : K.In s.heap := e0.mod.kin.keeps fun b o e => (e0.bs b o e).1
 have lim : s.heap.NoLimit := e0.mod.nolimit.keeps fun b o e => (e0.bs b o e).1
 have hkind : ∀ y ∈ ps.zip us,scope.names.lookup y.1 = some .local ∨ (scope.names.lookup y.1 = some .cell ∧ ((cellsFrom (s.heap.objs.size + 1) scope.names []).lookup y.1).isSome = true) := fun ⟨n,v⟩ hy => by
  rcases S.par n (List.of_mem_zip hy).1 with q | q
  ·exact .inl q
  ·exact .inr ⟨q,PySem.W.cellsFrom_some _ _ _ (.inl q)⟩
 refine codeAny_call_function hr.depth (KX _ _ lk) rfl S.co S.gen rfl (PySem.W.codeRec_of KX hcd) (hb _ _ _ _ ?_)
 refine wpAny_newFunctionEnv_cells S.kind hkind fun env he s1 x => ?_
 subst he
 refine ⟨lim.keeps x.toInCall.keep,codeAny_func ?_⟩
 obtain ⟨t,ht,hq⟩ := hbody A outer s H vs Q E (hr.deeper _) hsp
 have I : Inv (cxOf CX P w K mg base N qual scope f cdv A outer s H E) [] (start N vs) H s1 := inv_start S hr.hd e0 hl r x
 refine wpAny_mono (ht [] s1 (start N vs) H _ I hq) (fun fl s' hs => ?_) fun e s' hs => hs
 have fin : ∀ {σ' : St} {H' : Hp} {v : V} {u : Value},Inv (cxOf CX P w K mg base N qual scope f cdv A outer s H E) [] σ' H' s' → RelV v u → Q v H' → CE outer P w H s Q u s' :=
  fun {σ' H' v u} J rv q => ⟨v,H',J.os,J.bare,J.base,J.hok,rv,q⟩
 cases fl with
 | ret u =>
  obtain ⟨v,σ',H',J,rv,q⟩ := hs
  exact fin J rv q
 | next =>
  obtain ⟨σ',H',J,q⟩ := hs
  exact fin (v := V.non) (u := Value.none) J rfl q
 | brk =>
  obtain ⟨_,_,_,q⟩ := hs
  exact False.elim q
 | cont =>
  obtain ⟨_,_,_,q⟩ := hs
  exact False.elim q
end L2
namespace L2
open PySem PySem.Spec PyProof.Rows
section
variable {X : Cx} {x : Str} {p pos : Pos} {e : Expr} {es : List Expr} {t : TA} {id T : String} {r : List V → Hp → VK → Prop}
noncomputable def tCB (r : List V → Hp → VK → Prop) (t : TA) : TE := fun σ H Q => t σ H fun vs H1 => r vs H1 Q
theorem pe_callB (hc : CallR X (.builtin id) r) (hg : Gl X x) (hm : X.mg x = none) (hv : bootBuiltins x = some (.builtin id)) (ha : PA X (e :: es) t) (hn : x ≠ "__name__" := by decide) (hdb : (x == ("__debug__" : Str)) = false := by decide)
  (he : starEach (e :: es) X.env = (false,eval e X.env) :: starEach es X.env := by rfl) (hpl : (backTo pos (starEach es X.env)).any (·.1) = false := by rfl) : PE X (.Call (.Name x p) (e :: es) [] pos) (tCB r t) := by
 intro pins s σ H Q I h
 refine wpAny_Call_Name_kw (ld_blt I hg hm hv ?_ hn hdb)
 exact PyProof.Rows.callWith_builtin1 (thn (ha pos pins s σ H _ I h) fun us s1 ⟨vs,H1,I1,r1,q1⟩ => hc pins s1 σ H1 vs us Q I1 r1 q1) he hpl
theorem pe_callTy (hc : CallR X (.type T) r) (hg : Gl X x) (hm : X.mg x = none) (hv : bootBuiltins x = some (.type T)) (ha : PA X (e :: es) t) (hn : x ≠ "__name__" := by decide) (hdb : (x == ("__debug__" : Str)) = false := by decide)
  (he : starEach (e :: es) X.env = (false,eval e X.env) :: starEach es X.env := by rfl) (hpl : (backTo pos (starEach es X.env)).any (·.1) = false := by rfl) : PE X (.Call (.Name x p) (e :: es) [] pos) (tCB r t) := by
 intro pins s σ H Q I h
 refine wpAny_Call_Name_kw (ld_blt I hg hm hv ?_ hn hdb)
 exact PyProof.Rows.callWith_type1 (thn (ha pos pins s σ H _ I h) fun us s1 ⟨vs,H1,I1,r1,q1⟩ => hc pins s1 σ H1 vs us Q I1 r1 q1) he hpl
end
end L2
namespace HT
open PySem PyProof.Rows
section
open PySem.SeqAt
open PySem.AutoSeq1 (wpAny_loadPart')
open PySem.MeetsSeq PySem.MeetsSeq2 PySem.MeetsSeq3
end
section
variable {prog : Program} {w : World} {A : Around} {E : Value → Shared → Prop} {s : Shared}
theorem cat_tup {t b : Addr} {vs ws : List Value} {Q : Value → Shared → Prop} (ht : IsTup s.heap t vs.toArray) (hb : IsTup s.heap b ws.toArray) (hv : vs ≠ [])
  (h1 : ws = [] → Q (.ref t) s) (h2 : ws ≠ [] → Q (.ref s.heap.objs.size) { s with heap := s.heap.push { cls := .type "tuple",data := .seq (vs ++ ws).toArray } })
  (hsz : vs.length + ws.length ≤ sizeLine) : wpAny (model prog w) A (binaryOp .Add (.ref t) (.ref b)) Q E s := by
 obtain ⟨⟨cls,dd,data,sl⟩,ho,hc,n,hd⟩ := id ht
 obtain ⟨⟨cls2,dd2,data2,sl2⟩,ho2,hc2,n2,hd2⟩ := id hb
 simp only at hc hd hc2 hd2
 subst hc hd hc2 hd2
 have e : vs.toArray ++ ws.toArray = (vs ++ ws).toArray := by simp
 by_cases hw : ws = []
 ·exact concat_meets ⟨_,ho,rfl⟩ ⟨_,ho2,rfl⟩ noFill_tuple_add seq_tuple_add PySem.F.slot_tuple_add PySem.F.entry_tuple_add (PySem.F.args_tuple_add_2 _ _)
   (tuple_addW1 t b vs.toArray ws.toArray n n2 dd dd2 sl sl2 (by simpa using hv) (by simp [hw])) ⟨ho,ho2,h1 hw⟩
 ·refine concat_meets ⟨_,ho,rfl⟩ ⟨_,ho2,rfl⟩ noFill_tuple_add seq_tuple_add PySem.F.slot_tuple_add PySem.F.entry_tuple_add (PySem.F.args_tuple_add_2 _ _)
   (tuple_addW2 t b vs.toArray ws.toArray n n2 dd dd2 sl sl2 (by simpa using hv) (by simpa using hw) (by rw [List.size_toArray,List.size_toArray]; exact hsz)) ⟨ho,ho2,?_⟩
  rw [e]
  exact h2 hw
noncomputable def sIx (n d : Nat) : Option Int → Nat
 | none => d
 | some v => if v < 0 then (v + (n : Int)).toNat else min v.toNat n
theorem sIx_le (n d : Nat) (hd : d ≤ n) (o : Option Int) : sIx n d o ≤ n := by
 cases o with
 | none => exact hd
 | some v =>
  show (if v < 0 then (v + (n : Int)).toNat else min v.toNat n) ≤ n
  by_cases hv : v < 0
  ·rw [if_pos hv]; lia
  ·rw [if_neg hv]; exact Nat.min_le_right _ _
theorem clip_eq (v : Int) (n d : Nat) : (if v < 0 then max (v + (n : Int)) 0 else min v (n : Int)) = ((sIx n d (some v) : Nat) : Int) := by
 show (if v < 0 then max (v + (n : Int)) 0 else min v (n : Int)) = (((if v < 0 then (v + (n : Int)).toNat else min v.toNat n) : Nat) : Int)
 by_cases hv : v < 0
 ·simp only [if_pos hv]; lia
 ·simp only [if_neg hv]; lia
theorem adjust_gen (lo hi : Option Int) (n : Nat) : Builtin.Slice.sliceAdjust lo hi 1 (n : Int) = (((sIx n 0 lo : Nat) : Int),((sIx n n hi : Nat) : Int)) := by
 have h1 : ¬ ((1 : Int) < 0) := by lia
 unfold Builtin.Slice.sliceAdjust
 simp only [h1,if_false]
 refine Prod.ext ?_ ?_
 ·cases lo with
  | none => rfl
  | some v => exact clip_eq v n 0
 ·cases hi with
  | none => rfl
  | some v => exact clip_eq v n n
theorem places_gen (i j : Nat) : Builtin.Slice.slicePlaces (i : Int) (j : Int) 1 = j - i := by
 unfold Builtin.Slice.slicePlaces
 have h1 : (1 : Int) > 0 := by lia
 simp only [h1,if_true,Int.ediv_one]
 split <;> lia
theorem slicePart_ {v : Value} {o : Option Int} {Q : Option Int → Shared → Prop} (p : IsPart v o) (h : Q o s) : wpAny (model prog w) A (Builtin.Slice.slicePartIndex v) Q E s := by
 cases p with
 | none => exact slicePart_none h
 | int i t => exact slicePart_int h
theorem sliceApplied_gen {sl : Addr} {vl vu : Value} {lo hi : Option Int} {n : Nat} {Q : Int × Int × Nat → Shared → Prop} (hs : s.heap.IsSliceOf sl vl vu .none) (pl : IsPart vl lo) (pu : IsPart vu hi)
  (h : Q (((sIx n 0 lo : Nat) : Int),1,sIx n n hi - sIx n 0 lo) s) : wpAny (model prog w) A (Builtin.Slice.sliceApplied (.ref sl) (pure (n : Int))) Q E s := by
 obtain ⟨os,hos,hcs,hds⟩ := id hs
 unfold Builtin.Slice.sliceApplied Builtin.Slice.sliceFields
 refine wpAny_bind (wpAny_bind (wpAny_field hos hds (x := vl) rfl (wpAny_bind (wpAny_field hos hds (x := vu) rfl (wpAny_bind (wpAny_field hos hds (x := .none) rfl (wpAny_pure ?_)))))))
 refine wpAny_bind (slicePart_none ?_)
 show wpAny _ _ (if ((1 : Int) == 0) = true then _ else _) _ _ s
 rw [if_neg (by decide)]
 refine wpAny_bind (slicePart_ pl (wpAny_bind (slicePart_ pu (wpAny_bind (wpAny_pure ?_)))))
 show wpAny _ _ (match Builtin.Slice.sliceAdjust lo hi 1 (n : Int) with | (lo,hi) => pure (lo,(1 : Int),Builtin.Slice.slicePlaces lo hi 1)) _ _ s
 rw [adjust_gen lo hi n]
 show wpAny _ _ (pure (((sIx n 0 lo : Nat) : Int),(1 : Int),Builtin.Slice.slicePlaces ((sIx n 0 lo : Nat) : Int) ((sIx n n hi : Nat) : Int) 1)) _ _ s
 rw [places_gen]
 exact wpAny_pure h
theorem pick_gen (xs : Array Value) (i k : Nat) : ((List.range k).filterMap fun (m : Nat) => xs[((i : Int) + (m : Int) * 1).toNat]?).toArray = ((xs.toList.drop i).take k).toArray := by
 have e : (fun (m : Nat) => xs[((i : Int) + (m : Int) * 1).toNat]?) = fun m => xs[i + m]? := by
  funext m
  have : ((i : Int) + (m : Int) * 1).toNat = i + m := by lia
  rw [this]
 rw [e]
 have := pick_run xs i k
 rw [List.filterMap_map] at this
 have e2 : ((fun x => xs[x]?) ∘ fun x => i + x) = fun m => xs[i + m]? := rfl
 rw [e2] at this
 rw [this]
theorem getItem_tuple_cut {t sl : Addr} {items : Array Value} {vl vu : Value} {lo hi : Option Int} {Q : Value → Shared → Prop} (ht : IsTup s.heap t items) (hs : s.heap.IsSliceOf sl vl vu .none) (pl : IsPart vl lo) (pu : IsPart vu hi)
  (hw : ¬ (sIx items.size 0 lo = 0 ∧ sIx items.size items.size hi = items.size))
  (h : Q (.ref s.heap.objs.size) { s with heap := s.heap.push { cls := .type "tuple",data := .seq ((items.toList.drop (sIx items.size 0 lo)).take (sIx items.size items.size hi - sIx items.size 0 lo)).toArray } })
  (hsz : items.size ≤ sizeLine) : wpAny (model prog w) A (getItem (.ref t) (.ref sl)) Q E s := by
 have htake : sizeOk (.seq ((items.toList.drop (sIx items.size 0 lo)).take (sIx items.size items.size hi - sIx items.size 0 lo)).toArray) := by
  show ((items.toList.drop (sIx items.size 0 lo)).take (sIx items.size items.size hi - sIx items.size 0 lo)).toArray.size ≤ sizeLine
  rw [List.size_toArray,List.length_take,List.length_drop,Array.length_toList]
  lia
 have hj : sIx items.size items.size hi ≤ items.size := sIx_le _ _ (Nat.le_refl _) hi
 obtain ⟨os,hos,hcs,hds⟩ := id hs
 have hTs : s.TypeIs (.ref sl) "slice" := ⟨os,hos,hcs⟩
 unfold getItem
 try with_reducible refine wpAny_holding ?_
 first | refine wpAny_bind (wpAny_pure ?_) | skip
 refine wpAny_bind (wpAny_sequenceKey ht.typeIs (by decide) ?_)
 refine wpAny_bind (wpAny_callSpecial?_slot (name := Str.ofString "__getitem__") ht.typeIs PyProof.Rows.slot_tuple_getitem
  (wpAny_call_entry PyProof.Rows.slot_tuple_getitem ht.typeIs entry_tuple_getitem ?_ (args_tuple_getitem _ _)))
 show wpAny _ _ (Builtin.Tuple.tupleItemsOf (.ref t) >>= _) _ _ s
 refine wpAny_bind (tupleItemsOf_ ht ?_)
 refine wpAny_bind (wpAny_typeOf hTs ?_)
 rw [if_pos (by decide)]
 refine wpAny_bind (sliceApplied_gen hs pl pu ?_)
 have hno : ¬ ((((sIx items.size 0 lo : Nat) : Int) == 0 && (1 : Int) == 1 && (sIx items.size items.size hi - sIx items.size 0 lo) == items.size) = true) := by
  intro q
  rw [Bool.and_eq_true,Bool.and_eq_true] at q
  have q1 : ((sIx items.size 0 lo : Nat) : Int) = 0 := eq_of_beq q.1.1
  have q2 : sIx items.size items.size hi - sIx items.size 0 lo = items.size := eq_of_beq q.2
  exact hw ⟨by lia,by lia⟩
 show wpAny _ _ (if (((sIx items.size 0 lo : Nat) : Int) == 0 && (1 : Int) == 1 && (sIx items.size items.size hi - sIx items.size 0 lo) == items.size) = true then _ else _) _ _ s
 rw [if_neg hno,pick_gen]
 first
  | exact wpAny_bind (m := Builtin.Tuple.tupleExact _) (wpAny_newObj_type (wpAny_pure ⟨_,rfl,wpAny_pure h⟩) htake)
  | exact wpAny_bind (m := Builtin.Tuple.tupleExact _) (wpAny_newObj_type (wpAny_bind (wpAny_pure (wpAny_pure ⟨_,rfl,wpAny_pure h⟩))) htake)
  | exact wpAny_bind (wpAny_bind (m := Builtin.Tuple.tupleExact _) (wpAny_newObj_type (wpAny_pure (wpAny_pure ⟨_,rfl,wpAny_pure h⟩)) htake))
  | exact wpAny_bind (wpAny_bind (m := Builtin.Tuple.tupleExact _) (wpAny_newObj_type (wpAny_pure ⟨_,rfl,wpAny_pure h⟩) htake))
end
end HT
namespace L2
open PySem PySem.Spec PyProof.Rows
noncomputable abbrev TO := St → Hp → (Option Int → Hp → Prop) → Prop
noncomputable def PO (X : Cx) (e : Option Expr) (t : TO) : Prop :=
 ∀ (pins : List (Addr × Obj)) (s : Shared) (σ : St) (H : Hp) (Q : Option Int → Hp → Prop),Inv X pins σ H s → t σ H Q →
  wpAny (model X.prog X.w) X.A (evalPart e X.env) (fun u s' => ∃ o H',Inv X pins σ H' s' ∧ IsPart u o ∧ Q o H') X.xe s
noncomputable def tNoPart : TO := fun _ H Q => Q none H
inductive IPrt (x : V) (H1 : Hp) (Q : Option Int → Hp → Prop) : Prop
 | mk (i : Int) : (x = .int i) → (Q (some i) H1) → IPrt x H1 Q
noncomputable def tPart (t : TE) : TO := fun σ H Q => t σ H fun x H1 => IPrt x H1 Q
section
variable {X : Cx} {e : Expr} {te : TE} {lo hi : Option Expr} {tl th : TO} {pos p2 : Pos}
theorem po_none : PO X none tNoPart := by
 intro pins s σ H Q I h
 rw [evalPart_none]
 exact wpAny_pure ⟨none,H,I,.none,h⟩
theorem po_some (h : PE X e te) : PO X (some e) (tPart te) := by
 intro pins s σ H Q I hw
 rw [evalPart_some]
 refine thn (h pins s σ H _ I hw) fun u s1 ⟨x,H1,I1,r1,q1⟩ => ?_
 obtain ⟨i,rfl,q⟩ := q1
 obtain ⟨t,rfl⟩ := r1
 exact ⟨some i,H1,I1,.int i t,q⟩
noncomputable def SlR (X : Cx) (r : V → Option Int → Option Int → Hp → VK → Prop) : Prop :=
 ∀ (pins : List (Addr × Obj)) (s : Shared) (σ : St) (H : Hp) (x : V) (v vl vu : Value) (lo hi : Option Int) (sl : Addr) (Q : VK),Inv X pins σ H s → RelV x v → s.heap.IsSliceOf sl vl vu .none → IsPart vl lo → IsPart vu hi → r x lo hi H Q →
  ∃ T id,typeLookup (.type T) "__getitem__" = pure (some (.builtin id)) ∧ s.TypeIs v T ∧ wpAny (model X.prog X.w) X.A (getItem v (.ref sl)) (EP X pins σ Q) X.xe s
noncomputable def tSl (r : V → Option Int → Option Int → Hp → VK → Prop) (te : TE) (tl th : TO) : TE := fun σ H Q => te σ H fun x H1 => tl σ H1 fun l H2 => th σ H2 fun u H3 => r x l u H3 Q
theorem pe_slice {r : V → Option Int → Option Int → Hp → VK → Prop} (hr : SlR X r) (he : PE X e te) (hl : PO X lo tl) (hu : PO X hi th) : PE X (.Subscript e (.Slice lo hi none p2) pos) (tSl r te tl th) := by
 intro pins s σ H Q I h
 refine Subscript_ (thn (he pins s σ H _ I h) fun v s1 ⟨x,H1,I1,r1,q1⟩ => ?_)
 refine wpAny_Slice (thn (hl pins s1 σ H1 _ I1 q1) fun vl s2 ⟨l,H2,I2,pl,q2⟩ => thn (hu pins s2 σ H2 _ I2 q2) fun vu s3 ⟨u,H3,I3,pu,q3⟩ => ?_)
 rw [evalPart_none]
 refine wpAny_pure ?_
 have I4 : Inv X pins σ H3 { s3 with heap := s3.heap.push { cls := .type "slice",data := .fields #[vl,vu,.none] } } := I3.kept (t' := s3.toks) fun b ob q => Heap.get?_push_of_some _ q
 obtain ⟨T,id,hT,ht,hg⟩ := hr pins { s3 with heap := s3.heap.push { cls := .type "slice",data := .fields #[vl,vu,.none] } } σ H3 x v vl vu l u s3.heap.objs.size Q I4 r1 (Heap.IsSliceOf.new ..) pl pu q3
 show wpAny (model X.prog X.w) X.A (subscriptTail e (.Slice lo hi none p2) v (.ref s3.heap.objs.size)) (EP X pins σ Q) X.xe { s3 with heap := s3.heap.push { cls := .type "slice",data := .fields #[vl,vu,.none] } }
 exact tail_any (ops := [.ref s3.heap.objs.size,v]) ht hT hg (by with_unfolding_all rfl)
noncomputable def cutV (xs : List V) (lo hi : Option Int) : List V := (xs.drop (HT.sIx xs.length 0 lo)).take (HT.sIx xs.length xs.length hi - HT.sIx xs.length 0 lo)
theorem cutV_length (xs : List V) (lo hi : Option Int) : (cutV xs lo hi).length ≤ xs.length := by
 unfold cutV
 rw [List.length_take,List.length_drop]
 lia
theorem Vals.nil_iff {xs : List V} {us : List Value} (r : Vals xs us) : us = [] ↔ xs = [] := by
 cases r with
 | nil => simp
 | cons _ _ => simp
end
end L2
namespace L2
open PySem PySem.Spec PyProof.Rows
noncomputable def ixN (n : Nat) (i : Int) : Option Nat := if 0 ≤ i then (if i < n then some i.toNat else none) else if -(n : Int) ≤ i then some (i + n).toNat else none
noncomputable def atI {α : Type} (xs : List α) (i : Int) : Option α := (ixN xs.length i).bind fun j => xs[j]?
theorem ixN_seq {n : Nat} {i : Int} {j : Nat} (h : ixN n i = some j) : seqIndex? i n = some j ∧ j < n ∧ -(n : Int) ≤ i ∧ i < n := by
 unfold ixN at h
 by_cases h0 : 0 ≤ i
 ·rw [if_pos h0] at h
  by_cases h1 : i < n
  ·rw [if_pos h1] at h
   have e : i.toNat = j := Option.some.inj h
   exact ⟨by rw [seqIndex_of h0 h1,e],by lia,by lia,h1⟩
  ·rw [if_neg h1] at h; cases h
 ·rw [if_neg h0] at h
  by_cases h1 : -(n : Int) ≤ i
  ·rw [if_pos h1] at h
   have e : (i + n).toNat = j := Option.some.inj h
   exact ⟨by rw [seqIndex_neg (by lia) h1,e],by lia,h1,by lia⟩
  ·rw [if_neg h1] at h; cases h
theorem atI_get {α : Type} {xs : List α} {i : Int} {v : α} (h : atI xs i = some v) : ∃ j,seqIndex? i xs.length = some j ∧ xs[j]? = some v ∧ j < xs.length ∧ -(xs.length : Int) ≤ i ∧ i < xs.length := by
 unfold atI at h
 cases e : ixN xs.length i with
 | none => rw [e] at h; cases h
 | some j =>
  rw [e] at h
  obtain ⟨h1,h2,h3,h4⟩ := ixN_seq e
  exact ⟨j,h1,h,h2,h3,h4⟩
theorem atI_nat {α : Type} {xs : List α} {j : Nat} {v : α} (h : xs[j]? = some v) : atI xs (j : Int) = some v := by
 have hj : j < xs.length := (List.getElem?_eq_some_iff.mp h).1
 have e : ixN xs.length (j : Int) = some j := by
  unfold ixN
  rw [if_pos (by lia),if_pos (by lia)]; simp
 unfold atI; rw [e]; exact h
noncomputable def PlainIx (b : Expr) : Prop := ∀ o i,subscripted b false o i = operate [o,i] (getItem o i)
noncomputable def IxR (X : Cx) (r : R2) : Prop :=
 ∀ (value slice : Expr) (pins : List (Addr × Obj)) (s : Shared) (σ : St) (H : Hp) (x y : V) (v u : Value) (Q : VK),Inv X pins σ H s → RelV x v → RelV y u → r x y H Q →
  subscripted slice false v u = operate [v,u] (getItem v u) → wpAny (model X.prog X.w) X.A (subscriptTail value slice v u) (EP X pins σ Q) X.xe s
noncomputable def MtR (X : Cx) (id : String) (r : V → List V → Hp → VK → Prop) : Prop :=
 ∀ (pins : List (Addr × Obj)) (s : Shared) (σ : St) (H : Hp) (x : V) (xs : List V) (v : Value) (us : List Value) (Q : VK),Inv X pins σ H s → RelV x v → Vals xs us → r x xs H Q →
  wpAny (model X.prog X.w) X.A (call (.builtin id) (v :: us)) (EP X pins σ Q) X.xe s
section
variable {X : Cx} {a b : Expr} {ta tb : TE} {pos : Pos}
theorem pe_ix {r : R2} (hr : IxR X r) (ha : PE X a ta) (hb : PE X b tb) (hs : PlainIx b) : PE X (.Subscript a b pos) (tOp r ta tb) := by
 intro pins s σ H Q I h
 exact Subscript_ (binT ha hb I h fun v u s2 x y H2 I2 rx ry q => hr a b pins s2 σ H2 x y v u Q I2 rx ry q (hs _ _))
inductive IIxL (K : PySem.W.Frag) (x y : V) (H : Hp) (Q : VK) : Prop
 | mk (p : Addr) (xs : List V) (i : Int) (v : V) : (x = .ref p) → (y = .int i) → (SqL K H p xs) → (atI xs i = some v) → (Q v H) → IIxL K x y H Q
noncomputable def rIxL (K : PySem.W.Frag) : R2 := fun x y H Q => IIxL K x y H Q
noncomputable def rIxT (K : PySem.W.Frag) : R2 := fun x y H Q => ∃ p xs i v,x = .ref p ∧ y = .int i ∧ SqT K H p xs ∧ atI xs i = some v ∧ Q v H
noncomputable def rIxS : R2 := fun x y H Q => ∃ z i c,x = .str z ∧ y = .int i ∧ z.length ≤ sizeLine ∧ atI z.cps.toList i = some c ∧ Q (.str ⟨#[c]⟩) H
theorem ix_list : IxR X (rIxL X.K) := by
 intro value slice pins s σ H x y v u Q I rx ry h hs
 obtain ⟨p,xs,i,z,rfl,rfl,hq,he,q⟩ := h
 cases rx
 obtain ⟨t,rfl⟩ := ry
 obtain ⟨its,r,pl,hz⟩ := I.list hq
 obtain ⟨j,h1,h2,h3,h4,h5⟩ := atI_get he
 obtain ⟨w,ew,rw'⟩ := r.get h2
 have hl := r.length
 have hn := line63
 have fin : EP X pins σ Q w s := ⟨z,H,I,rw',q⟩
 by_cases h0 : 0 ≤ i
 ·have hj : i.toNat = j := by
   rw [seqIndex_of h0 h5] at h1
   exact Option.some.inj h1
  exact item_listR pl.isList h0 (by lia) (by rw [hj]; simpa using ew) fin hs
 ·have hj : (i + (its.toArray.size : Int)).toNat = j := by
   rw [seqIndex_neg (by lia) h4] at h1
   rw [List.size_toArray,← hl]
   exact Option.some.inj h1
  exact subscriptTail_builtinR (x := w) pl.isList.typeIs slot_list_getitem.lookup
   (wpAny_getItem_list_neg (Q := fun r s' => r = w ∧ EP X pins σ Q r s') pl.isList (by lia) (by rw [List.size_toArray] <;> lia) (by lia) (by rw [hj]; simpa using ew) ⟨rfl,fin⟩) hs
theorem ix_tup : IxR X (rIxT X.K) := by
 intro value slice pins s σ H x y v u Q I rx ry h hs
 obtain ⟨p,xs,i,z,rfl,rfl,hq,he,q⟩ := h
 cases rx
 obtain ⟨t,rfl⟩ := ry
 obtain ⟨its,r,pl,hz⟩ := I.tuple hq
 obtain ⟨j,h1,h2,h3,h4,h5⟩ := atI_get he
 obtain ⟨w,ew,rw'⟩ := r.get h2
 have hl := r.length
 have hn := line63
 have fin : EP X pins σ Q w s := ⟨z,H,I,rw',q⟩
 exact subscriptTail_builtinR (x := w) pl.typeIs slot_tuple_getitem.lookup
  (getItem_tuple (j := j) (Q := fun r s' => r = w ∧ EP X pins σ Q r s') pl (by lia) (by lia) (by rw [List.size_toArray,← hl]; exact h1) (by simpa using ew) ⟨rfl,fin⟩) hs
theorem ix_str : IxR X rIxS := by
 intro value slice pins s σ H x y v u Q I rx ry h hs
 obtain ⟨z,i,c,rfl,rfl,hz,he,q⟩ := h
 obtain ⟨t,rfl⟩ := rx
 obtain ⟨t',rfl⟩ := ry
 obtain ⟨j,h1,h2,h3,h4,h5⟩ := atI_get he
 have hl : z.cps.toList.length = z.length := by simp [Str.length]
 rw [hl] at h1 h4 h5
 have hn := line63
 exact tail_any (typeIs_str s z t) slot_str_getitem.lookup (getItem_str (c := c) (by
  have e1 : decide (i < -(2 ^ 63 : Int)) = false := decide_eq_false (by lia)
  have e2 : decide (i ≥ 2 ^ 63) = false := decide_eq_false (by lia)
  rw [e1,e2,Bool.or_false]) (by rw [h1]; simpa using h2) ⟨.str ⟨#[c]⟩,H,I.tok _,⟨_,rfl⟩,q⟩) hs
theorem mapSeq_set (its : List Value) (n j : Nat) (u : Value) : Obj.mapSeq (·.setIfInBounds j u) { cls := .type "list",data := .seq its.toArray n } = { cls := .type "list",data := .seq (its.set j u).toArray n } := by
 simp [Obj.mapSeq]
theorem Inv.lst {pins : List (Addr × Obj)} {σ : St} {H : Hp} {s : Shared} {p : Addr} {xs : List V} (I : Inv X pins σ H s) (h : H p = some (.lst xs)) :
  ∃ (its : List Value) (n : Nat),Vals xs its ∧ s.heap.get? p = some { cls := .type "list",data := .seq its.toArray n } ∧ xs.length ≤ sizeLine := by
 obtain ⟨z,its,n,r,e⟩ := I.hok p _ h
 exact ⟨its,n,r,e,z⟩
theorem Inv.lstUpd {pins : List (Addr × Obj)} {σ : St} {H : Hp} {s : Shared} {p : Addr} {xs ys : List V} {its its' : List Value} {n n' : Nat} {f : Obj → Obj} (I : Inv X pins σ H s) (h : H p = some (.lst xs))
  (ho : s.heap.get? p = some { cls := .type "list",data := .seq its.toArray n }) (hf : f { cls := .type "list",data := .seq its.toArray n } = { cls := .type "list",data := .seq its'.toArray n' }) (r : Vals ys its') (hz : ys.length ≤ sizeLine) (t : Nat) :
  Inv X pins σ (upd H p (.lst ys)) { s with heap := s.heap.update p f,toks := t } := by
 have e : (s.heap.update p f).get? p = some { cls := .type "list",data := .seq its'.toArray n' } := by
  rw [Heap.get?_update_self f ho (by rw [hf] <;> rfl),hf]
 refine I.write (x := p) (e := p) (by rw [h]; trivial) (.inl rfl) (fun b u hb q => (Heap.get?_update_other _ _ (Ne.symm hb)).trans q) ⟨_,e⟩ ?_
 exact ⟨hz,its',n',r,e⟩
inductive ISetL (o i v : V) (H : Hp) (Q : Hp → Prop) : Prop
 | mk (p : Addr) (xs : List V) (k : Int) (j : Nat) : (o = .ref p) → (i = .int k) → (H p = some (.lst xs)) → (ixN xs.length k = some j) → (Q (upd H p (.lst (xs.set j v)))) → ISetL o i v H Q
noncomputable def rSetL : V → V → V → Hp → (Hp → Prop) → Prop := fun o i v H Q => ISetL o i v H Q
theorem set_list : PSet X rSetL := by
 intro pins s σ H o i v ov iv u Q I ro ri rv h
 obtain ⟨p,xs,k,j,rfl,rfl,hp,hj,q⟩ := h
 cases ro
 obtain ⟨t,rfl⟩ := ri
 obtain ⟨its,n,r,ho,hz⟩ := I.lst hp
 obtain ⟨h1,h2,h3,h4⟩ := ixN_seq hj
 have hl := r.length
 have hn := line63
 have I' : Inv X pins σ (upd H p (.lst (xs.set j v))) { s with heap := s.heap.update p (Obj.mapSeq (·.setIfInBounds j u)) } :=
  I.lstUpd hp ho (mapSeq_set its n j u) (r.set rv j) (by rw [List.length_set]; exact hz) s.toks
 by_cases h0 : 0 ≤ k
 ·have hk : k.toNat = j := by
   rw [seqIndex_of h0 h4] at h1
   exact Option.some.inj h1
  exact PySem.W.ki_setAt ho h0 (by lia) (by rw [List.size_toArray,← hl]; exact h4) (by rw [hk]; exact ⟨_,I',q⟩)
 ·have hk : (k + (its.toArray.size : Int)).toNat = j := by
   rw [seqIndex_neg (by lia) h3] at h1
   rw [List.size_toArray,← hl]
   exact Option.some.inj h1
  exact PySem.W.ki_setBack ho (by lia) (by rw [List.size_toArray,← hl]; exact h3) (by lia) (by rw [hk]; exact ⟨_,I',q⟩)
theorem call_len_seq : CallR X (.builtin "len") (fun xs H Q => ∃ p ys,xs = [.ref p] ∧ (SqL X.K H p ys ∨ SqT X.K H p ys) ∧ Q (.int ys.length) H) := by
 intro pins s σ H xs us Q I r h
 obtain ⟨p,ys,rfl,hq,q⟩ := h
 obtain ⟨u,rfl,rx⟩ := vals1 r
 cases rx
 have hn := line63
 rcases hq with hq | hq
 ·obtain ⟨its,r',pl,hz⟩ := I.list hq
  have hlen := r'.length
  exact Calls.call_len_list pl.isList (by simp only [List.size_toArray] <;> lia) ⟨.int ys.length,H,I.tok _,⟨s.toks + 1,by rw [List.size_toArray,hlen]⟩,q⟩
 ·obtain ⟨its,r',pl,hz⟩ := I.tuple hq
  have hlen := r'.length
  exact len_tuple pl (by simp only [List.size_toArray] <;> lia) ⟨.int ys.length,H,I.tok _,⟨s.toks + 1,by rw [List.size_toArray,hlen]⟩,q⟩
theorem CallR.or {f : Value} {r r' : List V → Hp → VK → Prop} (h : CallR X f r) (h' : CallR X f r') : CallR X f (fun xs H Q => r xs H Q ∨ r' xs H Q) := by
 intro pins s σ H xs us Q I rs q
 rcases q with q | q
 ·exact h pins s σ H xs us Q I rs q
 ·exact h' pins s σ H xs us Q I rs q
theorem call_list_of : CallR X (.type "list") (fun xs H Q => ∃ p ys,xs = [.ref p] ∧ (SqL X.K H p ys ∨ SqT X.K H p ys) ∧ ∀ l,H l = none → Q (.ref l) (upd H l (.lst ys))) := by
 intro pins s σ H xs us Q I r h
 obtain ⟨p,ys,rfl,hq,q⟩ := h
 obtain ⟨u,rfl,rx⟩ := vals1 r
 cases rx
 have fin : ∀ (its : List Value),Vals ys its → ys.length ≤ sizeLine → ∀ (h' : Heap) (c' : Nat),(∀ b o',s.heap.get? b = some o' → h'.get? b = some o') →
   h'.get? s.heap.objs.size = some { cls := .type "list",dict := none,data := .seq its.toArray c',slots := #[] } → EP X pins σ Q (.ref s.heap.objs.size) { s with heap := h' } := fun its r' hz h' c' kp e =>
  ⟨.ref s.heap.objs.size,_,I.laid (t' := s.toks) kp (Nat.le_refl _) (show ObjOk X.prog X.w _ h' _ (.lst ys) from ⟨hz,its,c',r',e⟩),rfl,q _ (I.hok.fresh (Nat.le_refl _))⟩
 rcases hq with hq | hq
 ·obtain ⟨its,r',pl,hz⟩ := I.list hq
  have hlen := r'.length
  obtain ⟨o,ho,hc,n,hd⟩ := pl.isList
  exact call_list_seq p (.inl rfl) ho hc hd (fun h' c' kp e => fin its r' hz h' c' kp e) (by simp only [List.size_toArray] <;> lia)
 ·obtain ⟨its,r',pl,hz⟩ := I.tuple hq
  have hlen := r'.length
  obtain ⟨o,ho,hc,n,hd⟩ := pl
  exact call_list_seq p (.inr rfl) ho hc hd (fun h' c' kp e => fin its r' hz h' c' kp e) (by simp only [List.size_toArray] <;> lia)
noncomputable def tyV (K : PySem.W.Frag) (T : String) (x : V) (H : Hp) : Prop := match x with
 | .str _ => T = "str"
 | .int _ => T = "int"
 | .ref p => (T = "list" ∧ ∃ xs,SqL K H p xs) ∨ (T = "tuple" ∧ ∃ o,K.lookup p = some o ∧ o.cls = .type "tuple" ∧ o.dict = none) ∨
   (T = "dict" ∧ ((∃ kvs,H p = some (.dK kvs)) ∨ ∃ kvs,H p = some (.dT kvs))) ∨ (T = "set" ∧ ∃ S n,H p = some (.set S n))
 | _ => False
theorem tyV_is {pins : List (Addr × Obj)} {σ : St} {H : Hp} {s : Shared} {T : String} {x : V} {v : Value} (I : Inv X pins σ H s) (r : RelV x v) (ty : tyV X.K T x H) :
  s.TypeIs v T ∧ ∀ a,v = .ref a → ∃ ob,s.heap.get? a = some ob ∧ ob.dict = none := by
 cases x with
 | str z =>
  obtain ⟨t,rfl⟩ := r
  cases (show T = "str" from ty)
  exact ⟨typeIs_str s z t,fun _ e => nomatch e⟩
 | int i =>
  obtain ⟨t,rfl⟩ := r
  cases (show T = "int" from ty)
  exact ⟨typeIs_int s i t,fun _ e => nomatch e⟩
 | ref p =>
  cases r
  rcases ty with ⟨rfl,xs,hq⟩ | ⟨rfl,o,hk,hc,hd⟩ | ⟨rfl,hk⟩ | ⟨rfl,S,n,hk⟩
  ·obtain ⟨its,_,pl,_⟩ := I.list hq
   refine ⟨pl.isList.typeIs,fun a e => ?_⟩
   cases e
   obtain ⟨o,n,e,c,hd,_⟩ := pl
   exact ⟨o,e,hd⟩
  ·refine ⟨⟨o,I.kIn p o hk,hc⟩,fun a e => ?_⟩
   cases e
   exact ⟨o,I.kIn _ o hk,hd⟩
  ·have z : ∃ o,s.heap.get? p = some o ∧ o.ExactDict := by
    rcases hk with ⟨kvs,hk⟩ | ⟨kvs,hk⟩
    ·obtain ⟨_,_,_,_,o,_,_,e,ex,_⟩ := I.hok p _ hk
     exact ⟨o,e,ex⟩
    ·obtain ⟨_,_,_,_,o,_,_,e,ex,_⟩ := I.hok p _ hk
     exact ⟨o,e,ex⟩
   obtain ⟨o,e,ex⟩ := z
   refine ⟨⟨o,e,ex.1⟩,fun a e2 => ?_⟩
   cases e2
   exact ⟨o,e,ex.2.1⟩
  ·obtain ⟨o,_,_,_,e,ex,_⟩ := I.hok p _ hk
   refine ⟨⟨o,e,ex.1⟩,fun a e2 => ?_⟩
   cases e2
   exact ⟨o,e,ex.2.1⟩
 | _ => exact False.elim ty
noncomputable def tBM (K : PySem.W.Frag) (T : String) (r : V → List V → Hp → VK → Prop) (to : TE) (t : TA) : TE := fun σ H Q => to σ H fun x H1 => tyV K T x H1 ∧ t σ H1 fun xs H2 => r x xs H2 Q
variable {o e : Expr} {es : List Expr} {to : TE} {t : TA} {name : Str} {apos cpos : Pos} {T id : String} {r : V → List V → Hp → VK → Prop}
theorem pe_bm (pa : PlainAttrs T) (slot : Slot T name id) (hty : typeOf (.builtin id) = pure (.type "method_descriptor")) (hm : MtR X id r) (ho : PE X o to) (ha : PA X (e :: es) t)
  (hbase : attributeBase o name X.env (eval o X.env) = eval o X.env := by rfl)
  (hfew : ((backTo cpos (starEach (e :: es) X.env)).all (fun x => !x.1) && (backToKw cpos (keywordEach [] X.env)).all (fun x => x.1.isSome)
   && decide ((e :: es).length + ([] : List Keyword).length + (if ([] : List Keyword).isEmpty then 0 else 1) < 30)) = true := by rfl)
  (hline : (apos.endLine == cpos.line) = true := by rfl) (hs : starEach (e :: es) X.env = (false,eval e X.env) :: starEach es X.env := by rfl) (hplain : (backTo cpos (starEach es X.env)).any (·.1) = false := by rfl) :
  PE X (.Call (.Attribute o name apos) (e :: es) [] cpos) (tBM X.K T r to t) := by
 intro pins s σ H Q I h
 refine wpAny_Call_method_late hbase hfew hline rfl (thn (ho pins s σ H _ I h) fun v s1 ⟨x,H1,I1,r1,ty,q1⟩ => ?_)
 obtain ⟨h1,h2⟩ := tyV_is I1 r1 ty
 refine ⟨T,id,pa,slot,hty,h1,h2,?_⟩
 have hA := ha cpos pins s1 σ H1 _ I1 q1
 rw [hs] at hA ⊢
 refine Calls.callWith_builtin (by show (false || (backTo cpos (starEach es X.env)).any (·.1)) = false; rw [hplain] <;> rfl) (Calls.evalArgs_plain ?_)
 exact thn hA fun us s2 ⟨vs,H2,I2,r2,q2⟩ => hm pins s2 σ H2 x vs v us Q I2 r1 r2 q2
end
end L2
namespace L2
open PySem PySem.Spec PyProof.Rows
noncomputable def MtM (X : Cx) (id : String) (r : V → List V → Hp → VK → Prop) : Prop :=
 ∀ (pins : List (Addr × Obj)) (s : Shared) (σ : St) (H : Hp) (x : V) (xs : List V) (v : Value) (us : List Value) (Q : VK),Inv X pins σ H s → RelV x v → Vals xs us → r x xs H Q →
  wpAny (model X.prog X.w) X.A (call (.builtin id) (v :: us)) (EP X pins σ Q) X.xe s
theorem Vals.one : ∀ {x : V} {us : List Value},Vals [x] us → ∃ u,us = [u] ∧ RelV x u := by
 intro x us h
 cases h with
 | cons r t =>
  cases t
  exact ⟨_,rfl,r⟩
section
variable {X : Cx} {pins : List (Addr × Obj)} {σ : St} {H : Hp} {s : Shared} {l b : Addr} {xs ys zs : List V}
theorem Inv.lset {its its' : List Value} {n : Nat} {f : Array Value → Array Value} {t' : Nat} (I : Inv X pins σ H s) (hH : H l = some (.lst xs))
  (e : s.heap.get? l = some { cls := .type "list",data := .seq its.toArray n }) (hf : f its.toArray = its'.toArray) (hv : Vals ys its') (hz : ys.length ≤ sizeLine) :
  Inv X pins σ (upd H l (.lst ys)) { s with heap := s.heap.update l (Obj.mapSeq f),toks := t' } := by
 have q := PySem.IsL.update e f
 rw [hf] at q
 refine I.write (x := l) (e := l) (by rw [hH]; exact trivial) (.inl rfl) (fun b' u hb hu => (Heap.get?_update_other s.heap (Obj.mapSeq f) (Ne.symm hb)).trans hu) ⟨_,q⟩ ?_
 exact ⟨hz,its',_,hv,q⟩
theorem Inv.lnew {its : List Value} {t' : Nat} (I : Inv X pins σ H s) (hv : Vals ys its) (hz : ys.length ≤ sizeLine) :
  Inv X pins σ (upd H s.heap.objs.size (.lst ys)) { s with heap := s.heap.push { cls := .type "list",data := .seq its.toArray },toks := t' } :=
 I.laid (fun _ _ q => Heap.get?_push_of_some _ q) (Nat.le_refl _) ⟨hz,its,0,hv,Heap.get?_push_size _ rfl⟩
theorem Inv.fresh (I : Inv X pins σ H s) : H s.heap.objs.size = none := I.hok.fresh (Nat.le_refl _)
theorem Inv.lstM (I : Inv X pins σ H s) (hH : H l = some (.lst xs)) : xs.length ≤ sizeLine ∧ ∃ (its : List Value) (n : Nat),Vals xs its ∧ xs.length = its.length ∧ s.heap.get? l = some { cls := .type "list",data := .seq its.toArray n } := by
 obtain ⟨z,its,n,r,e⟩ := I.hok l _ hH
 exact ⟨z,its,n,r,r.length,e⟩
end
section
variable {X : Cx}
inductive IApp (x : V) (vs : List V) (H : Hp) (Q : VK) : Prop
 | mk (l : Addr) (xs : List V) (y : V) : (x = .ref l) → (vs = [y]) → (H l = some (.lst xs)) → (xs.length < sizeLine) → (Q .non (upd H l (.lst (xs ++ [y])))) → IApp x vs H Q
noncomputable def rAppend : V → List V → Hp → VK → Prop := fun x vs H Q => IApp x vs H Q
theorem mt_append : MtM X "list.append" rAppend := by
 intro pins s σ H x vs v us Q I rx rv h
 obtain ⟨l,xs,y,rfl,rfl,hH,hz,q⟩ := h
 cases rx
 obtain ⟨u,rfl,ru⟩ := rv.one
 obtain ⟨z,its,n,r,hl,e⟩ := I.lstM hH
 refine call_meets F.slot_list_append ⟨_,e,rfl⟩ F.entry_list_append (F.args_list_append_2 _ _) (PySem.list_append l its.toArray n u (by rw [List.size_toArray]; lia)) ⟨e,?_⟩
 refine ⟨.non,_,I.lset (its' := its ++ [u]) hH e (by simp) (r.append (.cons ru .nil)) ?_,rfl,q⟩
 rw [List.length_append,List.length_singleton]
 lia
end
section
variable {prog : Program} {w : World} {A : Around} {E : Value → Shared → Prop} {s : Shared}
end
section
variable {X : Cx}
end
end L2
namespace Att
open PySem PySem.W PySem.Calls PyProof.Rows
theorem ints_of_wellAll {P : Params} {h : Heap} : ∀ (ns : List Int) (vs : List Value),WellAll P h vs (ns.map WData.int) → IntsAre vs ns := by
 intro ns
 induction ns with
 | nil =>
  intro vs w
  rw [List.map_nil] at w
  cases w
  exact .nil
 | cons n ns ih =>
  intro vs w
  rw [List.map_cons] at w
  cases w with
  | cons a b =>
   cases a
   exact .cons _ _ (ih _ b)
theorem script_of {l : OpenLaw} {n : Nat} (hn : l.most = some n) {P : Params} {h : Heap} {args : List WData} {vals : List Value}
  (hpre : l.row.toRowW.claim.pre args = true) (hwl : WellAll P h vals args) :
  ∃ a vs ns,vals = [Value.ref a] ∧ args = [WData.list (ns.map WData.int)] ∧ h.get? a = some { cls := .type "list",data := .seq vs.toArray } ∧ IntsAre vs ns ∧ ns.length ≤ n := by
 have hsh : WShape.hasAll [] args [.list .int] = true := (pre_splitW hpre).1
 have hc : l.pre.holds [] { args := args } = true := (pre_splitW hpre).2
 obtain ⟨d,r,rfl,h1,h2⟩ := hasAllW_cons hsh
 obtain rfl := hasAllW_nil h2
 obtain ⟨xs,rfl,h3⟩ := hasW_list h1
 obtain ⟨ns,rfl⟩ := items_int h3
 have hlen : ns.length ≤ n := by
  unfold OpenLaw.pre at hc
  have h4 : (WTm.not (.lt (.lit (.int (n : Int))) (.len (.arg 0)))).holds [] { args := [.list (ns.map .int)] } = true := by
   have h4 := (holds_andW hc).1
   rw [hn] at h4
   exact h4
  have h5 := condW_of h4 (w_not (w_lt w_lit (w_len_list (w_arg rfl))))
  rw [List.length_map] at h5
  refine Nat.le_of_not_lt fun q => ?_
  have q' : (n : Int) < ((ns.length : Nat) : Int) := by lia
  first
   | (rw [decide_eq_true q'] at h5; exact absurd h5 (by decide))
   | (simp at h5; lia)
 cases hwl with
 | cons w1 w2 =>
  cases w2
  cases w1 with
  | list ho hall => exact ⟨_,_,ns,rfl,rfl,ho,ints_of_wellAll ns _ hall,hlen⟩
theorem post_true (l : OpenLaw) (args : List WData) : l.row.toRowW.claim.post args (.bool true) args = true :=
 postW_of (r := l.row.toRowW) (X := (true == true))
  (show WShape.has [] (.bool true) .bool = true by first | rfl | decide | simp [WShape.has,WShape.arms,WShape.armsAll])
  (show (WTm.eq .res (.lit (.bool true))).value [] { args := args,res := some (.bool true),after := args } = some (.bool (true == true)) from w_eq_bool (w_res rfl) w_lit) rfl
theorem attach_call {l : OpenLaw} {n : Nat} {q : Program} {loose : List Str} {XP : (Str → Option Value) → Heap → Prop} {YP : World → Heap → Prop} {d : DefRec}
  (hn : l.most = some n) (hdf : d.params.defaults = [])
  (call : ∀ (w : World) (s₀ s₁ : Shared) (mg mb : Str → Option Value) (fa : Addr) (o : Obj) (pm cd doc : Value) (a : Addr) (vs : List Value) (ns : List Int),
   Ground q loose [] XP w s₀ mg mb s₁.heap → YP w s₁.heap →
   s₁.heap.get? fa = some o → o.data = .func (docDef d.name d.params d.body d.scope pm cd doc) → s₁.heap.CodeRec cd d.name → mg d.name = some (.ref fa) →
   s₁.heap.get? a = some { cls := .type "list",data := .seq vs.toArray } → IntsAre vs ns → ns.length ≤ n → s₁.gens = #[] →
   codeAny (model l.prog w) callerA (.call (.ref fa) ⟨[.ref a],[]⟩) (fun r s' => r = .ok (.ret (.bool true)) ∧ OldK s₁.heap s'.heap ∧ s'.os = s₁.os ∧ AllBare s'.gens) s₁) :
  WalkO q loose XP YP l.row.toRowW d [] (fun f vs => PySem.call f vs) := by
 intro w s₀ s₁ mg mb G Y fa o pm cd doc dV kV ho hd hcd hD hmg hg args vals as hpre hlay hrd hwl hlo
 obtain rfl : dV = .none := Dflts.none hD hdf
 obtain rfl : kV = .none := Dflts.noKw hD
 obtain ⟨a,vs,ns,rfl,rfl,hobj,hints,hlen⟩ := script_of hn hpre hwl
 refine enter_call (codeAny_mono (call w s₀ s₁ mg mb fa o pm cd doc a vs ns G Y ho (fd_plain hd) hcd hmg hobj hints hlen hg) fun r s' hq => ?_)
 obtain ⟨rfl,h2,h3,h4⟩ := hq
 exact ⟨.inl ⟨.bool true,.bool true,[],rfl,fun _ => rfl,.bool true,post_true l _,fun _ => ⟨List.Pairwise.nil,fun _ hm => (nomatch hm)⟩⟩,h2,h3,h4⟩
section
variable {prog : Program} {w : World} {A : Around} {E : Value → Shared → Prop} {s : Shared} {K : Frag}
end
end Att
namespace L2
open PySem PySem.Spec PyProof.Rows
theorem vals_ints : ∀ {vs : List Value} {ns : List Int},IntsAre vs ns → Vals (ns.map V.int) vs
 | _,_,.nil => .nil
 | _,_,.cons n t h => .cons ⟨t,rfl⟩ (vals_ints h)
noncomputable def Only (H : Hp) : Prop := ∀ b,H b = none ∨ ∃ o xs,H b = some (.frz o (.lst xs))
theorem law_call {P : Program} {w : World} {K : PySem.W.Frag} {mg mb : Str → Option Value} {CX : CXT} {k : Nat} {fa a : Addr} {fd : FuncData} {x : Str} {sp : Sp} {s₁ : Shared} {vs : List Value} {ns : List Int}
  (KX : K.In s₁.heap) (hns : s₁.heap.Ns mainGlobals mg) (hb : s₁.heap.Ns builtinsNs mb) (hbb : ∀ x : Str,x ≠ "__name__" → mb x = bootBuiltins x) (hlim : s₁.heap.NoLimit) (hg : s₁.gens = #[])
  (ha : s₁.heap.get? a = some { cls := .type "list",data := .seq vs.toArray }) (hi : IntsAre vs ns) (hl : ns.length ≤ sizeLine) (hr : Room k callerA)
  (F : ∀ base : Heap,K.In base → base.Ns mainGlobals mg → FnOk P w K mg base CX k fa fd [x] sp) (hbind : ∀ (s : Shared) (u : Value),BindsTo s fd ⟨[u],[]⟩ [(x,u)])
  (hsp : ∀ H : Hp,Only H → SqL K H a (ns.map V.int) → sp [.ref a] H (fun v _ => v = .bl true) fun _ _ _ => False)
  (hCX : ∀ H e s',CX [] H s₁ (fun _ _ _ => False) e s' → False) :
  codeAny (model P w) callerA (.call (.ref fa) ⟨[.ref a],[]⟩) (fun r s' => r = .ok (.ret (.bool true)) ∧ OldK s₁.heap s'.heap ∧ s'.os = s₁.os ∧ AllBare s'.gens) s₁ := by
 have rv := vals_ints hi
 have lenV := hi.length
 have core : ∀ H : Hp,Only H → SqL K H a (ns.map V.int) → HOk P w H s₁.heap → (∀ b,H b ≠ none → b = a) → (H a ≠ none → K.lookup a = none) →
   codeAny (model P w) callerA (.call (.ref fa) ⟨[.ref a],[]⟩) (fun r s' => r = .ok (.ret (.bool true)) ∧ OldK s₁.heap s'.heap ∧ s'.os = s₁.os ∧ AllBare s'.gens) s₁ := by
  intro H hO hS hok hA hK
  have base_of : ∀ {b : Addr} {o : Obj},s₁.heap.get? b = some o → H b = none → (hidT s₁.heap H).get? b = some o := fun e n => hidT_get e n
  have noA : ∀ {b : Addr} {o : Obj} {es : Array DictEntry} {ep : Nat},s₁.heap.get? b = some o → o.data = .dict es ep → H b = none := fun {b o es ep} e d => by
   cases q : H b with
   | none => rfl
   | some u =>
    have e' : b = a := hA b (by rw [q]; simp)
    subst e'
    rw [ha] at e; cases e
    have d' : Data.seq vs.toArray _ = Data.dict es ep := d
    cases d'
  have nsK : ∀ {b : Addr} {m : Str → Option Value},s₁.heap.Ns b m → (hidT s₁.heap H).Ns b m := fun {b m} ⟨o,es,ep,e,d,r⟩ => ⟨o,es,ep,base_of e (noA e d),d,r⟩
  have hKb : K.In (hidT s₁.heap H) := fun b o e => base_of (KX b o e) (by
   cases q : H b with
   | none => rfl
   | some u =>
    have e' : b = a := hA b (by rw [q]; simp)
    subst e'
    rw [hK (by rw [q]; simp)] at e; cases e)
  have hM : Mod K mg (hidT s₁.heap H) := ⟨hKb,nsK hns,⟨mb,nsK hb,hbb⟩,let ⟨mc,h1,h2⟩ := hlim; ⟨mc,nsK h1,h2⟩⟩
  have e0 : Env0 P w K mg (hidT s₁.heap H) callerA [] s₁ H := ⟨rfl,hM,fun b o e => of_hidT e,Nat.le_of_eq (hidT_size _ _),trivial,fun b hb => absurd (show b ∈ ([] : List Addr) from hb) (by simp),hok,.of_eq hg⟩
  refine codeAny_mono ((F _ hKb (nsK hns)).run callerA [] s₁ H ⟨[.ref a],[]⟩ [.ref a] [.ref a] _ _ hr e0 (hbind s₁ (.ref a)) (.cons rfl .nil) (hsp H hO hS)) fun r s' h => ?_
  cases r with
  | error e => exact (hCX H e s' h).elim
  | ok fl =>
   cases fl with
   | next => exact False.elim h
   | brk => exact False.elim h
   | cont => exact False.elim h
   | ret u =>
    obtain ⟨v,H',os,bare,un,hok',r',q⟩ := h
    have q' : v = .bl true := q
    subst q'
    obtain rfl : u = Value.bool true := r'
    refine ⟨rfl,OldK.of_keep fun b o e => ?_,os,bare⟩
    cases q : H b with
    | none => exact un.keep b o e q (by intro z; exact absurd (show b ∈ ([] : List Addr) from z) (by simp)) (by simp)
    | some u =>
     rcases hO b with z | ⟨ob,xs,z⟩
     ·rw [q] at z; cases z
     ·have z2 := un.frzs b ob _ z
      obtain ⟨e1,_⟩ := hok b _ z
      obtain ⟨e2,_⟩ := hok' b _ z2
      rw [e] at e1; cases e1
      exact e2
 cases hk : K.lookup a with
 | some o =>
  have e := KX a o hk
  rw [ha] at e
  cases e
  refine core (fun _ => none) (fun _ => .inl rfl) (.inr ⟨_,vs.toArray,_,hk,rfl,rfl,rfl,by rw [List.size_toArray,lenV]; exact hl,by simpa using rv⟩) (fun b u z => by have z' : (none : Option HO) = some u := z; cases z') (fun b z => absurd rfl z) fun z => absurd rfl z
 | none =>
  refine core (fun b => if b = a then some (.frz { cls := .type "list",data := .seq vs.toArray } (.lst (ns.map V.int))) else none) (fun b => ?_) (.inl (.inr ⟨{ cls := .type "list",data := .seq vs.toArray },if_pos rfl⟩)) (fun b u z => ?_) (fun b z => ?_) fun _ => hk
  ·by_cases hb : b = a
   ·exact .inr ⟨_,_,if_pos hb⟩
   ·exact .inl (if_neg hb)
  ·by_cases hb : b = a
   ·have z' := (if_pos hb).symm.trans z
    cases z'
    subst hb
    exact ⟨ha,by rw [List.length_map]; exact hl,vs,_,rv,ha⟩
   ·have z' := (if_neg hb).symm.trans z
    cases z'
  ·by_cases hb : b = a
   ·exact hb
   ·exact absurd (if_neg hb) z
end L2
namespace L2
open PySem PySem.Spec PyProof.Rows
noncomputable abbrev KOf {K : PySem.W.Frag} {h : Heap} (_ : K.In h) : PySem.W.Frag := K
theorem walk_of {l : PySem.W.OpenLaw} {n k : Nat} {q : Program} {loose : List Str} {XP : (Str → Option Value) → Heap → Prop} {YP : World → Heap → Prop} {d : DefRec} {K : Params → PySem.W.Frag} {CX : World → CXT} {sp : World → Sp} {x : Str}
  (hn : l.most = some n) (hn2 : n ≤ sizeLine) (hdf : d.params.defaults = []) (hr : Room k callerA)
  (hY : ∀ (w : World) (h : Heap),YP w h → (K w.params).In h)
  (F : ∀ (w : World) (mg : Str → Option Value) (fa : Addr) (h : Heap),(K w.params).In h → h.Ns mainGlobals mg → mg d.name = some (.ref fa) →
   ∃ fd : FuncData,(∀ (s : Shared) (u : Value),BindsTo s fd ⟨[u],[]⟩ [(x,u)]) ∧
    ∀ base : Heap,(K w.params).In base → base.Ns mainGlobals mg → FnOk l.prog w (K w.params) mg base (CX w) k fa fd [x] (sp w))
  (hsp : ∀ (w : World) (H : Hp) (a : Addr) (ns : List Int),ns.length ≤ n → Only H → SqL (K w.params) H a (ns.map V.int) → sp w [.ref a] H (fun v _ => v = .bl true) fun _ _ _ => False)
  (hCX : ∀ (w : World) (H : Hp) (s : Shared) (e : Value) (s' : Shared),CX w [] H s (fun _ _ _ => False) e s' → False) :
  PySem.W.WalkO q loose XP YP l.row.toRowW d [] (fun f vs => PySem.call f vs) := by
 refine Att.attach_call hn hdf fun w s₀ s₁ mg mb fa o pm cd doc a vs ns G Y ho hd hcd hmg hobj hints hlen hg => ?_
 have KX := hY w _ Y
 obtain ⟨fd,hb,hF⟩ := F w mg fa _ KX G.T.g hmg
 exact law_call KX G.T.g G.T.b G.T.builtins G.T.nolimit hg hobj hints (Nat.le_trans hlen hn2) hr hF hb (fun H hO hS => hsp w H a ns hlen hO hS) fun H e s' => hCX w H s₁ e s'
theorem walk_ofK {l : PySem.W.OpenLaw} {n k : Nat} {q : Program} {loose : List Str} {XP : (Str → Option Value) → Heap → Prop} {YP : World → Heap → Prop} {d : DefRec} {K : Params → PySem.W.Frag} {CX : CXT} {sp : PySem.W.Frag → Sp} {x : Str}
  (hn : l.most = some n) (hn2 : n ≤ sizeLine) (hdf : d.params.defaults = []) (hr : Room k callerA)
  (hY : ∀ (w : World) (h : Heap),YP w h → (K w.params).In h)
  (F : ∀ (w : World) (mg : Str → Option Value) (fa : Addr) (h : Heap),(K w.params).In h → h.Ns mainGlobals mg → mg d.name = some (.ref fa) →
   ∃ fd : FuncData,(∀ (s : Shared) (u : Value),BindsTo s fd ⟨[u],[]⟩ [(x,u)]) ∧
    ∀ base : Heap,(K w.params).In base → base.Ns mainGlobals mg → FnOk l.prog w (K w.params) mg base CX k fa fd [x] (sp (K w.params)))
  (hsp : ∀ (K : PySem.W.Frag) (H : Hp) (a : Addr) (ns : List Int),ns.length ≤ n → Only H → SqL K H a (ns.map V.int) → sp K [.ref a] H (fun v _ => v = .bl true) fun _ _ _ => False)
  (hCX : ∀ (H : Hp) (s : Shared) (e : Value) (s' : Shared),CX [] H s (fun _ _ _ => False) e s' → False) :
  PySem.W.WalkO q loose XP YP l.row.toRowW d [] (fun f vs => PySem.call f vs) :=
 walk_of (K := K) (CX := fun _ => CX) (sp := fun w => sp (K w.params)) hn hn2 hdf hr hY F (fun w H a ns h1 h2 h3 => hsp (K w.params) H a ns h1 h2 h3) fun _ H s e s' => hCX H s e s'
end L2
namespace L2
open PySem PySem.Spec PyProof.Rows
noncomputable def defArgs (s : Stmt) : Arguments := match s with
 | .FunctionDef _ a _ _ _ _ _ _ _ _ => a
 | _ => { posonlyargs := [],args := [],vararg := none,kwonlyargs := [],kw_defaults := [],kwarg := none,defaults := [] }
noncomputable def defBody (s : Stmt) : List Stmt := match s with
 | .FunctionDef _ _ b _ _ _ _ _ _ _ => b
 | _ => []
noncomputable def defScope (s : Stmt) : Scope := match s with
 | .FunctionDef _ _ _ _ _ _ sc _ _ _ => sc
 | _ => { kind := .function,names := [],isGenerator := false,isCoroutine := false }
noncomputable abbrev CX0 : CXT := fun _ _ _ _ _ _ => False
noncomputable abbrev E0 : XK := fun _ _ _ => False
theorem pass0 {X : Cx} : Passes CX0 X E0 := fun _ _ _ _ _ _ _ h => h.elim
structure Fun (K : PySem.W.Frag) (x qual : Str) (st : Stmt) (f : Addr) (fd : FuncData) : Prop where
 ex : ∃ (oc : Value) (od : Option Addr) (kV doc pm : Value) (an : Option Addr) (cdv ct : Value) (osl : Array (Option Value)),
  fd = PySem.W.fnOf x qual (defArgs st) (defBody st) (defScope st) .none kV doc pm an cdv ct ∧ K.lookup f = some ⟨oc,od,.func fd,osl⟩ ∧ PySem.W.codeIn K cdv qual = true
 kp : PySem.W.keepIn K (.ref f) = true
section
variable {P : Program} {w : World} {K : PySem.W.Frag} {mg : Str → Option Value} {base : Heap}
theorem Fun.ok {x qual : Str} {st : Stmt} {f : Addr} {fd : FuncData} {N ps : List Str} {k : Nat} {sp : Sp} (F : Fun K x qual st f fd) (S : FnScope N ps (defScope st)) (len : ∀ vs H Q E,sp vs H Q E → vs.length = ps.length)
  (hbody : ∀ (cdv : Value) (A : Around) (outer : List Env) (s : Shared) (H : Hp) (vs : List V) (Q : VK) (E : XK),Room k (A.deeper (envOfC qual (defScope st) s.heap.objs.size f cdv)) → sp vs H Q E →
   ∃ t,PSs (cxOf CX0 P w K mg base N qual (defScope st) f cdv A outer s H E).nox (defBody st) t ∧ t { nx := fun _ H' => Q .non H',rt := Q } (start N vs) H) : FnOk P w K mg base CX0 (k + 1) f fd ps sp := by
 obtain ⟨oc,od,kV,doc,pm,an,cdv,ct,osl,rfl,lk,hcd⟩ := F.ex
 refine fn_of lk hcd S len fun A outer s H vs Q E hr hsp => ?_
 obtain ⟨t,h,q⟩ := hbody cdv A outer s H vs Q E hr hsp
 exact ⟨t,h.nox,q⟩
theorem Fun.binds {x qual : Str} {st : Stmt} {f : Addr} {fd : FuncData} {ps : List Str} (F : Fun K x qual st f fd)
  (h : ∀ (kV doc pm : Value) (an : Option Addr) (cdv ct : Value) (us : List Value),us.length = ps.length → bindArgs (PySem.W.fnOf x qual (defArgs st) (defBody st) (defScope st) .none kV doc pm an cdv ct) ⟨us,[]⟩ = pure (ps.zip us)) : Binds K fd ps [] := by
 obtain ⟨oc,od,kV,doc,pm,an,cdv,ct,osl,rfl,lk,hcd⟩ := F.ex
 exact .all (h kV doc pm an cdv ct)
theorem fun_mk {x qual : Str} {st : Stmt} {f : Addr} {oc : Value} {od an : Option Addr} {osl : Array (Option Value)} {kV doc pm cdv ct : Value} (l : K.lookup f = some ⟨oc,od,.func (PySem.W.fnOf x qual (defArgs st) (defBody st) (defScope st) .none kV doc pm an cdv ct),osl⟩)
  (c : PySem.W.codeIn K cdv qual = true) (k : PySem.W.keepIn K (.ref f) = true) : Fun K x qual st f (PySem.W.fnOf x qual (defArgs st) (defBody st) (defScope st) .none kV doc pm an cdv ct) := ⟨⟨oc,od,kV,doc,pm,an,cdv,ct,osl,rfl,l,c⟩,k⟩
end
theorem small1000 {n : Nat} (h : n ≤ 1000) : n < sizeLine := Nat.lt_of_le_of_lt h (by decide)
section
variable {X : Cx}
theorem pv (i : Nat) {x : Str} {pos : Pos} (hN : X.N[i]? = some x := by rfl) (hv : Vis X.env.scope x := by first | exact Or.inl rfl | exact Or.inr (Or.inl rfl) | exact Or.inr (Or.inr rfl)) (hd : (x == ("__debug__" : Str)) = false := by decide)
  (hcd : (x == ("__classdict__" : Str)) = false := by decide) : PE X (.Name x pos) (tVar i) := pe_var hN hv hd hcd
end
theorem iteF {A B : Prop} (h : B) : if false = true then A else B := by
 rw [if_neg Bool.false_ne_true]
 exact h
theorem iteT {A B : Prop} (h : A) : if true = true then A else B := by
 rw [if_pos rfl]
 exact h
theorem ite2 {c A B : Prop} [Decidable c] (h1 : c → A) (h2 : ¬ c → B) : if c then A else B := by
 by_cases h : c
 ·rw [if_pos h]
  exact h1 h
 ·rw [if_neg h]
  exact h2 h
noncomputable def Same (H H' : Hp) : Prop := ∀ b o,H b = some o → H' b = some o
theorem Same.refl (H : Hp) : Same H H := fun _ _ h => h
theorem Same.trans {H H1 H2 : Hp} (a : Same H H1) (b : Same H1 H2) : Same H H2 := fun c o h => b c o (a c o h)
theorem Same.free {H H' : Hp} (e : Same H H') {l : Addr} (h : H' l = Option.none) : H l = Option.none := by
 cases q : H l with
 | none => rfl
 | some o =>
  rw [e l o q] at h
  cases h
theorem Same.seq {K : PySem.W.Frag} {H H' : Hp} {a : Addr} {xs : List V} (e : Same H H') (h : SqL K H a xs) : SqL K H' a xs := by
 rcases h with (h | ⟨o,h⟩) | h
 ·exact .inl (.inl (e _ _ h))
 ·exact .inl (.inr ⟨o,e _ _ h⟩)
 ·exact .inr h
end L2
set_option Elab.async false
set_option linter.all false
set_option maxRecDepth 100000
set_option maxHeartbeats 4000000
namespace L2
open PySem PySem.Spec PyProof.Rows
noncomputable def cloOf (env : Env) : List (Str × NameKind) → List (Str × Addr) → List (Str × Addr)
 | [],cs => cs
 | (n,k) :: r,cs => cloOf env r (if k == .free then (n,(env.cells.lookup n).getD 0) :: cs else cs)
theorem closure_is {env : Env} {scope : Scope} (h : ∀ x ∈ scope.names,x.2 = .free → ∃ c,env.cells.lookup x.1 = some c) : closureFor scope env = pure (cloOf env scope.names []) := by
 simp only [closureFor]
 have go : ∀ (l : List (Str × NameKind)) (cs : List (Str × Addr)),(∀ x ∈ l,x.2 = .free → ∃ c,env.cells.lookup x.1 = some c) →
   (forIn l cs fun (x : Str × NameKind) (r : List (Str × Addr)) => (do
    let (name,kind) := x
    if kind == .free then
     let a ← cellOf env name
     pure (ForInStep.yield ((name,a) :: r))
    else pure (ForInStep.yield r) : Sem (ForInStep (List (Str × Addr))))) = pure (cloOf env l cs) := by
  intro l
  induction l with
  | nil => intro cs _; rfl
  | cons x r ih =>
   intro cs hx
   obtain ⟨n,k⟩ := x
   rw [List.forIn_cons]
   by_cases hk : k = .free
   ·obtain ⟨c,hc⟩ := hx (n,k) List.mem_cons_self hk
    subst hk
    have e : cellOf env n = pure c := by unfold cellOf; rw [hc]
    simp only [beq_self_eq_true,if_true,e,pure_bind]
    rw [ih _ fun y hy => hx y (List.mem_cons_of_mem _ hy)]
    simp only [cloOf,beq_self_eq_true,if_true,hc,Option.getD_some]
   ·have hb : (k == NameKind.free) = false := by simpa using hk
    simp only [hb,Bool.false_eq_true,if_false,pure_bind]
    rw [ih _ fun y hy => hx y (List.mem_cons_of_mem _ hy)]
    simp only [cloOf,hb,Bool.false_eq_true,if_false]
 have g := go scope.names [] h
 first
  | exact (by rw [g] : _ = _)
  | (rw [← bind_pure (pure (cloOf env scope.names []))]; rw [← g]; rfl)
  | (simp only [g,pure_bind])
theorem cloOf_sub {env : Env} : ∀ (l : List (Str × NameKind)) (cs : List (Str × Addr)),(∀ x ∈ l,x.2 = .free → ∃ c,env.cells.lookup x.1 = some c) → (∀ x c,cs.lookup x = some c → env.cells.lookup x = some c) →
  ∀ x c,(cloOf env l cs).lookup x = some c → env.cells.lookup x = some c
 | [],_,_,h => h
 | (n,k) :: r,cs,hx,h => by
  refine cloOf_sub r _ (fun y hy => hx y (List.mem_cons_of_mem _ hy)) ?_
  intro x c e
  by_cases hk : k = .free
  ·obtain ⟨c',hc⟩ := hx (n,k) List.mem_cons_self hk
   subst hk
   simp only [beq_self_eq_true,if_true,hc,Option.getD_some] at e
   rw [List.lookup_cons] at e
   cases q : x == n with
   | true =>
    rw [q] at e
    have q' : x = n := by simpa using q
    cases e
    rw [q']; exact hc
   | false => rw [q] at e; exact h x c e
  ·have hb : (k == NameKind.free) = false := by simpa using hk
   simp only [hb,Bool.false_eq_true,if_false] at e
   exact h x c e
theorem cloOf_keeps {env : Env} : ∀ (l : List (Str × NameKind)) (cs : List (Str × Addr)) (x : Str),(∃ c,cs.lookup x = some c) → ∃ c,(cloOf env l cs).lookup x = some c
 | [],_,_,h => h
 | (n,k) :: r,cs,x,h => by
  refine cloOf_keeps r _ x ?_
  split
  ·rw [List.lookup_cons]
   cases q : x == n with
   | true => exact ⟨_,rfl⟩
   | false => exact h
  ·exact h
theorem cloOf_has {env : Env} : ∀ (l : List (Str × NameKind)) (cs : List (Str × Addr)) (x : Str),l.lookup x = some .free → ∃ c,(cloOf env l cs).lookup x = some c
 | [],_,_,h => by simp at h
 | (n,k) :: r,cs,x,h => by
  rw [List.lookup_cons] at h
  cases q : x == n with
  | true =>
   rw [q] at h
   cases h
   refine cloOf_keeps r _ x ?_
   simp only [beq_self_eq_true,if_true]
   rw [List.lookup_cons,q]
   exact ⟨_,rfl⟩
  | false => rw [q] at h; exact cloOf_has r _ x h
theorem relabel_look {env : Env} : ∀ {names : List (Str × NameKind)} {x : Str} {k' : NameKind},
  (names.map fun (n,k) => if (k == NameKind.free && env.scope.kind == .function && env.kindOf n == some .cell) then (n,NameKind.cell) else (n,k)).lookup x = some k' →
  ∃ k,names.lookup x = some k ∧ (k' = k ∨ (k = .free ∧ k' = .cell))
 | [],_,_,h => by simp at h
 | (n,k) :: r,x,k',h => by
  have ih := @relabel_look env r x k'
  rw [List.map_cons] at h
  by_cases hc : (k == NameKind.free && env.scope.kind == .function && env.kindOf n == some .cell) = true
  ·have h2 : List.lookup x ((n,NameKind.cell) :: r.map fun (n,k) => if (k == NameKind.free && env.scope.kind == .function && env.kindOf n == some .cell) then (n,NameKind.cell) else (n,k)) = some k' := by
    simpa [hc] using h
   rw [List.lookup_cons] at h2
   rw [List.lookup_cons]
   cases q : x == n with
   | true =>
    rw [q] at h2
    cases h2
    have hk : k = .free := by
     simp only [Bool.and_eq_true] at hc
     simpa using hc.1.1
    exact ⟨k,rfl,.inr ⟨hk,rfl⟩⟩
   | false => rw [q] at h2; exact ih h2
  ·have h2 : List.lookup x ((n,k) :: r.map fun (n,k) => if (k == NameKind.free && env.scope.kind == .function && env.kindOf n == some .cell) then (n,NameKind.cell) else (n,k)) = some k' := by
    simpa [hc] using h
   rw [List.lookup_cons] at h2
   rw [List.lookup_cons]
   cases q : x == n with
   | true => rw [q] at h2; cases h2; exact ⟨_,rfl,.inl rfl⟩
   | false => rw [q] at h2; exact ih h2
noncomputable def ccx (X : Cx) (scope : Scope) (C : Addr) (N' : List Str) (s₀ : Shared) (H₀ : Hp) (fp : List Addr) : Cx :=
 { X with N := N',s₀ := s₀,H₀ := H₀,env := compEnvC scope (cloOf X.env scope.names []) C X.env,outer := X.stack,stack := X.stack,ex := fp,fn := fun _ => false,pn := [],xe := fun _ _ => False }
noncomputable def cst (k : Nat) (ρ : List Nat) (σ : St) : St := List.replicate k none ++ ρ.map fun j => (σ[j]?).join
structure CScope (X : Cx) (scope : Scope) (NL : List Str) (ρ : List Nat) (N' : List Str) : Prop where
 kind : scope.kind = .function
 nocell : ∀ x ∈ scope.names,x.2 ≠ .cell
 locs : ∀ x ∈ scope.names,x.2 = .local → scope.names.lookup x.1 = some .local
 frees : ∀ x ∈ scope.names,x.2 = .free → X.env.kindOf x.1 = some .cell ∨ X.env.kindOf x.1 = some .free
 names : N' = NL ++ ρ.map fun j => X.N.getD j ""
 outs : ∀ j ∈ ρ,∃ x,X.N[j]? = some x ∧ scope.names.lookup x = some .free ∧ (X.env.scope.names.lookup x = some .cell ∨ X.env.scope.names.lookup x = some .free)
section
variable {X : Cx}
theorem cx_comp {scope : Scope} {NL N' : List Str} {ρ : List Nat} (S : CScope X scope NL ρ N') {pins : List (Addr × Obj)} {σ : St} {H : Hp} {s : Shared} {fp : List Addr} {C : Addr} (I : Inv X pins σ H s) (hf : ∀ b ∈ fp,FpOk X pins H b)
  (hfo : ∀ b ∈ fp,∃ o,s.heap.get? b = some o) (hC : s.heap.objs.size ≤ C) : (ccx X scope C N' s H fp).Ok := by
 have free_in : ∀ x ∈ scope.names,x.2 = .free → ∃ c,X.env.cells.lookup x.1 = some c := fun x hx hk => I.ok.has x.1 (S.frees x hx hk)
 have sub := cloOf_sub (env := X.env) scope.names [] free_in (fun x c e => by simp at e)
 refine ⟨I.ok.mod,S.kind,I.ok.glob,I.ok.blt,hC,?_,?_,?_,I.ok.hd,I.ok.frames,.inl rfl,?_,I.bs,?_,?_,?_,I.stack,I.stkFree⟩
 ·exact fun x y c e1 e2 => I.ok.inj x y c (sub x c e1) (sub y c e2)
 ·intro x hx
  have hx' : (relabel scope X.env).names.lookup x = some .cell ∨ (relabel scope X.env).names.lookup x = some .free := hx
  have look : ∀ k',(relabel scope X.env).names.lookup x = some k' → (k' = .cell ∨ k' = .free) → scope.names.lookup x = some .free := fun k' e hk => by
   obtain ⟨k,e1,z⟩ := relabel_look e
   rcases z with z | ⟨z,_⟩
   ·subst z
    rcases hk with z | z
    ·subst z
     have hm : (x,NameKind.cell) ∈ scope.names := mem_of_lookup e1
     exact absurd rfl (S.nocell _ hm)
    ·subst z; exact e1
   ·subst z; exact e1
  rcases hx' with e | e
  ·exact cloOf_has scope.names [] x (look _ e (.inl rfl))
  ·exact cloOf_has scope.names [] x (look _ e (.inr rfl))
 ·intro x c e; exact absurd e (by show ¬ (false = true); decide)
 ·intro b hb
  obtain ⟨f0,f1,f2,f3,f4,f5⟩ := hf b hb
  refine ⟨?_,fun x c e => f4 x c (sub x c e)⟩
  obtain ⟨o,ho⟩ := hfo b hb
  exact Nat.ne_of_lt (Nat.lt_of_lt_of_le (Heap.lt_size ho) hC)
 ·exact Nat.le_trans I.ok.bsz I.sz
 ·intro b o e hb
  obtain ⟨f0,f1,f2,f3,f4,f5⟩ := hf b hb
  rcases f3 with z | z
  ·exact I.ok.noex b o e z
  ·exact absurd (Nat.lt_of_lt_of_le (Heap.lt_size e) (Nat.le_trans I.ok.bsz z)) (Nat.lt_irrefl _)
 ·intro b hb z
  obtain ⟨f0,f1,f2,f3,f4,f5⟩ := hf b hb
  rcases List.mem_cons.mp (I.stkSub b z) with e | e
  ·exact f1 e
  ·exact f2 e
end
end L2
set_option Elab.async false
set_option linter.all false
set_option maxRecDepth 100000
set_option maxHeartbeats 4000000
namespace L2
open PySem PySem.Spec PyProof.Rows
section
variable {X : Cx}
theorem Inv.comp {scope : Scope} {NL N' : List Str} {ρ : List Nat} (S : CScope X scope NL ρ N') {pins : List (Addr × Obj)} {σ : St} {H : Hp} {s : Shared} {fp : List Addr} {C D : Addr} {h' : Heap} {t' : Nat} (I : Inv X pins σ H s) (hf : ∀ b ∈ fp,FpOk X pins H b)
  (hfo : ∀ b ∈ fp,∃ o,s.heap.get? b = some o) (hC : s.heap.objs.size ≤ C) (hD : s.heap.objs.size ≤ D) (hDC : D ≠ C) (k : ∀ b u,s.heap.get? b = some u → h'.get? b = some u)
  (hd : h'.get? D = some { cls := .type "list",data := .seq #[] 0 }) (hn : h'.Ns C fun _ => none) :
  Inv (ccx X scope C N' s H fp) (X.pn ++ pins) (cst NL.length ρ σ) (upd H D (.lst [])) { s with heap := h',toks := t' } := by
 have ok := cx_comp S I hf hfo hC
 have free_in : ∀ x ∈ scope.names,x.2 = .free → ∃ c,X.env.cells.lookup x.1 = some c := fun x hx hk => I.ok.has x.1 (S.frees x hx hk)
 have sub := cloOf_sub (env := X.env) scope.names [] free_in (fun x c e => by simp at e)
 have fresh : ∀ b,s.heap.objs.size ≤ b → H b = none := fun b hb => I.hok.fresh hb
 have neD : ∀ b o,s.heap.get? b = some o → b ≠ D := fun b o e => Nat.ne_of_lt (Nat.lt_of_lt_of_le (Heap.lt_size e) hD)
 have neH : ∀ b u,H b = some u → b ≠ D := fun b u e => ne_of_none e (fresh D hD)
 refine ⟨ok,rfl,I.bare,⟨fun b o e _ _ _ => k b o e,fun b o e _ _ _ => ⟨o.slots,k b o e⟩,fun b o e n _ => ?_,fun b o e _ => ⟨o,k b o e⟩,fun b xs e => ?_,fun b o u e => ?_,fun b ps e => ⟨#[],?_⟩⟩,⟨_,hn,?_⟩,?_,?_,?_,?_,?_,?_⟩
 ·show upd H D _ b = none
  rw [upd_ne (neD b o e)]; exact n
 ·show upd H D _ b = _
  rw [upd_ne (neH b _ e)]; exact e
 ·show upd H D _ b = _
  rw [upd_ne (neH b _ e)]; exact e
 ·show upd H D _ b = _
  rw [upd_ne (neH b _ e)]
  have e' : H b = some (.tbl ps) := e
  rw [e']; simp
 ·-- the names around
  intro i x v e1 e2 hv
  obtain ⟨m,hm,hl⟩ := I.loc
  have eN : (NL ++ ρ.map fun j => X.N.getD j "")[i]? = some x := by
   have e1' : N'[i]? = some x := e1
   rw [S.names] at e1'; exact e1'
  have eσ : (List.replicate NL.length (none : Option V) ++ ρ.map fun j => (σ[j]?).join)[i]? = some (some v) := e2
  by_cases hi : i < NL.length
  ·rw [List.getElem?_append_left (by simpa using hi)] at eσ
   rw [List.getElem?_replicate] at eσ
   split at eσ <;> cases eσ
  ·have hi' : NL.length ≤ i := Nat.le_of_not_lt hi
   rw [List.getElem?_append_right (by simpa using hi'),List.length_replicate,List.getElem?_map] at eσ
   rw [List.getElem?_append_right hi',List.getElem?_map] at eN
   cases q : ρ[i - NL.length]? with
   | none => rw [q] at eN; cases eN
   | some j =>
    rw [q] at eN eσ
    obtain ⟨y,ey,f1,f2⟩ := S.outs j (List.mem_of_getElem? q)
    have exy : X.N.getD j "" = y := by rw [List.getD_eq_getElem?_getD,ey]; rfl
    have exx : X.N.getD j "" = x := Option.some.inj eN
    have xy : x = y := exx.symm.trans exy
    subst xy
    have eσ' : (σ[j]?).join = some v := Option.some.inj eσ
    have eσ2 : σ[j]? = some (some v) := by
     cases z : σ[j]? with
     | none => rw [z] at eσ'; cases eσ'
     | some w => rw [z] at eσ'; exact congrArg some eσ'
    have vis : Vis X.env.scope x := by
     rcases f2 with z | z
     ·exact .inr (.inl z)
     ·exact .inr (.inr z)
    obtain ⟨u,r,l⟩ := hl j x v ey eσ2 vis
    refine ⟨u,r,?_⟩
    obtain ⟨c,hc⟩ := cloOf_has (env := X.env) scope.names [] x f1
    rcases l with ⟨kl,_⟩ | ⟨_,c',hc',z⟩
    ·have kl' : X.env.scope.names.lookup x = some .local := kl
     rcases f2 with z | z
     ·rw [z] at kl'; cases kl'
     ·rw [z] at kl'; cases kl'
    ·have e3 := sub x c hc
     rw [hc'] at e3
     obtain rfl := Option.some.inj e3
     obtain ⟨oc,hoc,hcd⟩ := z
     have hv' : (relabel scope X.env).names.lookup x = some .local ∨ (relabel scope X.env).names.lookup x = some .cell ∨ (relabel scope X.env).names.lookup x = some .free := hv
     refine .inr ⟨?_,c',hc,oc,k _ _ hoc,hcd⟩
     rcases hv' with z | z | z
     ·obtain ⟨k0,e4,z2⟩ := relabel_look z
      rw [f1] at e4
      cases e4
      rcases z2 with z2 | ⟨_,z2⟩ <;> cases z2
     ·exact .inl z
     ·exact .inr z
 ·intro x c e
  obtain ⟨v,oc,hoc,hcd⟩ := I.cell x c (sub x c e)
  exact ⟨v,oc,k _ _ hoc,hcd⟩
 ·show upd H D _ C = none
  rw [upd_ne (Ne.symm hDC)]; exact fresh C hC
 ·intro x c e
  obtain ⟨v,oc,hoc,hcd⟩ := I.cell x c (sub x c e)
  rw [upd_ne (neD c oc hoc)]
  exact I.freeC x c (sub x c e)
 ·intro p hp
  have hp' : p ∈ X.pn ++ pins := hp
  obtain ⟨e,n,ne,nf,d⟩ := I.pin p hp'
  refine ⟨k _ _ e,?_,?_,?_,d⟩
  ·rw [upd_ne (neD p.1 p.2 e)]; exact n
  ·exact Nat.ne_of_lt (Nat.lt_of_lt_of_le (Heap.lt_size e) hC)
  ·intro z
   rcases List.mem_cons.mp (I.stkSub p.1 z) with q | q
   ·exact ne q
   ·exact nf q
 ·exact I.hok.laid k hD ⟨Nat.zero_le _,[],0,.nil,hd⟩
 ·show (List.replicate NL.length (none : Option V) ++ ρ.map fun j => (σ[j]?).join).length = N'.length
  rw [S.names]; simp
theorem Inv.compEnd {scope : Scope} {N' : List Str} {pins : List (Addr × Obj)} {σ σ' : St} {H H' : Hp} {s s' : Shared} {fp : List Addr} {C : Addr} {h' : Heap} {pins' : List (Addr × Obj)} (I : Inv X pins σ H s) (hf : ∀ b ∈ fp,FpOk X pins H b) (hC : s.heap.objs.size ≤ C)
  (J : Inv (ccx X scope C N' s H fp) pins' σ' H' s') (hs : Heap.SameBut C s'.heap h') : Inv X pins σ H' { s' with heap := h' } := by
 have hn : H' C = none := J.free
 have nC : ∀ b o,s.heap.get? b = some o → b ≠ C := fun b o e => Nat.ne_of_lt (Nat.lt_of_lt_of_le (Heap.lt_size e) hC)
 have B : Un (frs X.stack) fp H H' s.heap s'.heap := J.base
 have U : Un (frs X.stack) fp H H' s.heap h' := ⟨fun b o e n hb hx => (hs.2 b (nC b o e)).trans (B.keep b o e n hb hx),fun b o e n hb hx => by
   obtain ⟨sl,q⟩ := B.slot b o e n hb hx
   exact ⟨sl,(hs.2 b (nC b o e)).trans q⟩,B.free,fun b o e hx => by
   obtain ⟨o',q⟩ := B.there b o e hx
   exact ⟨o',(hs.2 b (nC b o e)).trans q⟩,B.tups,B.frzs,B.tbls⟩
 have hok : HOk X.prog X.w H' h' := fun b u e => by
  refine (J.hok b u e).stay (fun c v hc q => (hs.2 c ?_).trans q) (fun _ q => q) fun _ _ q => q
  rintro rfl
  rcases hc with rfl | hc
  ·rw [hn] at e; cases e
  ·rw [hn] at hc; cases hc
 refine Inv.call' (s' := { s' with heap := h' }) I J.os U hok J.bare fun b hb => ?_
 obtain ⟨f0,f1,f2,f3,f4,f5⟩ := hf b hb
 exact ⟨f3,f1,f4,f5⟩
noncomputable def tComp (k : Nat) (ρ : List Nat) (wi : TI) (g : TG) (tb : List V → Addr → St → Hp → (List V → St → Hp → Prop) → Prop) : TE := fun σ H Q =>
 wi σ H fun J H1 => ∀ l,H1 l = none → ∃ W : Nat → Nat → List V → St → Hp → Prop,(∃ m,W 0 m [] (cst k ρ σ) (upd H1 l (.lst []))) ∧
  ∀ i m ys σ' H',W i m ys σ' H' → (J.stop i H' ∧ Q (.ref l) H') ∨ (J.go i H' ∧ ∀ x H'',J.yld i H' x H'' → g x σ' H'' fun σ2 H2 => tb ys l σ2 H2 fun ys' σ3 H3 => ∃ m',m' < m ∧ W (i + 1) m' ys' σ3 H3)
noncomputable def cEl (te : TE) : List V → Addr → St → Hp → (List V → St → Hp → Prop) → Prop := fun ys l σ H N => te σ H fun y H1 => H1 l = some (.lst ys) ∧ ys.length < sizeLine ∧ N (ys ++ [y]) σ (upd H1 l (.lst (ys ++ [y])))
noncomputable def cIf (tc : TT) (te : TE) : List V → Addr → St → Hp → (List V → St → Hp → Prop) → Prop := fun ys l σ H N => tc σ H fun b H1 => if b = true then cEl te ys l σ H1 N else N ys σ H1
noncomputable def PB (X : Cx) (body : Value → Sem Unit) (tb : List V → Addr → St → Hp → (List V → St → Hp → Prop) → Prop) : Prop :=
 ∀ (pins : List (Addr × Obj)) (s : Shared) (σ : St) (H : Hp) (l : Addr) (ys : List V) (N : List V → St → Hp → Prop),Inv X pins σ H s → tb ys l σ H N →
  wpAny (model X.prog X.w) X.A (body (.ref l)) (fun _ s' => ∃ ys' σ' H',Inv X pins σ' H' s' ∧ N ys' σ' H') X.xe s
theorem pb_el {elt : Expr} {te : TE} (he : PE X elt te) : PB X (fun acc => do let x ← eval elt X.env; let _ ← call (.builtin "list.append") [acc,x]; pure ()) (cEl te) := by
 intro pins s σ H l ys N I h
 refine wpAny_bind (thn (he pins s σ H _ I h) fun u s1 ⟨y,H1,I1,r1,q0,q1,q2⟩ => wpAny_bind ?_)
 refine thn (mt_append pins s1 σ H1 (.ref l) [y] (.ref l) [u] (fun v H' => v = .non ∧ N (ys ++ [y]) σ H') I1 rfl (.cons r1 .nil) ⟨l,ys,y,rfl,rfl,q0,q1,rfl,q2⟩) fun _ s2 ⟨v,H2,I2,_,_,n2⟩ => wpAny_pure ⟨_,σ,H2,I2,n2⟩
theorem pb_if {c elt : Expr} {tc : TT} {te : TE} (hc : PT X c tc) (he : PE X elt te) : PB X (fun acc => do
  let b ← isTrue c X.env (eval c X.env)
  if b then (do let x ← eval elt X.env; let _ ← call (.builtin "list.append") [acc,x]; pure ()) else pure ()) (cIf tc te) := by
 intro pins s σ H l ys N I h
 refine wpAny_bind (thn (hc pins s σ H _ I h) fun b s1 ⟨H1,I1,q1⟩ => ?_)
 cases b with
 | true => exact pb_el he pins s1 σ H1 l ys N I1 q1
 | false => exact wpAny_pure ⟨ys,σ,H1,I1,q1⟩
theorem turn_eq0 (elt target iter : Expr) (scope : Scope) (pos : Pos) (it acc : Value) (env : Env) :
  compTurn (.ListComp elt [⟨target,iter,[],0⟩] scope pos) 0 it acc env = (standAt iter.pos >>= fun _ => pyNext it >>= fun r => match r with
   | none => pure (.done .next)
   | some v => letOwnedTupleGo target it v >>= fun _ => assign target env v >>= fun _ =>
    (do let x ← eval elt env; let _ ← call (.builtin "list.append") [acc,x]; pure () : Sem Unit) >>= fun _ => again (.compLoop (.ListComp elt [⟨target,iter,[],0⟩] scope pos) 0 it acc env)) := by rfl
theorem turn_eq1 (elt target iter c : Expr) (scope : Scope) (pos : Pos) (it acc : Value) (env : Env) :
  compTurn (.ListComp elt [⟨target,iter,[c],0⟩] scope pos) 0 it acc env = (standAt iter.pos >>= fun _ => pyNext it >>= fun r => match r with
   | none => pure (.done .next)
   | some v => letOwnedTupleGo target it v >>= fun _ => assign target env v >>= fun _ =>
    (do
     let b ← isTrue c env (eval c env)
     if b then (do let x ← eval elt env; let _ ← call (.builtin "list.append") [acc,x]; pure ()) else pure () : Sem Unit) >>= fun _ => again (.compLoop (.ListComp elt [⟨target,iter,[c],0⟩] scope pos) 0 it acc env)) := by
 rw [compTurn_list]
 congr 1
 funext _
 congr 1
 funext r
 cases r with
 | none => rfl
 | some v =>
  refine congrArg (letOwnedTupleGo target it v >>= ·) (funext fun _ => ?_)
  refine congrArg (assign target env v >>= ·) (funext fun _ => ?_)
  dsimp only
  rw [List.forIn_cons]
  simp only [if_true,bind_assoc,pure_bind,List.forIn_nil]
  refine congrArg (PySem.isTrue c env (eval c env) >>= ·) (funext fun b => ?_)
  cases b
  ·simp
  ·simp
end
end L2
set_option Elab.async false
set_option linter.all false
set_option maxRecDepth 100000
set_option maxHeartbeats 4000000
namespace L2
open PySem PySem.Spec PyProof.Rows
section
variable {X : Cx}
theorem pe_compG {elt tgt iter : Expr} {ifs : List Expr} {scope : Scope} {pos : Pos} {NL N' : List Str} {ρ : List Nat} {wi : TI} {g : TG} {tb : List V → Addr → St → Hp → (List V → St → Hp → Prop) → Prop} {body : Value → Env → Sem Unit}
  (hc : X.calm = true) (S : CScope X scope NL ρ N') (hi : PI X tgt iter wi)
  (hg : ∀ C s₀ H₀ fp,PG (ccx X scope C N' s₀ H₀ fp) tgt g) (hb : ∀ C s₀ H₀ fp,PB (ccx X scope C N' s₀ H₀ fp) (fun acc => body acc (ccx X scope C N' s₀ H₀ fp).env) tb)
  (he : ∀ (it acc : Value) (env : Env),compTurn (.ListComp elt [⟨tgt,iter,ifs,0⟩] scope pos) 0 it acc env = (standAt iter.pos >>= fun _ => pyNext it >>= fun r => match r with
   | none => pure (.done .next)
   | some v => letOwnedTupleGo tgt it v >>= fun _ => assign tgt env v >>= fun _ => body acc env >>= fun _ => again (.compLoop (.ListComp elt [⟨tgt,iter,ifs,0⟩] scope pos) 0 it acc env)))
  (hs : ∀ x,foldedSetIterable iter X.env x = pure x := by intro _; rfl) : PE X (.ListComp elt [⟨tgt,iter,ifs,0⟩] scope pos) (tComp NL.length ρ wi g tb) := by
 intro pins s σ H Q I h
 have free_in : ∀ x ∈ scope.names,x.2 = .free → ∃ c,X.env.cells.lookup x.1 = some c := fun x hx hk => I.ok.has x.1 (S.frees x hx hk)
 rw [eval_ListComp]
 refine wpAny_comprehension_free (use := none) rfl hs (closure_is free_in) S.kind S.locs ?_
 refine thn (hi pins s σ H _ I h) fun v s1 h1 => thn h1 fun itv s2 h2 => ?_
 obtain ⟨it,fp,tn,J,H2,e,I2,T,st2,f2,w⟩ := h2
 subst e
 refine wpAny_newObj_type (wpAny_newFunctionEnv S.nocell (by intro y hy; simp at hy) (fun h₁ hns₁ hsb₁ => ?_) S.kind)
 dsimp only at hns₁ hsb₁ ⊢
 generalize hH2 : s2.heap.push { cls := .type "list",dict := none,data := .seq ([] : List Value).toArray } = h2' at hns₁ hsb₁ ⊢
 have hCs : h2'.objs.size = s2.heap.objs.size + 1 := by rw [← hH2,Heap.size_push]
 have hDC : s2.heap.objs.size ≠ h2'.objs.size := by rw [hCs]; exact Nat.ne_of_lt (Nat.lt_succ_self _)
 have hC : s2.heap.objs.size ≤ h2'.objs.size := by rw [hCs]; exact Nat.le_succ _
 have old : ∀ b o,s2.heap.get? b = some o → h₁.get? b = some o := fun b o e => hsb₁.extBut b o (Nat.ne_of_lt (Nat.lt_of_lt_of_le (Heap.lt_size e) hC)) (Heap.get?_push_of_some _ (hH2 ▸ Heap.get?_push_of_some _ e))
 have hd : h₁.get? s2.heap.objs.size = some { cls := .type "list",data := .seq #[] 0 } := hsb₁.extBut _ _ hDC (Heap.get?_push_of_some _ (hH2 ▸ Heap.get?_push_size _ rfl))
 have hfo : ∀ b ∈ fp,∃ o,s2.heap.get? b = some o := fun b hb => let ⟨o,e,_⟩ := T.obj _ _ st2 b hb; ⟨o,e⟩
 have I4 : Inv (ccx X scope h2'.objs.size N' s2 H2 fp) (X.pn ++ pins) (cst NL.length ρ σ) (upd H2 s2.heap.objs.size (.lst [])) { s2 with heap := h₁,toks := s2.toks + ([] : List (Str × Value)).length } :=
  Inv.comp S I2 f2 hfo hC (Nat.le_refl _) hDC old hd (by simpa using hns₁)
 have hD0 : H2 s2.heap.objs.size = none := I2.hok.fresh (Nat.le_refl _)
 have nfp : s2.heap.objs.size ∉ fp := fun z => by
  obtain ⟨o,e⟩ := hfo _ z
  exact absurd (Heap.lt_size e) (Nat.lt_irrefl _)
 obtain ⟨W,⟨m0,w0⟩,turn⟩ := w s2.heap.objs.size hD0
 have stat : ∀ {H' : Hp},(∀ b ∈ fp,H' b = none) → ∀ b ∈ fp,FpOk (ccx X scope h2'.objs.size N' s2 H2 fp) (X.pn ++ pins) H' b := fun {H'} hn b hb => by
  obtain ⟨f0,f1,f2',f3,f4,f5⟩ := f2 b hb
  have ok := I4.ok
  refine ⟨hn b hb,(ok.exf b hb).1,ok.exfs b hb,.inl hb,(ok.exf b hb).2,fun p hp => f5 p hp⟩
 have loop : ∀ s₃ : Shared,s₃ = { s2 with heap := h₁,toks := s2.toks + ([] : List (Str × Value)).length } →
   codeAny (model X.prog X.w) X.A (.compLoop (.ListComp elt [⟨tgt,iter,ifs,0⟩] scope pos) 0 (.ref it) (.ref s2.heap.objs.size) (compEnvC scope (cloOf X.env scope.names []) h2'.objs.size X.env))
    (compPost (model X.prog X.w) X.A X.xe none (EP X pins σ Q) (.ref s2.heap.objs.size) h2'.objs.size) s₃ := by
  rintro s₃ rfl
  refine codeAny_loop rfl (fun n s' => ∃ i ys σ' H',Inv (ccx X scope h2'.objs.size N' s2 H2 fp) (X.pn ++ pins) σ' H' s' ∧ tn i s'.heap ∧ (∀ b ∈ fp,H' b = none) ∧ W i n ys σ' H') (fun n s3 hI => ?_) m0
   ⟨0,[],_,_,I4,T.keep _ _ _ st2 (fun b _ o e => old b o e),fun b hb => ?_,w0⟩
  ·obtain ⟨i,ys,σ3,H3,I3,st3,fr3,w3⟩ := hI
   show wpAny _ _ ((compTurn (.ListComp elt [⟨tgt,iter,ifs,0⟩] scope pos) 0 (.ref it) (.ref s2.heap.objs.size) (compEnvC scope (cloOf X.env scope.names []) h2'.objs.size X.env)).onRaise (fun x => do noteFrame x _; theTreesLotGoes x)) _ _ s3
   refine wpAny_noted ?_
   rw [he]
   refine wpAny_bind (wpAny_standAt (wpAny_bind ?_))
   rcases turn i n ys σ3 H3 w3 with ⟨stop,qn⟩ | ⟨go,step⟩
   ·refine thn (T.done (ccx X scope h2'.objs.size N' s2 H2 fp) rfl rfl rfl hc i _ s3 σ3 H3 _ I3 (stat fr3) st3 stop) fun r s4 ⟨hr,I5⟩ => ?_
    subst hr
    refine wpAny_pure ?_
    obtain ⟨m,hm,_⟩ := id I5.loc
    exact ⟨m,hm,fun h' hs' => ⟨.ref s2.heap.objs.size,H3,Inv.compEnd I2 f2 hC I5 hs',rfl,qn⟩⟩
   ·refine thn (T.item (ccx X scope h2'.objs.size N' s2 H2 fp) rfl rfl rfl hc i _ s3 σ3 H3 _ I3 (stat fr3) st3 go) fun r s4 ⟨u,hr,h4⟩ => ?_
    subst hr
    refine wpAny_bind (thn h4 fun _ s5 ⟨x,H5,I5,r5,y5,st5,fr5⟩ => ?_)
    have I5' := I5.pinned (stat fr5) (T.obj _ _ st5)
    refine wpAny_bind (wpAny_mono (hg h2'.objs.size s2 H2 fp _ s5 σ3 H5 x u _ I5' r5 (step x H5 y5)) (fun _ s6 ⟨σ6,H6,I6,q6⟩ => ?_) fun _ _ z => z.elim)
    refine wpAny_bind (wpAny_mono (hb h2'.objs.size s2 H2 fp _ s6 σ6 H6 s2.heap.objs.size ys _ I6 q6) (fun _ s7 ⟨ys7,σ7,H7,I7,m',hm,w7⟩ => ?_) fun _ _ z => z.elim)
    refine wpAny_pure ⟨rfl,m',hm,i + 1,ys7,σ7,H7,I7.unpinned,T.keep _ _ _ st5 fun b hb o e => (I7.pin (b,o) (List.mem_append_right _ (List.mem_append_right _ (mem_pinsAt hb e)))).1,fun b hb => ?_,w7⟩
    obtain ⟨o,e,d⟩ := T.obj _ _ st5 b hb
    exact (I7.pin (b,o) (List.mem_append_right _ (List.mem_append_right _ (mem_pinsAt hb e)))).2.1
  ·rw [upd_ne (show b ≠ s2.heap.objs.size from fun z => nfp (by rw [← z]; exact hb))]
   exact (f2 b hb).1
 refine codeAny_compStart_list (loop _ rfl) (T.self _ 0 _ _ _ ?_ (loop _ rfl))
 exact T.keep _ _ _ st2 fun b _ o e => old b o e
theorem pe_comp {elt tgt iter : Expr} {scope : Scope} {pos : Pos} {NL N' : List Str} {ρ : List Nat} {wi : TI} {g : TG} {te : TE} (hc : X.calm = true) (S : CScope X scope NL ρ N') (hi : PI X tgt iter wi)
  (hg : ∀ C s₀ H₀ fp,PG (ccx X scope C N' s₀ H₀ fp) tgt g) (he : ∀ C s₀ H₀ fp,PE (ccx X scope C N' s₀ H₀ fp) elt te)
  (hs : ∀ x,foldedSetIterable iter X.env x = pure x := by intro _; rfl) : PE X (.ListComp elt [⟨tgt,iter,[],0⟩] scope pos) (tComp NL.length ρ wi g (cEl te)) :=
 pe_compG (body := fun acc env => do let x ← eval elt env; let _ ← call (.builtin "list.append") [acc,x]; pure ()) hc S hi hg (fun C s₀ H₀ fp => pb_el (he C s₀ H₀ fp)) (fun it acc env => turn_eq0 elt tgt iter scope pos it acc env) hs
end
end L2
set_option Elab.async false
set_option linter.all false
set_option maxRecDepth 100000
set_option maxHeartbeats 4000000
namespace L2
open PySem PySem.Spec PyProof.Rows
section
variable {X : Cx}
end
end L2
set_option Elab.async false
set_option linter.all false
set_option maxRecDepth 100000
set_option maxHeartbeats 4000000
namespace L2
open PySem PySem.Spec PyProof.Rows
section
variable {X : Cx}
end
end L2
set_option Elab.async false
set_option linter.all false
set_option maxRecDepth 100000
set_option maxHeartbeats 4000000
namespace L2
open PySem PySem.Spec PyProof.Rows
theorem same_new {H : Hp} {p : Addr} (h : H p = none) (o : HO) : Same H (upd H p o) := fun b u q => by rw [upd_ne (ne_of_none q h)]; exact q
noncomputable def But (r : Addr) (H H' : Hp) : Prop := ∀ b o,b ≠ r → H b = some o → H' b = some o
theorem But.refl (r : Addr) (H : Hp) : But r H H := fun _ _ _ h => h
theorem But.trans {r : Addr} {H H1 H2 : Hp} (a : But r H H1) (b : But r H1 H2) : But r H H2 := fun c o n h => b c o n (a c o n h)
theorem But.same {r : Addr} {H H1 : Hp} (a : Same H H1) : But r H H1 := fun c o _ h => a c o h
theorem But.put {r : Addr} {H : Hp} {o : HO} : But r H (upd H r o) := fun c u n h => by rw [upd_ne n]; exact h
theorem But.tup {K : PySem.W.Frag} {r : Addr} {H H' : Hp} {a : Addr} {xs : List V} (e : But r H H') (n : a ≠ r) (h : SqT K H a xs) : SqT K H' a xs := by
 rcases h with (h | ⟨o,h⟩) | h
 ·exact .inl (.inl (e _ _ n h))
 ·exact .inl (.inr ⟨o,e _ _ n h⟩)
 ·exact .inr h
theorem Same.tup {K : PySem.W.Frag} {H H' : Hp} {a : Addr} {xs : List V} (e : Same H H') (h : SqT K H a xs) : SqT K H' a xs := by
 rcases h with (h | ⟨o,h⟩) | h
 ·exact .inl (.inl (e _ _ h))
 ·exact .inl (.inr ⟨o,e _ _ h⟩)
 ·exact .inr h
theorem comp_range {lo : Int} {n : Nat} {l : Addr} {g : TG} {tb : List V → Addr → St → Hp → (List V → St → Hp → Prop) → Prop} {Q : VK} {σ0 : St} {H0 : Hp} (Pv : Nat → List V → St → Hp → Prop) (h0 : Pv 0 [] σ0 H0)
  (hs : ∀ i ys σ H (N : List V → St → Hp → Prop),i < n → Pv i ys σ H → (∀ ys' σ' H',Pv (i + 1) ys' σ' H' → N ys' σ' H') → g (.int (lo + i)) σ H fun σ2 H2 => tb ys l σ2 H2 N)
  (hd : ∀ ys σ H,Pv n ys σ H → Q (.ref l) H) :
  ∃ W : Nat → Nat → List V → St → Hp → Prop,(∃ m,W 0 m [] σ0 H0) ∧ ∀ i m ys σ' H',W i m ys σ' H' → ((Itr lo n).stop i H' ∧ Q (.ref l) H') ∨
   ((Itr lo n).go i H' ∧ ∀ x H'',(Itr lo n).yld i H' x H'' → g x σ' H'' fun σ2 H2 => tb ys l σ2 H2 fun ys' σ3 H3 => ∃ m',m' < m ∧ W (i + 1) m' ys' σ3 H3) := by
 refine ⟨fun i m ys σ H => m = n - i ∧ i ≤ n ∧ Pv i ys σ H,⟨n,by simp,Nat.zero_le _,h0⟩,?_⟩
 rintro i m ys σ H ⟨rfl,hi,p⟩
 by_cases hlt : i < n
 ·refine .inr ⟨hlt,fun x H' y => ?_⟩
  obtain ⟨e,rfl⟩ := y
  subst e
  exact hs i ys σ _ _ hlt p fun ys' σ' H' q => ⟨_,by lia,rfl,hlt,q⟩
 ·have e : i = n := by lia
  subst e
  exact .inl ⟨Nat.le_refl _,hd ys σ H p⟩
theorem comp_list {K : PySem.W.Frag} {a : Addr} {xs : List V} {l : Addr} {g : TG} {tb : List V → Addr → St → Hp → (List V → St → Hp → Prop) → Prop} {Q : VK} {σ0 : St} {H0 : Hp} (Pv : Nat → List V → St → Hp → Prop) (h0 : Pv 0 [] σ0 H0) (hl : ∀ i ys σ H,i ≤ xs.length → Pv i ys σ H → SqL K H a xs)
  (hs : ∀ i x ys σ H (N : List V → St → Hp → Prop),xs[i]? = some x → Pv i ys σ H → (∀ ys' σ' H',Pv (i + 1) ys' σ' H' → N ys' σ' H') → g x σ H fun σ2 H2 => tb ys l σ2 H2 N)
  (hd : ∀ ys σ H,Pv xs.length ys σ H → Q (.ref l) H) :
  ∃ W : Nat → Nat → List V → St → Hp → Prop,(∃ m,W 0 m [] σ0 H0) ∧ ∀ i m ys σ' H',W i m ys σ' H' → ((Itl K a).stop i H' ∧ Q (.ref l) H') ∨
   ((Itl K a).go i H' ∧ ∀ x H'',(Itl K a).yld i H' x H'' → g x σ' H'' fun σ2 H2 => tb ys l σ2 H2 fun ys' σ3 H3 => ∃ m',m' < m ∧ W (i + 1) m' ys' σ3 H3) := by
 refine ⟨fun i m ys σ H => m = xs.length - i ∧ i ≤ xs.length ∧ Pv i ys σ H,⟨xs.length,by simp,Nat.zero_le _,h0⟩,?_⟩
 rintro i m ys σ H ⟨rfl,hi,p⟩
 have q := hl i ys σ H hi p
 by_cases hlt : i < xs.length
 ·refine .inr ⟨⟨xs,xs[i],q,by simp [hlt]⟩,fun x H' y => ?_⟩
  obtain ⟨e,y⟩ := y
  subst e
  exact hs i x ys σ _ _ (y xs q) p fun ys' σ' H' q => ⟨_,by lia,rfl,hlt,q⟩
 ·have e : i = xs.length := by lia
  subst e
  exact .inl ⟨⟨xs,q,Nat.le_refl _⟩,hd ys σ H p⟩
theorem comp_tup {K : PySem.W.Frag} {a : Addr} {xs : List V} {l : Addr} {g : TG} {tb : List V → Addr → St → Hp → (List V → St → Hp → Prop) → Prop} {Q : VK} {σ0 : St} {H0 : Hp} (Pv : Nat → List V → St → Hp → Prop) (h0 : Pv 0 [] σ0 H0) (hl : ∀ i ys σ H,i ≤ xs.length → Pv i ys σ H → SqT K H a xs)
  (hs : ∀ i x ys σ H (N : List V → St → Hp → Prop),xs[i]? = some x → Pv i ys σ H → (∀ ys' σ' H',Pv (i + 1) ys' σ' H' → N ys' σ' H') → g x σ H fun σ2 H2 => tb ys l σ2 H2 N)
  (hd : ∀ ys σ H,Pv xs.length ys σ H → Q (.ref l) H) :
  ∃ W : Nat → Nat → List V → St → Hp → Prop,(∃ m,W 0 m [] σ0 H0) ∧ ∀ i m ys σ' H',W i m ys σ' H' → ((Itt K a).stop i H' ∧ Q (.ref l) H') ∨
   ((Itt K a).go i H' ∧ ∀ x H'',(Itt K a).yld i H' x H'' → g x σ' H'' fun σ2 H2 => tb ys l σ2 H2 fun ys' σ3 H3 => ∃ m',m' < m ∧ W (i + 1) m' ys' σ3 H3) := by
 refine ⟨fun i m ys σ H => m = xs.length - i ∧ i ≤ xs.length ∧ Pv i ys σ H,⟨xs.length,by simp,Nat.zero_le _,h0⟩,?_⟩
 rintro i m ys σ H ⟨rfl,hi,p⟩
 have q := hl i ys σ H hi p
 by_cases hlt : i < xs.length
 ·refine .inr ⟨⟨xs,xs[i],q,by simp [hlt]⟩,fun x H' y => ?_⟩
  obtain ⟨e,y⟩ := y
  subst e
  exact hs i x ys σ _ _ (y xs q) p fun ys' σ' H' q => ⟨_,by lia,rfl,hlt,q⟩
 ·have e : i = xs.length := by lia
  subst e
  exact .inl ⟨⟨xs,q,Nat.le_refl _⟩,hd ys σ H p⟩
structure Gn (K : PySem.W.Frag) (mg : Str → Option Value) (x : Str) (st : Stmt) (ps : List Str) (f : Addr) (fd : FuncData) : Prop where
 F : Fun K x x st f fd
 b : Binds K fd ps []
 m : mg x = some (.ref f)
end L2
set_option Elab.async false
set_option linter.all false
set_option maxRecDepth 100000
set_option maxHeartbeats 4000000
namespace L2
open PySem PySem.Spec PyProof.Rows
inductive Dt where
 | non | bl (b : Bool) | int (i : Int) | str (z : Str) | tup (l : List Dt)
mutual
inductive IsD (K : PySem.W.Frag) (H : Hp) : Dt → V → Prop
 | non : IsD K H .non .non
 | bl {b} : IsD K H (.bl b) (.bl b)
 | int {i} : IsD K H (.int i) (.int i)
 | str {z} : IsD K H (.str z) (.str z)
 | tup {l : List Dt} {a : Addr} {xs : List V} : SqT K H a xs → IsDs K H l xs → IsD K H (.tup l) (.ref a)
inductive IsDs (K : PySem.W.Frag) (H : Hp) : List Dt → List V → Prop
 | nil : IsDs K H [] []
 | cons {d : Dt} {l : List Dt} {x : V} {xs : List V} : IsD K H d x → IsDs K H l xs → IsDs K H (d :: l) (x :: xs)
end
mutual
noncomputable def Dt.dep : Dt → Nat
 | .tup l => depS l + 1
 | _ => 0
noncomputable def depS : List Dt → Nat
 | [] => 0
 | d :: l => max d.dep (depS l)
end
mutual
noncomputable def eqD : Dt → Dt → Bool
 | .non,.non => true
 | .bl a,.bl b => a == b
 | .bl a,.int i => (if a then 1 else 0) == i
 | .int i,.bl a => i == (if a then 1 else 0)
 | .int i,.int j => i == j
 | .str x,.str y => x == y
 | .tup l,.tup m => eqDs l m
 | _,_ => false
noncomputable def eqDs : List Dt → List Dt → Bool
 | [],[] => true
 | d :: l,e :: m => eqD d e && eqDs l m
 | _,_ => false
end
mutual
noncomputable def Dt.plain : Dt → Bool
 | .bl _ => false
 | .tup l => plainS l
 | _ => true
noncomputable def plainS : List Dt → Bool
 | [] => true
 | d :: l => d.plain && plainS l
end
mutual
theorem eqD_refl : ∀ d : Dt,eqD d d = true
 | .non => rfl
 | .bl a => by simp [eqD]
 | .int i => by simp [eqD]
 | .str z => by simp [eqD]
 | .tup l => by simp only [eqD]; exact eqDs_refl l
theorem eqDs_refl : ∀ l : List Dt,eqDs l l = true
 | [] => rfl
 | d :: l => by simp only [eqDs,eqD_refl d,eqDs_refl l,Bool.and_self]
end
mutual
theorem eqD_eq : ∀ d e : Dt,d.plain = true → e.plain = true → eqD d e = true → d = e
 | .non,e,_,_,h => by cases e <;> simp_all [eqD]
 | .bl _,_,h,_,_ => by simp [Dt.plain] at h
 | .int i,e,_,he,h => by cases e <;> simp_all [eqD,Dt.plain]
 | .str z,e,_,_,h => by cases e <;> simp_all [eqD]
 | .tup l,e,hd,he,h => by
  cases e with
  | tup m => rw [eqDs_eq l m (by simpa [Dt.plain] using hd) (by simpa [Dt.plain] using he) (by simpa [eqD] using h)]
  | _ => simp [eqD] at h
theorem eqDs_eq : ∀ l m : List Dt,plainS l = true → plainS m = true → eqDs l m = true → l = m
 | [],[],_,_,_ => rfl
 | [],_ :: _,_,_,h => by simp [eqDs] at h
 | _ :: _,[],_,_,h => by simp [eqDs] at h
 | d :: l,e :: m,hl,hm,h => by
  simp only [plainS,Bool.and_eq_true] at hl hm
  simp only [eqDs,Bool.and_eq_true] at h
  rw [eqD_eq d e hl.1 hm.1 h.1,eqDs_eq l m hl.2 hm.2 h.2]
end
section
variable {K : PySem.W.Frag} {H H' : Hp}
mutual
theorem IsD.same (g : Same H H') : ∀ {d : Dt} {v : V},IsD K H d v → IsD K H' d v
 | _,_,.non => .non
 | _,_,.bl => .bl
 | _,_,.int => .int
 | _,_,.str => .str
 | _,_,.tup h r => .tup (g.tup h) (IsDs.same g r)
theorem IsDs.same (g : Same H H') : ∀ {l : List Dt} {xs : List V},IsDs K H l xs → IsDs K H' l xs
 | _,_,.nil => .nil
 | _,_,.cons h r => .cons (IsD.same g h) (IsDs.same g r)
end
theorem sqT_ne {a r : Addr} {xs ys : List V} (hr : H r = some (.lst ys)) (h : SqT K H a xs) : a ≠ r ∨ ∀ H'',SqT K H'' a xs := by
 rcases h with (h | ⟨o,h⟩) | h
 ·exact .inl (ne_of h hr (by intro z; cases z))
 ·exact .inl (ne_of h hr (by intro z; cases z))
 ·exact .inr fun _ => .inr h
mutual
theorem IsD.but {r : Addr} {ys : List V} (hr : H r = some (.lst ys)) (g : But r H H') : ∀ {d : Dt} {v : V},IsD K H d v → IsD K H' d v
 | _,_,.non => .non
 | _,_,.bl => .bl
 | _,_,.int => .int
 | _,_,.str => .str
 | _,_,.tup h q => .tup (by
   rcases sqT_ne hr h with n | n
   ·exact g.tup n h
   ·exact n _) (IsDs.but hr g q)
theorem IsDs.but {r : Addr} {ys : List V} (hr : H r = some (.lst ys)) (g : But r H H') : ∀ {l : List Dt} {xs : List V},IsDs K H l xs → IsDs K H' l xs
 | _,_,.nil => .nil
 | _,_,.cons h q => .cons (IsD.but hr g h) (IsDs.but hr g q)
end
theorem IsDs.length {l : List Dt} {xs : List V} (h : IsDs K H l xs) : l.length = xs.length := by
 induction l generalizing xs with
 | nil => cases h; rfl
 | cons d l ih => cases h with | cons _ r => simp [ih r]
theorem IsDs.get {l : List Dt} {xs : List V} (h : IsDs K H l xs) {i : Nat} {d : Dt} (e : l[i]? = some d) : ∃ x,xs[i]? = some x ∧ IsD K H d x := by
 induction l generalizing xs i with
 | nil => simp at e
 | cons c l ih =>
  cases h with
  | cons h r =>
   cases i with
   | zero => simp at e; subst e; exact ⟨_,rfl,h⟩
   | succ i => exact ih r (by simpa using e)
end
section
variable {X : Cx} {pins : List (Addr × Obj)} {σ : St} {H : Hp} {s : Shared}
mutual
theorem IsD.inj (I : Inv X pins σ H s) : ∀ {d e : Dt} {v : V},IsD X.K H d v → IsD X.K H e v → d = e
 | _,_,_,.non,.non => rfl
 | _,_,_,.bl,.bl => rfl
 | _,_,_,.int,.int => rfl
 | _,_,_,.str,.str => rfl
 | _,_,_,.tup h r,.tup h' r' => by
  have e := I.tuple_inj h h'
  subst e
  rw [IsDs.inj I r r']
theorem IsDs.inj (I : Inv X pins σ H s) : ∀ {l m : List Dt} {xs : List V},IsDs X.K H l xs → IsDs X.K H m xs → l = m
 | _,_,_,.nil,.nil => rfl
 | _,_,_,.cons h r,.cons h' r' => by rw [IsD.inj I h h',IsDs.inj I r r']
end
theorem eqDs_range : ∀ (l m : List Dt),eqDs l m = ((List.range (min l.length m.length)).all (fun j => eqD (l.getD j .non) (m.getD j .non)) && l.length == m.length)
 | [],[] => rfl
 | [],_ :: _ => by simp [eqDs]
 | _ :: _,[] => by simp [eqDs]
 | d :: l,e :: m => by
  simp only [eqDs,List.length_cons]
  rw [eqDs_range l m,Nat.succ_min_succ,List.range_succ_eq_map,List.all_cons,List.all_map]
  have e1 : (l.length + 1 == m.length + 1) = (l.length == m.length) := by
   rw [Bool.eq_iff_iff]; simp
  rw [e1,Bool.and_assoc]
  rfl
theorem depS_get : ∀ {l : List Dt} {j : Nat},j < l.length → (l.getD j .non).dep ≤ depS l
 | [],_,h => by simp at h
 | d :: l,0,_ => by simp only [List.getD_cons_zero,depS]; lia
 | d :: l,j + 1,h => by
  have q := @depS_get l j (by simpa using h)
  simp only [List.getD_cons_succ,depS]; lia
theorem Inv.tup' (I : Inv X pins σ H s) {a : Addr} {xs : List V} (h : SqT X.K H a xs) : ∃ its : List Value,Vals xs its ∧ s.heap.IsTuple a its.toArray := by
 obtain ⟨its,r,p,_⟩ := I.tuple h
 exact ⟨its,r,p⟩
theorem in1_units (A : Around) : A.in1.units = A.units + 1 := by
 first | rfl | simp [Around.in1]
theorem eq_D (I : Inv X pins σ H s) : ∀ (n : Nat) (d e : Dt) (x y : V) (u v : Value) (A : Around),d.dep ≤ n → IsD X.K H d x → IsD X.K H e y → RelV x u → RelV y v → A.units + n < cLine →
  SeqAt.EqAt A s u v (eqD d e) ∧ SeqAt.RcAt A s u v (eqD d e) ∧ SeqAt.RcNeAt A s u v (!eqD d e) := by
 intro n
 induction n with
 | zero =>
  intro d e x y u v A hd hx hy rx ry hu
  have hu0 : A.units < cLine := by lia
  cases hx with
  | tup h r => simp [Dt.dep] at hd
  | non =>
   cases rx
   cases hy with
   | non => cases ry; exact ⟨.same _,.none_none,.none_none⟩
   | bl => cases ry; exact ⟨.none_bool _,.none_bool _,.none_bool _⟩
   | int => obtain ⟨t,rfl⟩ := ry; exact ⟨.none_int _ _,.none_int _ _,.none_int _ _⟩
   | str => obtain ⟨t,rfl⟩ := ry; exact ⟨.none_str _ _,.none_str _ _,.none_str _ _⟩
   | tup h r => cases ry; obtain ⟨its,_,p⟩ := I.tup' h; exact ⟨.none_tuple p hu0,.none_tuple p hu0,.none_tuple p hu0⟩
  | bl =>
   cases rx
   cases hy with
   | non => cases ry; exact ⟨.bool_none _,.bool_none _,.bool_none _⟩
   | bl => cases ry; exact ⟨.bool_bool _ _,.bool_bool _ _,.bool_bool _ _⟩
   | int => obtain ⟨t,rfl⟩ := ry; exact ⟨.bool_int _ _ _,.bool_int _ _ _,.bool_int _ _ _⟩
   | str => obtain ⟨t,rfl⟩ := ry; exact ⟨.bool_str _ _ _,.bool_str _ _ _,.bool_str _ _ _⟩
   | tup h r => cases ry; obtain ⟨its,_,p⟩ := I.tup' h; exact ⟨.bool_tuple _ p hu0,.bool_tuple _ p hu0,.bool_tuple _ p hu0⟩
  | int =>
   obtain ⟨t0,rfl⟩ := rx
   cases hy with
   | non => cases ry; exact ⟨.int_none _ _,.int_none _ _,.int_none _ _⟩
   | bl => cases ry; exact ⟨.int_bool _ _ _,.int_bool _ _ _,.int_bool _ _ _⟩
   | int => obtain ⟨t,rfl⟩ := ry; exact ⟨.int_int _ _ _ _,.int_int _ _ _ _,.int_int _ _ _ _⟩
   | str => obtain ⟨t,rfl⟩ := ry; exact ⟨.int_str _ _ _ _,.int_str _ _ _ _,.int_str _ _ _ _⟩
   | tup h r => cases ry; obtain ⟨its,_,p⟩ := I.tup' h; exact ⟨.int_tuple _ _ p hu0,.int_tuple _ _ p hu0,.int_tuple _ _ p hu0⟩
  | str =>
   obtain ⟨t0,rfl⟩ := rx
   cases hy with
   | non => cases ry; exact ⟨.str_none _ _,.str_none _ _,.str_none _ _⟩
   | bl => cases ry; exact ⟨.str_bool _ _ _,.str_bool _ _ _,.str_bool _ _ _⟩
   | int => obtain ⟨t,rfl⟩ := ry; exact ⟨.str_int _ _ _ _,.str_int _ _ _ _,.str_int _ _ _ _⟩
   | str => obtain ⟨t,rfl⟩ := ry; exact ⟨.str_str _ _ _ _,.str_str _ _ _ _,.str_str _ _ _ _⟩
   | tup h r => cases ry; obtain ⟨its,_,p⟩ := I.tup' h; exact ⟨.str_tuple _ _ p hu0,.str_tuple _ _ p hu0,.str_tuple _ _ p hu0⟩
 | succ n ih =>
  intro d e x y u v A hd hx hy rx ry hu
  have hu0 : A.units < cLine := by lia
  cases hx with
  | tup h r =>
   rename_i l a xs
   cases rx
   cases hy with
   | non => cases ry; obtain ⟨its,_,p⟩ := I.tup' h; exact ⟨.tuple_none p hu0,.tuple_none p hu0,.tuple_none p hu0⟩
   | bl => cases ry; obtain ⟨its,_,p⟩ := I.tup' h; exact ⟨.tuple_bool _ p hu0,.tuple_bool _ p hu0,.tuple_bool _ p hu0⟩
   | int => obtain ⟨t,rfl⟩ := ry; obtain ⟨its,_,p⟩ := I.tup' h; exact ⟨.tuple_int _ _ p hu0,.tuple_int _ _ p hu0,.tuple_int _ _ p hu0⟩
   | str => obtain ⟨t,rfl⟩ := ry; obtain ⟨its,_,p⟩ := I.tup' h; exact ⟨.tuple_str _ _ p hu0,.tuple_str _ _ p hu0,.tuple_str _ _ p hu0⟩
   | tup h' r' =>
    rename_i m b ys
    cases ry
    obtain ⟨its,q,p⟩ := I.tup' h
    obtain ⟨its',q',p'⟩ := I.tup' h'
    have l1 : its.length = l.length := by rw [← q.length,← r.length]
    have l2 : its'.length = m.length := by rw [← q'.length,← r'.length]
    have he : ∀ j (h1 : j < its.toArray.size) (h2 : j < its'.toArray.size),SeqAt.EqAt A.in1 s its.toArray[j] its'.toArray[j] (eqD (l.getD j .non) (m.getD j .non)) := by
     intro j h1 h2
     have j1 : j < l.length := by simpa [l1] using h1
     have j2 : j < m.length := by simpa [l2] using h2
     obtain ⟨x1,ex,dx⟩ := r.get (i := j) (d := l.getD j .non) (by simp [List.getD_eq_getElem?_getD,j1])
     obtain ⟨y1,ey,dy⟩ := r'.get (i := j) (d := m.getD j .non) (by simp [List.getD_eq_getElem?_getD,j2])
     obtain ⟨u1,eu,ru⟩ := q.get ex
     obtain ⟨v1,ev,rv⟩ := q'.get ey
     have e1 : its.toArray[j] = u1 := by
      have : its[j]? = some its[j] := by simp [l1,j1]
      rw [this] at eu
      simpa using Option.some.inj eu
     have e2 : its'.toArray[j] = v1 := by
      have : its'[j]? = some its'[j] := by simp [l2,j2]
      rw [this] at ev
      simpa using Option.some.inj ev
     rw [e1,e2]
     have hdl : depS l ≤ n := by simp only [Dt.dep] at hd; lia
     exact (ih _ _ _ _ _ _ A.in1 (Nat.le_trans (depS_get j1) hdl) dx dy ru rv (by rw [in1_units]; lia)).1
    have ev : eqD (.tup l) (.tup m) = ((List.range (min its.toArray.size its'.toArray.size)).all (fun j => eqD (l.getD j .non) (m.getD j .non)) && its.toArray.size == its'.toArray.size) := by
     simp only [eqD,List.size_toArray,l1,l2]
     exact eqDs_range l m
    rw [ev]
    refine ⟨?_,SeqAt.RcAt.tuples p p' hu0 he,SeqAt.RcNeAt.tuples p p' hu0 he⟩
    by_cases hab : a = b
    ·subst hab
     have e3 := I.tuple_inj h h'
     subst e3
     have e4 := IsDs.inj I r r'
     subst e4
     rw [← ev,eqD_refl]
     exact .same _
    ·exact .of_refs hab (SeqAt.RcAt.tuples p p' hu0 he)
  | non => exact ih _ _ _ _ _ _ A (by simp [Dt.dep]) .non hy rx ry (by lia)
  | bl => exact ih _ _ _ _ _ _ A (by simp [Dt.dep]) .bl hy rx ry (by lia)
  | int => exact ih _ _ _ _ _ _ A (by simp [Dt.dep]) .int hy rx ry (by lia)
  | str => exact ih _ _ _ _ _ _ A (by simp [Dt.dep]) .str hy rx ry (by lia)
noncomputable def rEqD (K : PySem.W.Frag) : R2 := fun x y H Q => ∃ d e,IsD K H d x ∧ IsD K H e y ∧ d.dep ≤ 60 ∧ Q (.bl (eqD d e)) H
noncomputable def rNeD (K : PySem.W.Frag) : R2 := fun x y H Q => ∃ d e,IsD K H d x ∧ IsD K H e y ∧ d.dep ≤ 60 ∧ Q (.bl (!eqD d e)) H
theorem op_eqD (hu : X.A.units + 64 < cLine) : OpR X (compareOp .Eq) (rEqD X.K) := by
 intro pins s σ H x y v u Q I rx ry h
 obtain ⟨d,e,hd,he,hn,q⟩ := h
 exact (eq_D I 60 d e x y v u X.A hn hd he rx ry (by lia)).2.1 _ _ _ _ ⟨.bl _,H,I,rfl,q⟩
theorem op_neD (hu : X.A.units + 64 < cLine) : OpR X (compareOp .NotEq) (rNeD X.K) := by
 intro pins s σ H x y v u Q I rx ry h
 obtain ⟨d,e,hd,he,hn,q⟩ := h
 exact (eq_D I 60 d e x y v u X.A hn hd he rx ry (by lia)).2.2 _ _ _ _ ⟨.bl _,H,I,rfl,q⟩
end
end L2
set_option Elab.async false
set_option linter.all false
set_option maxRecDepth 100000
set_option maxHeartbeats 4000000
namespace PySem.W
open PySem PySem.Spec PyProof.Rows PySem.Calls
section
variable {prog : Program} {w : World} {A : Around} {E : Value → Shared → Prop} {h : Heap} {g : Array GenState} {d : Drawn} {t : Nat} {os : OsState} {a C : Addr} {o : Obj} {K : Frag}
end
end PySem.W
set_option Elab.async false
set_option linter.all false
set_option maxRecDepth 100000
set_option maxHeartbeats 4000000
namespace L2
open PySem PySem.Spec PyProof.Rows
section
variable {X : Cx} {pins : List (Addr × Obj)} {σ : St} {H : Hp} {s : Shared}
end
end L2
set_option Elab.async false
set_option linter.all false
set_option maxRecDepth 100000
set_option maxHeartbeats 4000000
namespace L2
open PySem PySem.Spec PyProof.Rows
section
variable {X : Cx} {pins : List (Addr × Obj)} {σ : St} {H : Hp} {s : Shared}
end
end L2
set_option Elab.async false
set_option linter.all false
set_option maxRecDepth 100000
set_option maxHeartbeats 4000000
namespace L2
open PySem PySem.Spec PyProof.Rows
section
variable {X : Cx} {pins : List (Addr × Obj)} {σ : St} {H : Hp} {s : Shared}
end
end L2
set_option Elab.async false
set_option linter.all false
set_option maxRecDepth 100000
set_option maxHeartbeats 4000000
namespace L2
open PySem PySem.Spec PyProof.Rows
section
variable {X : Cx} {a b c d : Expr} {ta tb tc td : TE} {pos : Pos}
end
noncomputable def kdat (D : List (Str × Int)) : List (Str × KTD.Dat) := D.map fun p => (p.1,.flat (.int p.2))
noncomputable def lookI (k : Str) : List (Str × Int) → V
 | [] => .non
 | (x,i) :: D => if k = x then .int i else lookI k D
theorem look_none {k : Str} : ∀ {D : List (Str × Int)},KTD.datumAt k (kdat D) = none → lookI k D = .non
 | [],_ => rfl
 | (x,i) :: D,h => by
  simp only [kdat,List.map_cons,KTD.datumAt,decide_eq_true_eq] at h
  by_cases hk : k = x
  ·rw [if_pos hk] at h; cases h
  ·rw [if_neg hk] at h
   simp [lookI,hk,look_none (D := D) h]
section
variable {X : Cx}
end
end L2
set_option Elab.async false
set_option linter.all false
set_option maxRecDepth 100000
set_option maxHeartbeats 4000000
namespace L2
open PySem PySem.Spec PyProof.Rows
theorem csR {X : Cx} {scope sc : Scope} {NL N N' : List Str} {ρ : List Nat} (hsc : X.env.scope = sc) (hN : X.N = N) (h1 : scope.kind = .function) (h2 : (scope.names.all fun x => x.2 != .cell) = true) (h3 : ∀ x ∈ scope.names,x.2 = .local → scope.names.lookup x.1 = some .local)
  (h4 : (scope.names.all fun x => x.2 != .free || sc.names.lookup x.1 == some .cell) = true) (h5 : N' = NL ++ ρ.map fun j => N.getD j "")
  (h6 : (ρ.all fun j => match N[j]? with | some x => scope.names.lookup x == some .free && sc.names.lookup x == some .cell | none => false) = true) : CScope X scope NL ρ N' := by
 rw [List.all_eq_true] at h2 h4 h6
 refine ⟨h1,fun x hx e => ?_,h3,fun x hx e => .inl ?_,by rw [hN]; exact h5,fun j hj => ?_⟩
 ·have := h2 x hx
  rw [e] at this
  exact absurd this (by decide)
 ·have z := h4 x hx
  rw [e] at z
  have z2 : (sc.names.lookup x.1 == some NameKind.cell) = true := by simpa using z
  show X.env.scope.names.lookup x.1 = some .cell
  rw [hsc]
  exact beq_iff_eq.mp z2
 ·have z := h6 j hj
  cases q : N[j]? with
  | none => rw [q] at z; cases z
  | some x =>
   rw [q] at z
   simp only [Bool.and_eq_true,beq_iff_eq] at z
   exact ⟨x,by rw [hN]; exact q,z.1,.inl (by rw [hsc]; exact z.2)⟩
end L2
set_option Elab.async false
set_option linter.all false
set_option maxRecDepth 100000
set_option maxHeartbeats 4000000
namespace L2
open PySem PySem.Spec PyProof.Rows
structure RoomH (k : Nat) (A : Around) : Prop where
 dp : A.depth + 3 * k + 5 < recursionLimit
 un : A.units + 16 * k + 200 < cLine
structure FnOkH (P : Program) (w : World) (K : PySem.W.Frag) (mg : Str → Option Value) (base : Heap) (k : Nat) (f : Addr) (fd : FuncData) (ps : List Str) (sp : Sp) : Prop where
 len : ∀ vs H Q E,sp vs H Q E → vs.length = ps.length
 run : ∀ (A : Around) (outer : List Env) (s : Shared) (H : Hp) (args : Args) (us : List Value) (vs : List V) (Q : VK) (E : XK),RoomH k A → Env0 P w K mg base A outer s H → BindsTo s fd args (ps.zip us) → Vals vs us → sp vs H Q E →
  codeAny (model P w) A (.call (.ref f) args) (CR CX0 outer P w H s Q E) s
section
variable {X : Cx}
end
end L2
set_option Elab.async false
set_option linter.all false
set_option maxRecDepth 100000
set_option maxHeartbeats 4000000
namespace HT
open PySem PySem.Spec PyProof.Rows
section
variable {prog : Program} {w : World} {A : Around} {E : Value → Shared → Prop} {s : Shared}
theorem cat_nil {t b : Addr} {ws : List Value} {Q : Value → Shared → Prop} (ht : IsTup s.heap t ([] : List Value).toArray) (hb : IsTup s.heap b ws.toArray) (h : Q (.ref b) s) : wpAny (model prog w) A (binaryOp .Add (.ref t) (.ref b)) Q E s := by
 obtain ⟨⟨cls,dd,data,sl⟩,ho,hc,n,hd⟩ := id ht
 obtain ⟨⟨cls2,dd2,data2,sl2⟩,ho2,hc2,n2,hd2⟩ := id hb
 simp only at hc hd hc2 hd2
 subst hc hd hc2 hd2
 exact concat_meets ⟨_,ho,rfl⟩ ⟨_,ho2,rfl⟩ noFill_tuple_add seq_tuple_add PySem.F.slot_tuple_add PySem.F.entry_tuple_add (PySem.F.args_tuple_add_2 _ _) (tuple_addW0 t b _ ws.toArray n n2 dd dd2 sl sl2 (by rfl)) ⟨ho,ho2,h⟩
theorem getItem_tuple_all {t sl : Addr} {items : Array Value} {vl vu : Value} {lo hi : Option Int} {Q : Value → Shared → Prop} (ht : IsTup s.heap t items) (hs : s.heap.IsSliceOf sl vl vu .none) (pl : IsPart vl lo) (pu : IsPart vu hi)
  (h1 : sIx items.size 0 lo = 0) (h2 : sIx items.size items.size hi = items.size) (h : Q (.ref t) s) : wpAny (model prog w) A (getItem (.ref t) (.ref sl)) Q E s := by
 obtain ⟨os,hos,hcs,hds⟩ := id hs
 have hTs : s.TypeIs (.ref sl) "slice" := ⟨os,hos,hcs⟩
 unfold getItem
 try with_reducible refine wpAny_holding ?_
 first | refine wpAny_bind (wpAny_pure ?_) | skip
 refine wpAny_bind (wpAny_sequenceKey ht.typeIs (by decide) ?_)
 refine wpAny_bind (wpAny_callSpecial?_slot (name := Str.ofString "__getitem__") ht.typeIs PyProof.Rows.slot_tuple_getitem (wpAny_call_entry PyProof.Rows.slot_tuple_getitem ht.typeIs entry_tuple_getitem ?_ (args_tuple_getitem _ _)))
 show wpAny _ _ (Builtin.Tuple.tupleItemsOf (.ref t) >>= _) _ _ s
 refine wpAny_bind (tupleItemsOf_ ht ?_)
 refine wpAny_bind (wpAny_typeOf hTs ?_)
 rw [if_pos (by decide)]
 refine wpAny_bind (sliceApplied_gen hs pl pu ?_)
 have hyes : (((sIx items.size 0 lo : Nat) : Int) == 0 && (1 : Int) == 1 && (sIx items.size items.size hi - sIx items.size 0 lo) == items.size) = true := by
  rw [h1,h2]; simp
 show wpAny _ _ (if (((sIx items.size 0 lo : Nat) : Int) == 0 && (1 : Int) == 1 && (sIx items.size items.size hi - sIx items.size 0 lo) == items.size) = true then _ else _) _ _ s
 rw [if_pos hyes]
 refine wpAny_bind (m := Builtin.Tuple.tupleIsExact _) (wpAny_bind (wpAny_typeOf ht.typeIs ?_))
 refine wpAny_pure ?_
 rw [if_pos (by decide)]
 exact wpAny_bind (wpAny_rule (wpAny_pure ⟨_,rfl,wpAny_pure h⟩))
end
end HT
namespace L2
open PySem PySem.Spec PyProof.Rows
section
variable {X : Cx}
theorem IsD.unref {K : PySem.W.Frag} {H : Hp} {l : List Dt} {v : V} (h : IsD K H (.tup l) v) : ∃ a xs,v = .ref a ∧ SqT K H a xs ∧ IsDs K H l xs := by
 cases h with
 | tup h r => exact ⟨_,_,rfl,h,r⟩
noncomputable def cutD (l : List Dt) (lo hi : Option Int) : List Dt := (l.drop (HT.sIx l.length 0 lo)).take (HT.sIx l.length l.length hi - HT.sIx l.length 0 lo)
theorem call_lenD : CallR X (.builtin "len") (fun xs H Q => ∃ x l,xs = [x] ∧ IsD X.K H (.tup l) x ∧ Q (.int l.length) H) := by
 intro pins s σ H xs us Q I r h
 obtain ⟨x,l,rfl,dx,q⟩ := h
 obtain ⟨a,ys,rfl,hx,ra⟩ := dx.unref
 exact call_len_seq pins s σ H [.ref a] us Q I r ⟨a,ys,rfl,.inr hx,by rw [← ra.length]; exact q⟩
end
end L2
set_option Elab.async false
set_option linter.all false
set_option maxRecDepth 100000
set_option maxHeartbeats 4000000
namespace PySem
open Sem (wp)
section
variable {M : Model} {A : Around} {E : Value → Shared → Prop} {s : Shared}
end
end PySem
namespace L2
open PySem PySem.Spec PyProof.Rows
section
variable {X : Cx} {E : XK}
variable {pins : List (Addr × Obj)} {σ : St} {H : Hp} {s : Shared}
end
end L2
set_option Elab.async false
set_option linter.all false
set_option maxRecDepth 100000
set_option maxHeartbeats 4000000
namespace L2
open PySem PySem.Spec PyProof.Rows
section
variable {κ : Type} [DecidableEq κ]
noncomputable def valV (kvs : List (κ × V)) (k : κ) : Option V := (kvs.find? fun kv => decide (kv.1 = k)).map (·.2)
noncomputable def putK (kvs : List (κ × V)) (k : κ) (v : V) : List (κ × V) :=
 if (kvs.any fun kv => decide (kv.1 = k)) = true then kvs.map (fun kv => if kv.1 = k then (kv.1,v) else kv) else kvs ++ [(k,v)]
noncomputable def dropK (kvs : List (κ × V)) (k : κ) : List (κ × V) := kvs.filter fun kv => decide (kv.1 ≠ k)
theorem valV_pos {p : κ × V} {r : List (κ × V)} {k : κ} (e : p.1 = k) : valV (p :: r) k = some p.2 := by simp [valV,List.find?_cons,e]
theorem valV_neg {p : κ × V} {r : List (κ × V)} {k : κ} (e : ¬ p.1 = k) : valV (p :: r) k = valV r k := by simp [valV,List.find?_cons,e]
theorem valV_any (k : κ) : ∀ kvs : List (κ × V),(kvs.any fun kv => decide (kv.1 = k)) = (valV kvs k).isSome
 | [] => rfl
 | p :: r => by
  rw [List.any_cons]
  by_cases e : p.1 = k
  ·simp only [valV_pos e,decide_eq_true e,Bool.true_or,Option.isSome_some]
  ·rw [valV_neg e,decide_eq_false e,Bool.false_or]; exact valV_any k r
theorem valV_map (k j : κ) (y : V) : ∀ kvs : List (κ × V),valV (kvs.map fun kv => if kv.1 = k then (kv.1,y) else kv) j = (valV kvs j).map fun x => if j = k then y else x
 | [] => rfl
 | p :: r => by
  have ih := valV_map k j y r
  rw [List.map_cons]
  by_cases h : p.1 = k
  ·rw [if_pos h]
   by_cases e : p.1 = j
   ·rw [valV_pos (p := (p.1,y)) e,valV_pos e,Option.map_some,if_pos (e.symm.trans h)]
   ·rw [valV_neg (p := (p.1,y)) e,valV_neg e,ih]
  ·rw [if_neg h]
   by_cases e : p.1 = j
   ·rw [valV_pos (p := p) e,valV_pos e,Option.map_some,if_neg (fun z => h (e.trans z))]
   ·rw [valV_neg (p := p) e,valV_neg e,ih]
theorem valV_snoc (k j : κ) (y : V) : ∀ kvs : List (κ × V),valV kvs k = none → valV (kvs ++ [(k,y)]) j = if j = k then some y else valV kvs j
 | [],_ => by
  by_cases e : k = j
  ·rw [if_pos e.symm]; exact valV_pos (p := (k,y)) e
  ·rw [if_neg (fun z => e z.symm)]; exact valV_neg (p := (k,y)) e
 | p :: r,hn => by
  rw [List.cons_append]
  have hk : ¬ p.1 = k := fun z => by rw [valV_pos z] at hn; cases hn
  rw [valV_neg hk] at hn
  have ih := valV_snoc k j y r hn
  by_cases e : p.1 = j
  ·rw [valV_pos e,valV_pos e,if_neg (fun z => hk (e.trans z))]
  ·rw [valV_neg e,valV_neg e,ih]
theorem valV_put (kvs : List (κ × V)) (k j : κ) (y : V) : valV (putK kvs k y) j = if j = k then some y else valV kvs j := by
 unfold putK
 by_cases a : (kvs.any fun kv => decide (kv.1 = k)) = true
 ·rw [if_pos a,valV_map]
  rw [valV_any] at a
  by_cases e : j = k
  ·obtain ⟨x,hx⟩ := Option.isSome_iff_exists.mp a
   rw [if_pos e,e,hx,Option.map_some,if_pos rfl]
  ·rw [if_neg e]
   cases valV kvs j with
   | none => rfl
   | some x => rw [Option.map_some,if_neg e]
 ·rw [if_neg a]
  refine valV_snoc k j y kvs ?_
  rw [valV_any] at a
  cases q : valV kvs k with
  | none => rfl
  | some x => rw [q] at a; exact (a rfl).elim
theorem length_putK (kvs : List (κ × V)) (k : κ) (v : V) : (putK kvs k v).length ≤ kvs.length + 1 := by
 unfold putK
 split
 ·rw [List.length_map]; lia
 ·rw [List.length_append,List.length_cons,List.length_nil]; lia
theorem RelO.isSome_eq {o : Option V} {u : Option Value} (r : RelO o u) : o.isSome = u.isSome := by
 cases o with
 | none => cases u with
  | none => rfl
  | some _ => exact (show False from r).elim
 | some _ => cases u with
  | none => exact (show False from r).elim
  | some _ => rfl
theorem KV.val {kvs : List (κ × V)} {vs : List (κ × Value)} (r : KV kvs vs) (k : κ) : RelO (valV kvs k) (valueAt vs k) := by
 unfold KV at r
 induction r with
 | nil => exact True.intro
 | @cons p q ps qs h t ih =>
  obtain ⟨h1,h2⟩ := h
  by_cases e : p.1 = k
  ·have e' : q.1 = k := h1.symm.trans e
   have b : valueAt (q :: qs) k = some q.2 := by simp [valueAt,List.find?_cons,e']
   rw [valV_pos e,b]; exact h2
  ·have e' : ¬ q.1 = k := fun z => e (h1.trans z)
   have b : valueAt (q :: qs) k = valueAt qs k := by simp [valueAt,List.find?_cons,e']
   rw [valV_neg e,b]; exact ih
theorem KV.any {kvs : List (κ × V)} {vs : List (κ × Value)} (r : KV kvs vs) (k : κ) : (kvs.any fun kv => decide (kv.1 = k)) = vs.any fun kv => decide (kv.1 = k) := by
 unfold KV at r
 induction r with
 | nil => rfl
 | cons h t ih => rw [List.any_cons,List.any_cons,ih,h.1]
theorem KV.repl {kvs : List (κ × V)} {vs : List (κ × Value)} (r : KV kvs vs) (k : κ) {y : V} {u : Value} (ry : RelV y u) :
  KV (kvs.map fun kv => if kv.1 = k then (kv.1,y) else kv) (vs.map fun kv => if kv.1 = k then (kv.1,u) else kv) := by
 unfold KV at r ⊢
 induction r with
 | nil => exact .nil
 | @cons p q ps qs h t ih =>
  rw [List.map_cons,List.map_cons]
  refine .cons ?_ ih
  obtain ⟨h1,h2⟩ := h
  by_cases e : p.1 = k
  ·rw [if_pos e,if_pos (h1.symm.trans e)]; exact ⟨h1,ry⟩
  ·rw [if_neg e,if_neg (fun z => e (h1.trans z))]; exact ⟨h1,h2⟩
theorem KV.put {kvs : List (κ × V)} {vs : List (κ × Value)} (r : KV kvs vs) (k : κ) {y : V} {u : Value} (ry : RelV y u) : KV (putK kvs k y) (stored vs k u) := by
 unfold putK stored
 rw [r.any k]
 by_cases e : (vs.any fun kv => decide (kv.1 = k)) = true
 ·rw [if_pos e,if_pos e]; exact r.repl k ry
 ·rw [if_neg e,if_neg e]; exact Paired.snoc r ⟨rfl,ry⟩
theorem KV.keys {kvs : List (κ × V)} {vs : List (κ × Value)} (r : KV kvs vs) : kvs.map (·.1) = vs.map (·.1) := by
 unfold KV at r
 induction r with
 | nil => rfl
 | cons h t ih => rw [List.map_cons,List.map_cons,ih,h.1]
theorem KV.length {kvs : List (κ × V)} {vs : List (κ × Value)} (r : KV kvs vs) : kvs.length = vs.length := Paired.length r
end
theorem kV_is {P : Program} {w : World} {k : Key} {u : Value} (r : RelV (kV k) u) : (mixKind P w).is k u = true := by
 cases k with
 | inl i => obtain ⟨t,e⟩ := (show ∃ t,u = Value.int i t from r); subst e; exact mixKind_int P w i t
 | inr x => obtain ⟨t,e⟩ := (show ∃ t,u = Value.str x t from r); subst e; exact mixKind_str P w x t
theorem items_are {P : Program} {w : World} : ∀ {ks : List Key} {us : List Value},Vals (ks.map kV) us → ItemsAre (mixKind P w) ks us
 | [],_,r => by rw [List.map_nil] at r; cases r; exact .nil
 | k :: ks,_,r => by
  rw [List.map_cons] at r
  cases r with
  | cons h t => exact .cons (kV_is h) (items_are t)
noncomputable abbrev KT (H : Hp) : List (List Key × V) → List (List Key × Addr × Value) → Prop := Paired fun p q => p.1 = q.1 ∧ H q.2.1 = some (.tup (p.1.map kV)) ∧ RelV p.2 q.2.2
theorem KT.val {H : Hp} {kvs : List (List Key × V)} {xs : List (List Key × Addr × Value)} (r : KT H kvs xs) (k : List Key) : RelO (valV kvs k) ((atKey xs k).map (·.2)) := by
 induction r with
 | nil => exact True.intro
 | @cons p q ps qs h t ih =>
  obtain ⟨h1,_,h2⟩ := h
  by_cases e : p.1 = k
  ·have e' : q.1 = k := h1.symm.trans e
   have b : atKey (q :: qs) k = some q.2 := by simp [atKey,List.find?_cons,e']
   rw [valV_pos e,b]; exact h2
  ·have e' : ¬ q.1 = k := fun z => e (h1.trans z)
   have b : atKey (q :: qs) k = atKey qs k := by simp [atKey,List.find?_cons,e']
   rw [valV_neg e,b]; exact ih
theorem KT.repl {H : Hp} {kvs : List (List Key × V)} {xs : List (List Key × Addr × Value)} (r : KT H kvs xs) (k : List Key) {y : V} {u : Value} (ry : RelV y u) :
  KT H (kvs.map fun kv => if kv.1 = k then (kv.1,y) else kv) (xs.map (putAt k u)) := by
 induction r with
 | nil => exact .nil
 | @cons p q ps qs h t ih =>
  rw [List.map_cons,List.map_cons]
  refine .cons ?_ ih
  obtain ⟨h1,h2,h3⟩ := h
  unfold putAt
  by_cases e : p.1 = k
  ·rw [if_pos e,if_pos (h1.symm.trans e)]; exact ⟨h1,h2,ry⟩
  ·rw [if_neg e,if_neg (fun z => e (h1.trans z))]; exact ⟨h1,h2,h3⟩
theorem KT.put {H : Hp} {kvs : List (List Key × V)} {xs : List (List Key × Addr × Value)} (r : KT H kvs xs) (k : List Key) {b : Addr} {y : V} {u : Value} (hb : H b = some (.tup (k.map kV))) (ry : RelV y u) :
  KT H (putK kvs k y) (storedH xs k b u) := by
 have e : (kvs.any fun kv => decide (kv.1 = k)) = (atKey xs k).isSome := by
  rw [valV_any,(r.val k).isSome_eq,Option.isSome_map]
 unfold putK storedH
 rw [e]
 by_cases q : (atKey xs k).isSome = true
 ·rw [if_pos q,if_pos q]; exact r.repl k ry
 ·rw [if_neg q,if_neg q]; exact Paired.snoc r ⟨rfl,hb,ry⟩
theorem KT.keeps {H H' : Hp} {kvs : List (List Key × V)} {xs : List (List Key × Addr × Value)} (r : KT H kvs xs) (ht : ∀ b ys,H b = some (.tup ys) → H' b = some (.tup ys)) : KT H' kvs xs :=
 Paired.mapP r fun _ _ z => ⟨z.1,ht _ _ z.2.1,z.2.2⟩
section
variable {P : Program} {w : World} {H : Hp} {h : Heap} {a : Addr}
theorem rd_of {u : HO} (ok : HOk P w H h) (e : Rd H a u) : ObjOk P w H h a u := e.ok ok
theorem dk_rd {kvs : List (Key × V)} (ok : HOk P w H h) (e : Rd H a (.dK kvs)) : kvs.length ≤ sizeLine ∧ (a == sysModules) = false ∧ ∃ vs,KV kvs vs ∧ h.DictOf (mixKind P w) a vs :=
 show ObjOk P w H h a (.dK kvs) from rd_of ok e
theorem dk_of {kvs : List (Key × V)} (ok : HOk P w H h) (e : H a = some (.dK kvs)) : kvs.length ≤ sizeLine ∧ (a == sysModules) = false ∧ ∃ vs,KV kvs vs ∧ h.DictOf (mixKind P w) a vs := dk_rd ok (.inl e)
theorem key_of {ks : List Key} (ok : HOk P w H h) (e : H a = some (.tup (ks.map kV))) : (tupleKind (mixKind P w)).is h ks a := by
 obtain ⟨_,its,r,o,h1,h2,n,h3⟩ := (show ObjOk P w H h a (.tup (ks.map kV)) from ok a _ e)
 exact ⟨o,its.toArray,n,h1,h2,h3,by simpa using items_are r⟩
theorem dt_rd {kvs : List (List Key × V)} (ok : HOk P w H h) (e : Rd H a (.dT kvs)) : kvs.length ≤ sizeLine ∧ (a == sysModules) = false ∧
  ∃ xs,KT H kvs xs ∧ h.DictOfH (tupleKind (mixKind P w)) a xs := by
 obtain ⟨z,y,xs,r,o,es,ep,h1,h2,h3,h4,h5⟩ := (show ObjOk P w H h a (.dT kvs) from rd_of ok e)
 refine ⟨z,y,xs,r,o,es,ep,h1,h2,h3,h4,fun x hx => ?_,h5⟩
 have all : ∀ {l : List (List Key × V)} {m : List (List Key × Addr × Value)},KT H l m → ∀ x ∈ m,(tupleKind (mixKind P w)).is h x.1 x.2.1 := by
  intro l m q
  induction q with
  | nil => intro x hx; exact nomatch hx
  | @cons p q ps qs hq t ih =>
   intro x hx
   rcases List.mem_cons.mp hx with e | hx
   ·subst e
    exact key_of ok (by rw [← hq.1]; exact hq.2.1)
   ·exact ih x hx
 exact all r x hx
theorem dt_of {kvs : List (List Key × V)} (ok : HOk P w H h) (e : H a = some (.dT kvs)) : kvs.length ≤ sizeLine ∧ (a == sysModules) = false ∧
  ∃ xs,KT H kvs xs ∧ h.DictOfH (tupleKind (mixKind P w)) a xs := dt_rd ok (.inl e)
end
noncomputable def DGet (H : Hp) (a : Addr) (y : V) (r : Option V) : Prop :=
 (∃ kvs k,Rd H a (.dK kvs) ∧ y = kV k ∧ r = valV kvs k) ∨ ∃ kvs k b,Rd H a (.dT kvs) ∧ y = .ref b ∧ H b = some (.tup (k.map kV)) ∧ r = valV kvs k
noncomputable def DPut (H : Hp) (a : Addr) (y v : V) (H' : Hp) : Prop :=
 (∃ kvs k,H a = some (.dK kvs) ∧ y = kV k ∧ kvs.length < sizeLine ∧ H' = upd H a (.dK (putK kvs k v))) ∨
 ∃ kvs k b,H a = some (.dT kvs) ∧ y = .ref b ∧ H b = some (.tup (k.map kV)) ∧ kvs.length < sizeLine ∧ H' = upd H a (.dT (putK kvs k v))
theorem DGet.k {H : Hp} {a : Addr} {kvs : List (Key × V)} {k : Key} (e : H a = some (.dK kvs)) : DGet H a (kV k) (valV kvs k) := .inl ⟨kvs,k,.inl e,rfl,rfl⟩
theorem DGet.t {H : Hp} {a b : Addr} {kvs : List (List Key × V)} {k : List Key} (e : H a = some (.dT kvs)) (eb : H b = some (.tup (k.map kV))) : DGet H a (.ref b) (valV kvs k) := .inr ⟨kvs,k,b,.inl e,rfl,eb,rfl⟩
theorem DPut.k {H : Hp} {a : Addr} {kvs : List (Key × V)} {k : Key} {v : V} (e : H a = some (.dK kvs)) (hl : kvs.length < sizeLine) : DPut H a (kV k) v (upd H a (.dK (putK kvs k v))) := .inl ⟨kvs,k,e,rfl,hl,rfl⟩
theorem DPut.t {H : Hp} {a b : Addr} {kvs : List (List Key × V)} {k : List Key} {v : V} (e : H a = some (.dT kvs)) (eb : H b = some (.tup (k.map kV))) (hl : kvs.length < sizeLine) :
  DPut H a (.ref b) v (upd H a (.dT (putK kvs k v))) := .inr ⟨kvs,k,b,e,rfl,eb,hl,rfl⟩
section
variable {X : Cx} {pins : List (Addr × Obj)} {σ : St} {H : Hp} {s : Shared} {a : Addr} {y v : V} {u r : Value} {o : Option V} {A : Around} {E : Value → Shared → Prop}
theorem Inv.big (I : Inv X pins σ H s) : sysModules < s.heap.objs.size := by
 have h : mainGlobals < s.heap.objs.size := (I.mod.glob.keeps I.bk).lt
 exact Nat.lt_trans (by decide) h
theorem d_getItem {Q : Value → Shared → Prop} (hu : A.units + 1 < cLine) (I : Inv X pins σ H s) (g : DGet H a y (some v)) (ry : RelV y u) (h : ∀ w' s',Inv X pins σ H s' → RelV v w' → Q w' s') :
  wpAny (model X.prog X.w) A (getItem (.ref a) u) Q E s := by
 rcases g with ⟨kvs,k,e,ey,l⟩ | ⟨kvs,k,b,e,ey,eb,l⟩
 ·subst ey
  obtain ⟨z,hd,vs,rel,dd⟩ := dk_rd I.hok e
  obtain ⟨w',hw,rw'⟩ := RelO.some_of (v := v) (o := valueAt vs k) (by rw [l]; exact rel.val k)
  exact wpAny_getItem_of (kV_is ry) dd.mapOf hw (h w' _ (I.tok _) rw')
 ·subst ey
  cases (show u = Value.ref b from ry)
  obtain ⟨z,hd,xs,rel,dd⟩ := dt_rd I.hok e
  obtain ⟨w',hw,rw'⟩ := RelO.some_of (v := v) (o := (atKey xs k).map (·.2)) (by rw [l]; exact rel.val k)
  obtain ⟨p,hp,hp2⟩ := Option.map_eq_some_iff.mp hw
  refine wpAny_getItem_heap (tupleKind_room_in1 hu) (key_of I.hok eb) dd hp ?_
  rw [hp2]
  exact h w' _ (I.tok _) rw'
theorem d_write {h' : Heap} {t' : Nat} {ob : HO} (I : Inv X pins σ H s) (mu : Mut (H a)) (hs : Heap.SameBut a s.heap h') (he : ∃ q,h'.get? a = some q) (new : ObjOk X.prog X.w (upd H a ob) h' a ob) :
  Inv X pins σ (upd H a ob) { s with heap := h',toks := t' } :=
 I.write (x := a) (e := a) mu (.inl rfl) (fun b q hb z => (hs.2 b hb).trans z) he new
theorem dk_new {P : Program} {w : World} {H' : Hp} {h' : Heap} {kvs : List (Key × V)} {vs : List (Key × Value)} (z : kvs.length ≤ sizeLine) (hd : (a == sysModules) = false) (rel : KV kvs vs) (dd : h'.DictOf (mixKind P w) a vs) :
  ObjOk P w H' h' a (.dK kvs) := ⟨z,hd,vs,rel,dd⟩
theorem d_setItem {H' : Hp} {Q : Unit → Shared → Prop} (hu : A.units + 1 < cLine) (I : Inv X pins σ H s) (g : DPut H a y v H') (ry : RelV y u) (rv : RelV v r) (h : ∀ s',Inv X pins σ H' s' → Q () s') :
  wpAny (model X.prog X.w) A (setItem (.ref a) u r) Q E s := by
 rcases g with ⟨kvs,k,e,ey,l,eH⟩ | ⟨kvs,k,b,e,ey,eb,l,eH⟩
 ·subst ey eH
  obtain ⟨z,hd,vs,rel,dd⟩ := dk_of I.hok e
  have hz : vs.length ≤ sizeLine := by rw [← rel.length]; exact z
  have hl : (putK kvs k v).length ≤ sizeLine := by have := length_putK kvs k v; lia
  refine wpAny_setItem_pairs (hsz := hz) (kV_is ry) dd fun h' dd' hs => h _ ?_
  have he : ∃ q,h'.get? a = some q := let ⟨q,_,_,hq,_⟩ := dd'; ⟨q,hq⟩
  exact d_write I (by rw [e]; exact True.intro) hs he (dk_new hl hd (rel.put k rv) dd')
 ·subst ey eH
  cases (show u = Value.ref b from ry)
  obtain ⟨z,hd,xs,rel,dd⟩ := dt_of I.hok e
  have hz : xs.length ≤ sizeLine := by rw [← Paired.length rel]; exact z
  have hl : (putK kvs k v).length ≤ sizeLine := by have := length_putK kvs k v; lia
  refine wpAny_setItem_heap (hsz := hz) (tupleKind_room_in1 hu) (key_of I.hok eb) dd fun h' dd' hs => h _ ?_
  obtain ⟨q,es,ep,hq,h2,h3,h4,_,h5⟩ := dd'
  refine d_write I (by rw [e]; exact True.intro) hs ⟨q,hq⟩ ⟨hl,hd,_,(rel.put k eb rv).keeps fun c ys ec => ?_,q,es,ep,hq,h2,h3,h4,h5⟩
  rw [upd_ne (ne_of ec e (fun z => nomatch z))]
  exact ec
end
section
variable {X : Cx} {pins : List (Addr × Obj)} {σ : St} {H : Hp} {s : Shared} {a : Addr} {kvs : List (Key × V)} {k : Key} {u : Value} {A : Around} {E : Value → Shared → Prop}
end
noncomputable def NoSl (i : Expr) : Prop := ∀ ov iv,subscripted i false ov iv = operate [ov,iv] (getItem ov iv)
theorem subD_of {prog : Program} {w : World} {A : Around} {E : Value → Shared → Prop} {s : Shared} {env : Env} {value slice : Expr} {pos : Pos} {T id : String} {Q : Value → Shared → Prop}
  (hl : typeLookup (.type T) "__getitem__" = pure (some (.builtin id))) (hs : NoSl slice)
  (h : wpAny (model prog w) A (eval value env) (fun o s₁ => wpAny (model prog w) A (eval slice env) (fun i s₂ => s₂.TypeIs o T ∧ wpAny (model prog w) A (getItem o i) Q E s₂) E s₁) E s) :
  wpAny (model prog w) A (eval (.Subscript value slice pos) env) Q E s := by
 refine Subscript_ (wpAny_mono h (fun o s₁ h₁ => wpAny_mono h₁ (fun i s₂ h₂ => ?_) fun _ _ x => x) fun _ _ x => x)
 obtain ⟨hT,h₂⟩ := h₂
 unfold subscriptTail
 refine wpAny_bind ?_
 rw [getitemInPython_of_ne hT.not_modules]
 refine wpAny_bind (wpAny_specialOf hT hl ?_)
 have fin : wpAny (model prog w) A (subscripted slice false o i) (fun r s₃ => wpAny (model prog w) A (letTemporaryGo value o r >>= fun _ => pure r) Q E s₃) E s₂ := by
  rw [hs o i]
  exact wpAny_operating (wpAny_mono h₂ (fun r s₃ h₃ => wpAny_bind (wpAny_letTemporaryGo (wpAny_pure h₃))) fun _ _ x => x)
 first
  | exact wpAny_pure (wpAny_bind fin)
  | exact wpAny_bind (wpAny_pure (wpAny_bind fin))
  | exact wpAny_bind fin
theorem dict_typeIs {X : Cx} {pins : List (Addr × Obj)} {σ : St} {H : Hp} {s : Shared} {a : Addr} {y : V} {o : Option V} (I : Inv X pins σ H s) (g : DGet H a y o) : s.TypeIs (.ref a) "dict" := by
 rcases g with ⟨kvs,k,e,_,_⟩ | ⟨kvs,k,b,e,_,_,_⟩
 ·obtain ⟨_,_,vs,_,dd⟩ := dk_rd I.hok e
  exact dd.typeIs
 ·obtain ⟨_,_,xs,_,dd⟩ := dt_rd I.hok e
  exact dd.typeIs
noncomputable def tDGet (td ty : TE) : TE := fun σ H Q => td σ H fun x H1 => ty σ H1 fun y H2 => ∃ a v,x = .ref a ∧ DGet H2 a y (some v) ∧ Q v H2
noncomputable def sDPut (td ty tv : TE) : TS := fun D σ H => tv σ H fun v H1 => td σ H1 fun x H2 => ty σ H2 fun y H3 => ∃ a H4,x = .ref a ∧ DPut H3 a y v H4 ∧ D.nx σ H4
section
variable {X : Cx} {o i e value : Expr} {pos pos' tpos : Pos} {td ty tv : TE}
theorem pe_dget (hu : X.A.units + 1 < cLine) (ho : PE X o td) (hi : PE X i ty) (hs : NoSl i) : PE X (.Subscript o i pos) (tDGet td ty) := by
 intro pins s σ H Q I h
 refine subD_of PySem.F.slot_dict_getitem.lookup hs (thn (ho pins s σ H _ I h) fun u s1 ⟨x,H1,I1,rx,q1⟩ => thn (hi pins s1 σ H1 _ I1 q1) fun iv s2 ⟨y,H2,I2,ry,a,v,ex,g,q2⟩ => ?_)
 subst ex
 obtain rfl : u = Value.ref a := rx
 exact ⟨dict_typeIs I2 g,d_getItem hu I2 g ry fun w' s3 I3 rw' => ⟨v,H2,I3,rw',q2⟩⟩
theorem ps_dput (hu : X.A.units + 1 < cLine) (ho : PE X o td) (hi : PE X i ty) (hv : PE X value tv) (hs : swapsWith value (some (.Subscript o i pos')) pos.line X.env = pure false) :
  PS X (.Assign [.Subscript o i pos'] value pos) (sDPut td ty tv) := by
 intro pins s σ H D I h
 refine wpAny_Assign_Subscript (thn (hv pins s σ H _ I h) fun r s1 ⟨v,H1,I1,rv,q1⟩ => thn (ho pins s1 σ H1 _ I1 q1) fun u s2 ⟨x,H2,I2,rx,q2⟩ => thn (hi pins s2 σ H2 _ I2 q2) fun iv s3 ⟨y,H3,I3,ry,a,H4,ex,g,q3⟩ => ?_) hs
 subst ex
 obtain rfl : u = Value.ref a := rx
 exact d_setItem hu I3 g ry rv fun s4 I4 => ⟨σ,H4,I4,q3⟩
end
theorem dk_empty {P : Program} {w : World} {H : Hp} (h : Heap) (hb : sysModules < h.objs.size) : ObjOk P w H (h.push { cls := .type "dict",data := .dict #[] }) h.objs.size (.dK []) :=
 ⟨Nat.zero_le _,beq_eq_false_iff_ne.mpr (Ne.symm (Nat.ne_of_lt hb)),[],.nil,Heap.DictOf.new h⟩
noncomputable def tDNewK : TE := fun _ H Q => ∀ p,H p = none → Q (.ref p) (upd H p (.dK []))
section
variable {X : Cx} {pos : Pos}
theorem pe_dnewK : PE X (.Dict [] [] pos) tDNewK := fun pins s σ H Q I h =>
 wpAny_Dict_empty ⟨.ref s.heap.objs.size,_,I.laid (a := s.heap.objs.size) (o := .dK []) (t' := s.toks) (fun _ _ q => Heap.get?_push_of_some _ q) (Nat.le_refl _) (dk_empty s.heap I.big),rfl,h _ (I.hok.fresh (Nat.le_refl _))⟩
end
structure M2 (X : Cx) (o : Expr) (m : Str) (apos : Pos) (e f : Expr) (cpos : Pos) : Prop where
 base : attributeBase o m X.env (eval o X.env) = eval o X.env
 few : ((backTo cpos (starEach [e,f] X.env)).all (fun x => !x.1) && (backToKw cpos (keywordEach [] X.env)).all (fun x => x.1.isSome)
  && decide (([e,f] : List Expr).length + ([] : List Keyword).length + (if ([] : List Keyword).isEmpty then 0 else 1) < 30)) = true
 line : (apos.endLine == cpos.line) = true
 trees : backTo cpos (starEach [e,f] X.env) = [(false,eval e X.env),(false,eval f X.env)]
section
variable {X : Cx} {pins : List (Addr × Obj)} {σ : St} {H : Hp} {s : Shared} {a : Addr} {y d : V} {u r : Value} {o : Option V} {A : Around} {E : Value → Shared → Prop}
end
section
variable {X : Cx} {o e f : Expr} {apos cpos : Pos} {td ty tx : TE}
end
section
variable {X : Cx} {pins : List (Addr × Obj)} {σ : St} {H : Hp} {s : Shared} {a : Addr} {kvs : List (Key × V)} {A : Around} {E : Value → Shared → Prop}
end
section
variable {X : Cx} {pins : List (Addr × Obj)} {σ : St} {H : Hp} {s : Shared} {a : Addr} {y : V} {u : Value} {A : Around} {E : Value → Shared → Prop}
end
end L2
set_option Elab.async false
set_option linter.all false
set_option maxRecDepth 100000
set_option maxHeartbeats 4000000
namespace PySem
open Sem (wp)
namespace F
theorem entry_dict_update_loop : entryFor table "dict.update.loop" = some Builtin.«dict.update.loop» := entryFor_of_tree (by kernel_rfl)
theorem plain_dict_update_loop : plainId "dict.update.loop" = true := by decide +kernel
theorem miss_keys_tuple : typeLookup (.type "tuple") "keys" = pure none := by rw [typeLookup_type,builtinLookup_eq_fast]; kernel_rfl
end F
theorem keys_none_tuple {prog : Program} {w : World} {A : Around} {E : Value → Shared → Prop} {s : Shared} {a : Addr} {o : Obj} {xs : Array Value} {k : Nat} {Q : Option Value → Shared → Prop}
  (hx : s.heap.get? a = some o) (hc : o.cls = .type "tuple") (hdat : o.data = .seq xs k) (hd : o.dict = none) (hA : A.handled = none)
  (h : ∀ h' tk e,Heap.NewExcOf s.heap h' e "AttributeError" → Q none { s with heap := h',toks := tk }) :
  wpAny (model prog w) A (getAttr? (.ref a) "keys") Q E s := by
 obtain ⟨c,dct,dat,sl⟩ := o
 simp only at hc hdat hd
 subst hc hdat hd
 obtain ⟨hp,g,d,tk,os⟩ := s
 have hT : ∀ tk',(⟨hp,g,d,tk',os⟩ : Shared).TypeIs (.ref a) "tuple" := fun _ => ⟨_,hx,rfl⟩
 have f1 := sub_AttributeError
 have f3 := F.slot_tuple_getattribute.lookup
 have f4 := F.slot_tuple_getattribute.bind (.ref a)
 have f5 := am_tuple_getattr_none
 unfold getAttr? getAttrBy? getAttrBy
 repeat (any_goals (first | assumption | exact hT _ | ((with_reducible show wpAny _ _ (call (Value.builtin "tuple.__getattribute__") _ _) _ _ _); refine call_meets F.slot_tuple_getattribute (hT _) am_entry_tuple_getattribute (F.args_tuple_getattribute_2 _ _) (meets_getattribute_miss_tuple a xs k sl "keys" _ F.miss_keys_tuple (by decide)) ⟨hx,hA,fun h' tk' e hx' => ?_⟩) | wp_step))
 obtain ⟨t',u',he⟩ := hx'.there
 show wpAny _ _ (getattributeRaised _ _ _ _ _ _ _) _ _ _
 unfold getattributeRaised
 repeat (any_goals (first | assumption | wp_step))
 all_goals exact h _ _ _ hx'.of
end PySem
set_option Elab.async false
set_option linter.all false
set_option maxRecDepth 100000
set_option maxHeartbeats 4000000
namespace PySem
open Sem (wp)
section
variable {prog : Program} {w : World} {K : Type} [DecidableEq K] {knd : KeyKind prog w K} {A : Around} {E : Value → Shared → Prop}
noncomputable def Heap.PairItems (h : Heap) (knd : KeyKind prog w K) (items : Array Value) (kvs : List (K × Value)) : Prop :=
 items.size = kvs.length ∧ ∀ (i : Nat) (kv : K × Value),kvs[i]? = some kv → ∃ (a : Addr) (key : Value),items[i]? = some (.ref a) ∧ h.IsTuple a #[key,kv.2] ∧ knd.is kv.1 key = true
theorem Heap.PairItems.stay {h h' : Heap} {items : Array Value} {kvs : List (K × Value)} (x : h.PairItems knd items kvs) (k : ∀ (i : Nat) (a : Addr) (o : Obj),items[i]? = some (.ref a) → h.get? a = some o → h'.get? a = some o) : h'.PairItems knd items kvs :=
 ⟨x.1,fun i kv e => by
  obtain ⟨a,key,e1,⟨o,e2,r⟩,e3⟩ := x.2 i kv e
  exact ⟨a,key,e1,⟨o,k i a o e1 e2,r⟩,e3⟩⟩
theorem codeAny_dict_loop {t it d : Addr} {items : Array Value} {kvs : List (K × Value)} {R : Result → Shared → Prop} (hh : A.handled = none) (hdt : t ≠ d) (hit : t ≠ it) (hdi : d ≠ it) (hav : ∀ (i : Nat) (a : Addr),items[i]? = some (.ref a) → a ≠ d ∧ a ≠ it) (hsz : kvs.length + kvs.length ≤ sizeLine) :
  ∀ (n i : Nat) (s : Shared) (acc : List (K × Value)),kvs.length - i = n → i ≤ kvs.length → acc.length ≤ i → s.heap.IsTuple t items → s.heap.PairItems knd items kvs → s.heap.IsTupleIter it t i → s.heap.DictOf knd d acc →
   (∀ h' tk,h'.DictOf knd d (merged acc (kvs.drop i)) → (∀ b o,b ≠ d → b ≠ it → s.heap.get? b = some o → h'.get? b = some o) → R (.ok (.ret .none)) { s with heap := h',toks := tk }) →
   codeAny (model prog w) A (.builtin "dict.update.loop" ⟨[.ref d,.ref it,rawInt i,.none],[]⟩) R s := by
 intro n
 induction n with
 | zero =>
  intro i s acc hn hi ha ht hp hs hd hR
  have e : i = kvs.length := by lia
  refine codeAny_builtin F.entry_dict_update_loop ?_
  rw [Around.under_plainId F.plain_dict_update_loop _]
  show wpAny _ A.in1 (pyNext (.ref it) >>= _) _ _ s
  refine wpAny_bind (wpAny_pyNext_tuple_end (by first | exact hh | simpa using hh) hs ht (by rw [e,← hp.1]; simp) fun h' eb => ?_)
  show wpAny _ _ (Builtin.Dict.addKeywords d [] >>= _) _ _ _
  have hd' : h'.DictOf knd d acc := by
   obtain ⟨o,es,ep,ho,r⟩ := hd
   exact ⟨o,es,ep,eb d o hdi ho,r⟩
  have q := hR h' s.toks (by rw [e,List.drop_length]; exact hd') fun b o _ hb z => eb b o hb z
  exact wpAny_bind (wpAny_pure (wpAny_pure q))
 | succ n ih =>
  intro i s acc hn hi ha ht hp hs hd hR
  have hlt : i < kvs.length := by lia
  obtain ⟨kv,hkv⟩ : ∃ kv,kvs[i]? = some kv := ⟨_,List.getElem?_eq_getElem hlt⟩
  obtain ⟨a,key,hx,hpair,hkey⟩ := hp.2 i kv hkv
  refine codeAny_builtin F.entry_dict_update_loop ?_
  rw [Around.under_plainId F.plain_dict_update_loop _]
  show wpAny _ A.in1 (pyNext (.ref it) >>= _) _ _ s
  refine wpAny_bind (wpAny_pyNext_tuple_item hs ht hx fun h1 hs1 sb => ?_)
  obtain ⟨av1,av2⟩ := hav i a hx
  have keep1 : ∀ b o,b ≠ it → s.heap.get? b = some o → h1.get? b = some o := fun b o hb z => (sb.2 b hb).trans z
  obtain ⟨po,pe,pc,pn,pd⟩ := hpair
  have pe1 := keep1 a po av2 pe
  have hd1 : h1.DictOf knd d acc := by
   obtain ⟨o,es,ep,ho,r⟩ := hd
   exact ⟨o,es,ep,keep1 d o hdi ho,r⟩
  refine wpAny_bind (wpAny_holding ?_)
  refine wpAny_bind (wpAny_tryCatch ?_)
  unfold Builtin.Dict.pairItems
  refine wpAny_bind (wpAny_typeOf (T := "tuple") ⟨_,pe1,pc⟩ ?_)
  rw [if_pos (by decide)]
  refine wpAny_bind (wpAny_seqItems pe1 pd ?_)
  refine wpAny_pure ?_
  show wpAny _ _ (holding [key,kv.2] (dictSet d key kv.2)) _ _ _
  refine wpAny_holding (wpAny_dictSet_pairs (s := { s with heap := h1 }) hkey hd1 (fun h2 hd2 sb2 => ?_) (by lia))
  refine wpAny_pure ⟨plainId_quiet F.plain_dict_update_loop _,?_⟩
  have keep2 : ∀ b o,b ≠ d → b ≠ it → s.heap.get? b = some o → h2.get? b = some o := fun b o hb hb' z => (sb2.2 b hb).trans (keep1 b o hb' z)
  have hlen : (stored acc kv.1 kv.2).length ≤ i + 1 := by have := stored_length_le acc kv.1 kv.2; lia
  have ht2 : h2.IsTuple t items := by
   obtain ⟨o,ho,r⟩ := ht
   exact ⟨o,keep2 t o hdt hit ho,r⟩
  have hs2 : h2.IsTupleIter it t (i + 1) := by
   obtain ⟨o,ho,r⟩ := hs1
   exact ⟨o,(sb2.2 it (Ne.symm hdi)).trans ho,r⟩
  have e : rawInt ((i : Int) + 1) = rawInt ((i + 1 : Nat) : Int) := by rw [Int.natCast_add]; rfl
  show codeAny _ _ (.builtin "dict.update.loop" ⟨[.ref d,.ref it,rawInt ((i : Int) + 1),.none],[]⟩) _ _
  rw [e]
  refine ih (i + 1) { s with heap := h2,toks := s.toks + 1 } (stored acc kv.1 kv.2) (by lia) hlt hlen ht2 (hp.stay fun j b o z z2 => keep2 b o (hav j b z).1 (hav j b z).2 z2) hs2 hd2 fun h' tk hd' k' => ?_
  have q := hR h' tk (by
   have z : kvs.drop i = kv :: kvs.drop (i + 1) := by
    rw [List.drop_eq_getElem_cons hlt]
    rw [List.getElem?_eq_getElem hlt] at hkv
    rw [Option.some.inj hkv]
   rw [z]
   exact hd') fun b o hb hb' z => k' b o hb hb' (keep2 b o hb hb' z)
  exact q
theorem call_dict_pairs {s : Shared} {t : Addr} {o : Obj} {items : Array Value} {n : Nat} {kvs : List (K × Value)} {Q : Value → Shared → Prop} (hh : A.handled = none) (ho : s.heap.get? t = some o) (hc : o.cls = .type "tuple") (hdat : o.data = .seq items n) (hd : o.dict = none)
  (hp : s.heap.PairItems knd items kvs) (hsz : kvs.length + kvs.length ≤ sizeLine)
  (h : ∀ h' tk,h'.DictOf knd s.heap.objs.size (merged [] kvs) → (∀ b o,s.heap.get? b = some o → h'.get? b = some o) → Q (.ref s.heap.objs.size) { s with heap := h',toks := tk }) :
  wpAny (model prog w) A (call (.type "dict") [.ref t]) Q E s := by
 refine callType_codes (Q₁ := fun obj s₁ => obj = .ref s.heap.objs.size ∧ s₁ = { s with heap := s.heap.push { cls := .type "dict",data := .dict #[] } }) F.kt_called_dict (F.kt_typeCall_dict_1 _) F.entry_dict_init (kt_code_dict_new _ ⟨rfl,rfl⟩) ?_
 rintro obj s₁ ⟨rfl,rfl⟩
 have hnew : (s.heap.push { cls := .type "dict",data := .dict #[] }).DictOf knd s.heap.objs.size [] := Heap.DictOf.new s.heap
 have ho1 : (s.heap.push { cls := .type "dict",data := .dict #[] }).get? t = some o := Heap.get?_push_of_some _ ho
 have htl : t < s.heap.objs.size := Heap.lt_size ho
 refine ⟨hnew.typeIs,F.args_dict_init_2 _ _,?_⟩
 unfold Builtin.«dict.__init__»
 refine wpAny_bind ?_
 unfold Builtin.Dict.selfAndRest
 refine wpAny_bind (wpAny_notOrdered_dict hnew.typeIs ?_)
 show wpAny _ _ (pure (s.heap.objs.size,[Value.ref t])) _ _ _
 refine wpAny_pure ?_
 show wpAny _ _ (Builtin.Dict.updateFrom "dict.__init__" s.heap.objs.size (.ref t) [] .none) _ _ _
 unfold Builtin.Dict.updateFrom
 refine wpAny_bind (wpAny_typeOf (T := "tuple") ⟨_,ho1,hc⟩ ?_)
 rw [if_pos (by decide)]
 refine wpAny_bind (keys_none_tuple ho1 hc hdat hd (by first | exact hh | simpa using hh) fun h1 tk1 e hx => ?_)
 rw [if_pos (by rfl)]
 refine wpAny_bind (wpAny_rule ?_)
 have kp1 : ∀ b o,(s.heap.push { cls := .type "dict",data := .dict #[] }).get? b = some o → h1.get? b = some o := fun b o z => hx.keeps b o z
 have ht1 : h1.IsTuple t items := ⟨o,kp1 t o ho1,hc,n,hdat⟩
 refine wpAny_bind (wpAny_pyIter_tuple ht1 ?_)
 have hit : s.heap.objs.size < h1.objs.size := by
  obtain ⟨o2,es,ep,ho2,_⟩ := hnew
  exact Heap.lt_size (kp1 _ _ ho2)
 have kp0 : ∀ b o,s.heap.get? b = some o → h1.get? b = some o := fun b o z => kp1 b o (Heap.get?_push_of_some _ z)
 refine wpAny_pure ⟨plainId_quiet F.plain_dict_update_loop _,?_⟩
 refine codeAny_dict_loop (knd := knd) (t := t) (items := items) (kvs := kvs) (by first | exact hh | simpa using hh) (Nat.ne_of_lt htl) (Nat.ne_of_lt (Nat.lt_trans htl hit)) (Nat.ne_of_lt hit) (fun i a z => ?_) hsz kvs.length 0 _ [] (by lia) (Nat.zero_le _) (Nat.le_refl _)
  ⟨o,Heap.get?_push_of_some _ (kp1 t o ho1),hc,n,hdat⟩ (hp.stay fun i a o2 _ z => Heap.get?_push_of_some _ (kp0 a o2 z)) ⟨_,Heap.get?_push_size _ rfl,rfl,rfl⟩ ?_ fun h' tk hd' k' => ⟨rfl,?_⟩
 ·have hi : i < kvs.length := by
   rw [← hp.1]
   exact (Array.getElem?_eq_some_iff.mp z).1
  obtain ⟨b,key,e1,⟨ob,e2,_⟩,_⟩ := hp.2 i _ (List.getElem?_eq_getElem hi)
  rw [z] at e1
  have e3 : a = b := by injection (Option.some.inj e1)
  subst e3
  have := Heap.lt_size e2
  exact ⟨Nat.ne_of_lt this,Nat.ne_of_lt (Nat.lt_trans this hit)⟩
 ·obtain ⟨o2,es,ep,ho2,r⟩ := hnew
  exact ⟨o2,es,ep,Heap.get?_push_of_some _ (kp1 _ _ ho2),r⟩
 ·refine h h' tk hd' fun b ob z => k' b ob (Nat.ne_of_lt (Heap.lt_size z)) (Nat.ne_of_lt (Nat.lt_trans (Heap.lt_size z) hit)) (Heap.get?_push_of_some _ (kp0 b ob z))
end
end PySem
set_option Elab.async false
set_option linter.all false
set_option maxRecDepth 100000
set_option maxHeartbeats 4000000
namespace L2
open PySem PySem.Spec PyProof.Rows
noncomputable def Pl (H : Hp) (a : Addr) : Prop := ∃ o u,H a = some (.frz o u) ∧ o.dict = none
mutual
inductive IsP (K : PySem.W.Frag) (H : Hp) : Dt → V → Prop
 | non : IsP K H .non .non
 | bl {b} : IsP K H (.bl b) (.bl b)
 | int {i} : IsP K H (.int i) (.int i)
 | str {z} : IsP K H (.str z) (.str z)
 | tup {l : List Dt} {a : Addr} {xs : List V} : SqT K H a xs → Pl H a → IsPs K H l xs → IsP K H (.tup l) (.ref a)
inductive IsPs (K : PySem.W.Frag) (H : Hp) : List Dt → List V → Prop
 | nil : IsPs K H [] []
 | cons {d : Dt} {l : List Dt} {x : V} {xs : List V} : IsP K H d x → IsPs K H l xs → IsPs K H (d :: l) (x :: xs)
end
section
variable {K : PySem.W.Frag} {H H' : Hp}
mutual
theorem IsP.d : ∀ {d : Dt} {v : V},IsP K H d v → IsD K H d v
 | _,_,.non => .non
 | _,_,.bl => .bl
 | _,_,.int => .int
 | _,_,.str => .str
 | _,_,.tup h _ r => .tup h (IsPs.d r)
theorem IsPs.d : ∀ {l : List Dt} {xs : List V},IsPs K H l xs → IsDs K H l xs
 | _,_,.nil => .nil
 | _,_,.cons h r => .cons (IsP.d h) (IsPs.d r)
end
theorem Pl.same {a : Addr} (g : Same H H') (h : Pl H a) : Pl H' a := by
 obtain ⟨o,u,e,d⟩ := h
 exact ⟨o,u,g _ _ e,d⟩
theorem Pl.but {a r : Addr} {ys : List V} (hr : H r = some (.lst ys)) (g : But r H H') (h : Pl H a) : Pl H' a := by
 obtain ⟨o,u,e,d⟩ := h
 exact ⟨o,u,g _ _ (ne_of e hr (by intro z; cases z)) e,d⟩
mutual
theorem IsP.same (g : Same H H') : ∀ {d : Dt} {v : V},IsP K H d v → IsP K H' d v
 | _,_,.non => .non
 | _,_,.bl => .bl
 | _,_,.int => .int
 | _,_,.str => .str
 | _,_,.tup h p r => .tup (g.tup h) (p.same g) (IsPs.same g r)
theorem IsPs.same (g : Same H H') : ∀ {l : List Dt} {xs : List V},IsPs K H l xs → IsPs K H' l xs
 | _,_,.nil => .nil
 | _,_,.cons h r => .cons (IsP.same g h) (IsPs.same g r)
end
mutual
theorem IsP.but {r : Addr} {ys : List V} (hr : H r = some (.lst ys)) (g : But r H H') : ∀ {d : Dt} {v : V},IsP K H d v → IsP K H' d v
 | _,_,.non => .non
 | _,_,.bl => .bl
 | _,_,.int => .int
 | _,_,.str => .str
 | _,_,.tup h p q => .tup (by
   rcases sqT_ne hr h with n | n
   ·exact g.tup n h
   ·exact n _) (p.but hr g) (IsPs.but hr g q)
theorem IsPs.but {r : Addr} {ys : List V} (hr : H r = some (.lst ys)) (g : But r H H') : ∀ {l : List Dt} {xs : List V},IsPs K H l xs → IsPs K H' l xs
 | _,_,.nil => .nil
 | _,_,.cons h q => .cons (IsP.but hr g h) (IsPs.but hr g q)
end
theorem IsPs.length {l : List Dt} {xs : List V} (h : IsPs K H l xs) : l.length = xs.length := h.d.length
theorem IsPs.get {l : List Dt} {xs : List V} (h : IsPs K H l xs) {i : Nat} {d : Dt} (e : l[i]? = some d) : ∃ x,xs[i]? = some x ∧ IsP K H d x := by
 induction l generalizing xs i with
 | nil => simp at e
 | cons c l ih =>
  cases h with
  | cons h r =>
   cases i with
   | zero => simp at e; subst e; exact ⟨_,rfl,h⟩
   | succ i => exact ih r (by simpa using e)
theorem IsPs.get' {l : List Dt} {xs : List V} (h : IsPs K H l xs) {i : Nat} {x : V} (e : xs[i]? = some x) : ∃ d,l[i]? = some d ∧ IsP K H d x := by
 induction l generalizing xs i with
 | nil => cases h; simp at e
 | cons c l ih =>
  cases h with
  | cons h r =>
   cases i with
   | zero => simp at e; subst e; exact ⟨_,rfl,h⟩
   | succ i => exact ih r (by simpa using e)
theorem IsPs.append {l m : List Dt} {xs ys : List V} (h : IsPs K H l xs) (h' : IsPs K H m ys) : IsPs K H (l ++ m) (xs ++ ys) := by
 induction l generalizing xs with
 | nil => cases h; exact h'
 | cons d l ih => cases h with | cons h r => exact .cons h (ih r)
theorem IsPs.drop : ∀ {l : List Dt} {xs : List V} (n : Nat),IsPs K H l xs → IsPs K H (l.drop n) (xs.drop n)
 | _,_,0,h => h
 | _,_,_ + 1,.nil => .nil
 | _,_,n + 1,.cons _ r => IsPs.drop n r
theorem IsPs.take : ∀ {l : List Dt} {xs : List V} (n : Nat),IsPs K H l xs → IsPs K H (l.take n) (xs.take n)
 | _,_,0,_ => .nil
 | _,_,_ + 1,.nil => .nil
 | _,_,n + 1,.cons h r => .cons h (IsPs.take n r)
theorem IsP.unref {l : List Dt} {v : V} (h : IsP K H (.tup l) v) : ∃ a xs,v = .ref a ∧ SqT K H a xs ∧ Pl H a ∧ IsPs K H l xs := by
 cases h with
 | tup h p r => exact ⟨_,_,rfl,h,p,r⟩
end
noncomputable def plO (xs : List V) (us : List Value) : HO := .frz { cls := .type "tuple",data := .seq us.toArray } (.tup xs)
section
variable {X : Cx} {pins : List (Addr × Obj)} {σ : St} {H : Hp} {s : Shared}
theorem Inv.plain {xs : List V} {us : List Value} {t' : Nat} (I : Inv X pins σ H s) (r : Vals xs us) (z : xs.length ≤ sizeLine) :
  Inv X pins σ (upd H s.heap.objs.size (plO xs us)) { s with heap := s.heap.push { cls := .type "tuple",data := .seq us.toArray },toks := t' } ∧ H s.heap.objs.size = none :=
 ⟨I.laid (t' := t') (fun b ob q => Heap.get?_push_of_some _ q) (Nat.le_refl _) ⟨Heap.get?_push_size _ rfl,z,us,r,IsTup.new _ _⟩,I.hok.fresh (Nat.le_refl _)⟩
theorem plain_is {p : Addr} {l : List Dt} {xs : List V} {us : List Value} (hf : H p = none) (d : IsPs X.K H l xs) : Same H (upd H p (plO xs us)) ∧ IsP X.K (upd H p (plO xs us)) (.tup l) (.ref p) :=
 ⟨same_new hf _,.tup (.inl (.inr ⟨_,upd_same⟩)) ⟨_,_,upd_same,rfl⟩ (d.same (same_new hf _))⟩
variable {e : Expr} {es : List Expr} {t : TA} {pos : Pos}
inductive ITup (K : PySem.W.Frag) (xs : List V) (H1 : Hp) (Q : VK) : Prop
 | mk (l : List Dt) : (IsPs K H1 l xs) → (xs.length ≤ sizeLine) → (∀ v H',Same H1 H' → IsP K H' (.tup l) v → Q v H') → ITup K xs H1 Q
noncomputable def tTupP (K : PySem.W.Frag) (t : TA) : TE := fun σ H Q => t σ H fun xs H1 => ITup K xs H1 Q
theorem pe_tupP {x1} (h : PA X es t) : PE X (.Tuple es x1 pos) (tTupP X.K t) := by
 intro pins s σ H Q I hq
 refine wpAny_Tuple_spliced (thn (h pos pins s σ H _ I hq) fun us s1 ⟨xs,H1,I1,r,l,d,z,q⟩ => ⟨by rw [← r.length]; exact z,?_⟩)
 obtain ⟨I2,hf⟩ := I1.plain (t' := s1.toks) r z
 obtain ⟨g,dp⟩ := plain_is (X := X) (us := us) hf d
 exact ⟨.ref s1.heap.objs.size,_,I2,rfl,q _ _ g dp⟩
theorem call_tupleP : CallR X (.type "tuple") (fun xs H Q => ∃ p ys l,xs = [.ref p] ∧ SqL X.K H p ys ∧ IsPs X.K H l ys ∧ ∀ v H',Same H H' → IsP X.K H' (.tup l) v → Q v H') := by
 intro pins s σ H xs us Q I r h
 obtain ⟨p,ys,l,rfl,hq,d,q⟩ := h
 obtain ⟨u,rfl,rx⟩ := vals1 r
 cases rx
 obtain ⟨its,r',pl,hz⟩ := I.list hq
 have hlen := r'.length
 refine call_tuple_list pl.isList (fun h' kp => ?_) (by simp only [List.size_toArray] <;> lia)
 have I1 : Inv X pins σ H { s with heap := h' } := I.kept (t' := s.toks) kp
 obtain ⟨I2,hf⟩ := I1.plain (t' := s.toks) r' hz
 obtain ⟨g,dp⟩ := plain_is (X := X) (us := its) hf d
 exact ⟨.ref h'.objs.size,_,I2,rfl,q _ _ g dp⟩
theorem op_catP : OpR X (binaryOp .Add) (fun x y H Q => ∃ l m,IsP X.K H (.tup l) x ∧ IsP X.K H (.tup m) y ∧ l.length + m.length ≤ sizeLine ∧ ∀ v H',Same H H' → IsP X.K H' (.tup (l ++ m)) v → Q v H') := by
 intro pins s σ H x y v u Q I rx ry h
 obtain ⟨l,m,dx,dy,hz,q⟩ := h
 obtain ⟨a,xs,rfl,ha,pa,ra⟩ := dx.unref
 obtain ⟨b,ys,rfl,hb,pb,rb⟩ := dy.unref
 cases rx
 cases ry
 obtain ⟨its,r1,p1,_⟩ := I.tuple ha
 obtain ⟨its2,r2,p2,_⟩ := I.tuple hb
 have e1 := ra.length
 have e2 := rb.length
 by_cases hx : xs = []
 ·subst hx
  have hi : its = [] := r1.nil_iff.mpr rfl
  subst hi
  have hl : l = [] := List.length_eq_zero_iff.mp (by rw [e1]; rfl)
  subst hl
  exact HT.cat_nil p1 p2 ⟨.ref b,H,I,rfl,q _ H (Same.refl H) dy⟩
 ·refine HT.cat_tup p1 p2 (fun z => hx (r1.nil_iff.mp z)) (fun z => ?_) (fun z => ?_) (by rw [← r1.length,← r2.length,← e1,← e2]; exact hz)
  ·have hy := r2.nil_iff.mp z
   subst hy
   have hm : m = [] := List.length_eq_zero_iff.mp (by rw [e2]; rfl)
   subst hm
   exact ⟨.ref a,H,I,rfl,q _ H (Same.refl H) (by rw [List.append_nil]; exact dx)⟩
  ·obtain ⟨I2,hf⟩ := I.plain (t' := s.toks) (r1.append r2) (by rw [List.length_append,← e1,← e2]; exact hz)
   obtain ⟨g,dp⟩ := plain_is (X := X) (us := its ++ its2) hf (ra.append rb)
   exact ⟨.ref s.heap.objs.size,_,I2,rfl,q _ _ g dp⟩
theorem sl_tupP : SlR X (fun x lo hi H Q => ∃ l,IsP X.K H (.tup l) x ∧ ∀ v H',Same H H' → IsP X.K H' (.tup (cutD l lo hi)) v → Q v H') := by
 intro pins s σ H x v vl vu lo hi sl Q I rx hs pl pu h
 obtain ⟨l,dx,q⟩ := h
 obtain ⟨a,xs,rfl,hx,pa,ra⟩ := id dx.unref
 cases rx
 have e1 := ra.length
 obtain ⟨its,r,ht,hz⟩ := I.tuple hx
 have hlen : its.toArray.size = xs.length := by rw [List.size_toArray]; exact r.length.symm
 refine ⟨"tuple",_,PyProof.Rows.slot_tuple_getitem.lookup,ht.typeIs,?_⟩
 by_cases hw : HT.sIx xs.length 0 lo = 0 ∧ HT.sIx xs.length xs.length hi = xs.length
 ·refine HT.getItem_tuple_all ht hs pl pu (by rw [hlen]; exact hw.1) (by rw [hlen]; exact hw.2) ⟨.ref a,H,I,rfl,q _ H (Same.refl H) ?_⟩
  have e : cutD l lo hi = l := by
   unfold cutD
   rw [e1,hw.1,hw.2,List.drop_zero,Nat.sub_zero,← e1,List.take_length]
  rw [e]
  exact dx
 ·refine HT.getItem_tuple_cut ht hs pl pu (by rw [hlen]; exact hw) ?_ (by rw [hlen]; exact hz)
  rw [hlen]
  obtain ⟨I2,hf⟩ := I.plain (t' := s.toks) ((r.drop (HT.sIx xs.length 0 lo)).take (HT.sIx xs.length xs.length hi - HT.sIx xs.length 0 lo)) (Nat.le_trans (cutV_length xs lo hi) hz)
  have d2 : IsPs X.K H (cutD l lo hi) (cutV xs lo hi) := by
   unfold cutD cutV
   rw [e1]
   exact (ra.drop _).take _
  obtain ⟨g,dp⟩ := plain_is (X := X) (us := (its.drop (HT.sIx xs.length 0 lo)).take (HT.sIx xs.length xs.length hi - HT.sIx xs.length 0 lo)) hf d2
  exact ⟨.ref s.heap.objs.size,_,I2,rfl,q _ _ g dp⟩
theorem ix_tupP : IxR X (fun x y H Q => ∃ l i d,IsP X.K H (.tup l) x ∧ y = .int i ∧ atI l i = some d ∧ ∀ v,IsP X.K H d v → Q v H) := by
 intro value slice pins s σ H x y v u Q I rx ry h hs
 obtain ⟨l,i,d,dx,rfl,ha,q⟩ := h
 obtain ⟨a,xs,rfl,hx,pa,ra⟩ := id dx.unref
 obtain ⟨j,hj,hd,_⟩ := atI_get ha
 have e1 := ra.length
 obtain ⟨w',hw,dw⟩ := ra.get hd
 have hat : atI xs i = some w' := by
  unfold atI at ha ⊢
  rw [← e1]
  cases z : ixN l.length i with
  | none => rw [z] at ha; cases ha
  | some j' =>
   rw [z] at ha
   have ha' : l[j']? = some d := ha
   obtain ⟨w2,hw2,dw2⟩ := ra.get ha'
   have z2 := ixN_seq z
   rw [hj] at z2
   have : j = j' := Option.some.inj z2.1
   subst this
   exact hw
 exact ix_tup value slice pins s σ H (.ref a) (.int i) v u Q I rx ry ⟨a,xs,i,w',rfl,rfl,hx,hat,q w' dw⟩ hs
theorem op_mulB : OpR X (binaryOp .Mult) (rI IntMulOk fun i j => .int (i * j)) := opI fun _ _ _ _ _ _ _ hc q => mul_int q hc
end
end L2
set_option Elab.async false
set_option linter.all false
set_option maxRecDepth 100000
set_option maxHeartbeats 4000000
namespace L2
open PySem PySem.Spec PyProof.Rows
noncomputable def lookS (fs : List (Str × Dt)) (z : Str) : Option Dt := (fs.find? fun p => decide (p.1 = z)).map (·.2)
noncomputable abbrev prD (p : Str × Dt) : Dt := .tup [.str p.1,p.2]
noncomputable def DicP (K : PySem.W.Frag) (H : Hp) (p : Addr) (fs : List (Str × Dt)) : Prop :=
 ∃ kvs,H p = some (.dK kvs) ∧ ∀ z,(lookS fs z = none → valV kvs (Sum.inr z : Key) = none) ∧ ∀ d,lookS fs z = some d → ∃ v,valV kvs (Sum.inr z : Key) = some v ∧ IsP K H d v
section
variable {X : Cx} {pins : List (Addr × Obj)} {σ : St} {H : Hp} {s : Shared}
theorem pairs_of (I : Inv X pins σ H s) : ∀ {fs : List (Str × Dt)} {xs : List V} {its : List Value},IsPs X.K H (fs.map prD) xs → Vals xs its →
  ∃ (kvs : List (Key × V)) (vs : List (Key × Value)),KV kvs vs ∧ kvs.map (·.1) = fs.map (fun p => Sum.inr p.1) ∧ kvs.length = fs.length ∧
   (∀ z,(lookS fs z = none → valV kvs (Sum.inr z : Key) = none) ∧ ∀ d,lookS fs z = some d → ∃ v,valV kvs (Sum.inr z : Key) = some v ∧ IsP X.K H d v) ∧
   its.length = vs.length ∧ ∀ (i : Nat) (kv : Key × Value),vs[i]? = some kv → ∃ (a : Addr) (key : Value),its[i]? = some (.ref a) ∧ s.heap.IsTuple a #[key,kv.2] ∧ (mixKind X.prog X.w).is kv.1 key = true := by
 intro fs
 induction fs with
 | nil =>
  intro xs its h r
  cases h
  cases r
  exact ⟨[],[],.nil,rfl,rfl,fun z => ⟨fun _ => rfl,fun d q => by cases q⟩,rfl,fun i kv q => by simp at q⟩
 | cons f fs ih =>
  intro xs its h r
  cases h with
  | cons h1 h2 =>
   cases r with
   | cons r1 r2 =>
    obtain ⟨kvs,vs,e1,e2,e3,e4,e5,e6⟩ := ih h2 r2
    obtain ⟨a,ys,rfl,ha,pa,ra⟩ := h1.unref
    cases r1
    obtain ⟨its',r',p',_⟩ := I.tuple ha
    cases ra with
    | cons d1 ra =>
     cases ra with
     | @cons _ _ v _ d2 ra =>
      cases ra
      cases d1
      cases r' with
      | cons q1 r' =>
       cases r' with
       | @cons _ u _ _ q2 r' =>
        cases r'
        obtain ⟨tk,rfl⟩ := q1
        refine ⟨(Sum.inr f.1,v) :: kvs,(Sum.inr f.1,u) :: vs,.cons ⟨rfl,q2⟩ e1,by simp [e2],by simp [e3],fun z => ?_,by simp [e5],fun i kv q => ?_⟩
        ·by_cases hz : f.1 = z
         ·subst hz
          have l1 : lookS (f :: fs) f.1 = some f.2 := by simp [lookS]
          have l2 : valV ((Sum.inr f.1,v) :: kvs) (Sum.inr f.1 : Key) = some v := by simp [valV]
          exact ⟨fun q => (by rw [l1] at q; cases q),fun d q => (by rw [l1] at q; cases q; exact ⟨v,l2,d2⟩)⟩
         ·have l1 : lookS (f :: fs) z = lookS fs z := by simp [lookS,hz]
          have l2 : valV ((Sum.inr f.1,v) :: kvs) (Sum.inr z : Key) = valV kvs (Sum.inr z : Key) := by simp [valV,hz]
          rw [l1,l2]
          exact e4 z
        ·cases i with
         | zero =>
          simp at q
          subst q
          exact ⟨a,_,rfl,p',kV_is (k := Sum.inr f.1) ⟨tk,rfl⟩⟩
         | succ i => exact e6 i kv (by simpa using q)
theorem call_dictP (hc : X.calm = true) : CallR X (.type "dict") (fun xs H Q => ∃ x fs,xs = [x] ∧ IsP X.K H (.tup (fs.map prD)) x ∧ (fs.map (·.1)).Nodup ∧ fs.length ≤ 1000 ∧ ∀ p H',Same H H' → DicP X.K H' p fs → Q (.ref p) H') := by
 intro pins s σ H xs us Q I r h
 obtain ⟨x,fs,rfl,dx,nd,hz,q⟩ := h
 obtain ⟨u,rfl,rx⟩ := vals1 r
 obtain ⟨a,ys,rfl,ha,⟨o,ho,eo,dn⟩,ra⟩ := dx.unref
 cases rx
 obtain ⟨its,r',⟨o',e',c',n',d'⟩,_⟩ := I.tuple ha
 have e0 : s.heap.get? a = some o := (I.hok a _ eo).1
 rw [e0] at e'
 obtain rfl := Option.some.inj e'
 obtain ⟨kvs,vs,k1,k2,k3,k4,k5,k6⟩ := pairs_of I ra r'
 have hl : vs.length = fs.length := by rw [← k1.length,k3]
 have big := I.big
 refine call_dict_pairs (knd := mixKind X.prog X.w) (kvs := vs) (I.ok.hd hc) e0 c' d' dn ⟨by rw [List.size_toArray]; exact k5,fun i kv z => ?_⟩ (Nat.le_trans (Nat.add_le_add (hl ▸ hz) (hl ▸ hz)) (by decide)) fun h' tk dd kp => ?_
 ·obtain ⟨b,key,z1,z2,z3⟩ := k6 i kv z
  exact ⟨b,key,by simpa using z1,z2,z3⟩
 ·have ndv : (vs.map (·.1)).Nodup := by
   rw [← k1.keys,k2]
   have z : fs.map (fun p => (Sum.inr p.1 : Key)) = (fs.map (·.1)).map Sum.inr := by rw [List.map_map]; rfl
   rw [z]
   exact List.Pairwise.map _ (fun a b n q => n (Sum.inr.inj q)) nd
  rw [merged_nil_of_nodup vs ndv] at dd
  have hf := I.hok.fresh (Nat.le_refl s.heap.objs.size)
  have I2 : Inv X pins σ (upd H s.heap.objs.size (.dK kvs)) { s with heap := h',toks := tk } := I.laid (t' := tk) kp (Nat.le_refl _)
   (dk_new (by rw [k3]; exact Nat.le_of_lt (small1000 hz)) (by simp; exact Nat.ne_of_gt big) k1 dd)
  refine ⟨.ref s.heap.objs.size,_,I2,rfl,q _ _ (same_new hf _) ⟨kvs,upd_same,fun z => ⟨(k4 z).1,fun d l => ?_⟩⟩⟩
  obtain ⟨v,l1,l2⟩ := (k4 z).2 d l
  exact ⟨v,l1,l2.same (same_new hf _)⟩
end
end L2
set_option Elab.async false
set_option linter.all false
set_option maxRecDepth 100000
set_option maxHeartbeats 4000000
namespace PySem
open Sem (wp)
open Builtin
section
variable {prog : Program} {w : World} {A : Around} {E : Value → Shared → Prop} {s : Shared}
end
end PySem
namespace L2
open PySem PySem.Spec PyProof.Rows
section
variable {X : Cx}
noncomputable def Itr3 (lo c : Int) (n : Nat) : It := ⟨fun i _ => i < n,fun i H x H' => H' = H ∧ x = .int (lo + i * c),fun i _ => n ≤ i⟩
theorem turn_range3 {P : Program} {w : World} {K : PySem.W.Frag} {tg : Expr} (it : Addr) (lo c : Int) (n : Nat) : Turn P w K tg (Itr3 lo c n) [it] it (fun i h => IsRangeIter h it (lo + (i : Nat) * c) ((n : Int) - (i : Nat)) c) where
 mem := by simp
 obj := fun i h st b hb => by
  have e : b = it := by simpa using hb
  subst e
  exact ⟨_,st,fun v z => by
   have z' : Data.fields _ = Data.cell v := z
   cases z'⟩
 keep := fun i h h' st k => k it (by simp) _ st
 item := by
  intro X hP hw hK hc i pins s σ H E I hf st hg
  subst hP hw hK
  obtain ⟨f0,f1,f2,f3,f4,f5⟩ := hf it (by simp)
  have W := Walks.range (prog := X.prog) (w := X.w) (I.ok.hd hc) it lo c n
  refine W.item i s _ _ hg st fun v h' tk hv st' kk => ?_
  obtain ⟨t,rfl⟩ := hv
  have I1 : Inv X pins σ H { s with heap := h',toks := tk } := I.turned (fun b o hb e => kk b o (by simpa using hb) e) f0 f1 f3 f4 f5
  exact ⟨_,rfl,go_of (s := { s with heap := h',toks := tk }) (n := "range_iterator") st' rfl rfl (by decide) ⟨.int (lo + i * c),H,I1,⟨t,rfl⟩,⟨rfl,rfl⟩,st',fun b hb => (hf b hb).1⟩⟩
 done := by
  intro X hP hw hK hc i pins s σ H E I hf st hg
  subst hP hw hK
  obtain ⟨f0,f1,f2,f3,f4,f5⟩ := hf it (by simp)
  exact wpAny_pyNext_range_end (I.ok.hd hc) st (by have : n ≤ i := hg; lia) fun h' eb => ⟨rfl,I.turned (t' := s.toks) (fun b o hb e => eb b o hb e) f0 f1 f3 f4 f5⟩
 self := fun _ _ _ _ _ st h => wpAny_pyIter_rangeiter st h
noncomputable def rngN (a b c : Int) : Nat := (Builtin.Range.rangeSize a b c).toNat
theorem rngN_lt {a b c : Int} (hc : 0 < c) {i : Nat} (h : i < rngN a b c) : a + i * c < b := by
 unfold rngN Builtin.Range.rangeSize at h
 rw [if_pos (show c > 0 from hc)] at h
 by_cases hab : a < b
 ·rw [if_pos hab] at h
  have h1 : (0 : Int) ≤ (b - a - 1) / c := Int.ediv_nonneg (by lia) (by lia)
  have h2 : (i : Int) ≤ (b - a - 1) / c := by lia
  have h3 : (i : Int) * c ≤ b - a - 1 := Int.le_trans (Int.mul_le_mul_of_nonneg_right h2 (by lia)) (Int.ediv_mul_le _ (by lia))
  lia
 ·rw [if_neg hab] at h
  simp at h
theorem rngN_le {a b c : Int} (hc : 0 < c) : (rngN a b c : Int) ≤ if a < b then b - a else 0 := by
 unfold rngN Builtin.Range.rangeSize
 rw [if_pos (show c > 0 from hc)]
 by_cases hab : a < b
 ·rw [if_pos hab,if_pos hab]
  have h1 : (0 : Int) ≤ (b - a - 1) / c := Int.ediv_nonneg (by lia) (by lia)
  have h2 : (b - a - 1) / c ≤ b - a - 1 := Int.ediv_le_self _ (by lia)
  lia
 ·rw [if_neg hab,if_neg hab]; simp
variable {tg : Expr}
noncomputable def iRng3 (ta : TA) : TI := fun σ H R => ta σ H fun vs H1 => ∃ i j c : Int,vs = [.int i,.int j,.int c] ∧ (0 ≤ i ∧ i < 2 ^ 62 ∧ 0 ≤ j ∧ j < 2 ^ 62 ∧ 0 < c ∧ c < 1073741824) ∧ R (Itr3 i c (rngN i j c)) H1
theorem pi_range3 {a b c : Expr} {ta : TA} {p pos : Pos} (hg : Gl X "range") (hm : X.mg "range" = none) (ha : PA X [a,b,c] ta) (hs : starEach [a,b,c] X.env = [(false,eval a X.env),(false,eval b X.env),(false,eval c X.env)] := by rfl) (hs2 : starEach [b,c] X.env = [(false,eval b X.env),(false,eval c X.env)] := by rfl) :
  PI X tg (.Call (.Name "range" p) [a,b,c] [] pos) (iRng3 ta) := by
 intro pins s σ H R I h
 refine Call_ (ld_blt I hg hm boot_range (PyProof.Rows.callWith_type1 (thn (ha pos pins s σ H _ I h) fun us s1 ⟨vs,H1,I1,r1,q1⟩ => ?_) (by rw [hs,hs2]) (by rw [hs2]; rfl)))
 obtain ⟨i,j,c,e,⟨q1,q2,q3,q4,q5,q6⟩,q⟩ := q1
 subst e
 cases r1 with
 | cons r rr =>
  cases rr with
  | cons r' rr =>
   cases rr with
   | cons r'' rr =>
    cases rr
    obtain ⟨t,rfl⟩ := r
    obtain ⟨t',rfl⟩ := r'
    obtain ⟨t'',rfl⟩ := r''
    have hn0 := rngN_le (a := i) (b := j) q5
    have hsz : Builtin.Range.rangeSize i j c = ((rngN i j c : Nat) : Int) := rangeSize_toNat i j c
    have hn : (rngN i j c : Int) < 2 ^ 62 := by
     split at hn0 <;> lia
    refine call_range_3 (by lia) ?_ (.inl (PyProof.noPylong_small (by lia)))
    have sm : Builtin.Range.small i j c = true := by
     unfold Builtin.Range.small Builtin.Range.rangeFitsLong
     rw [hsz,if_pos (show c > 0 from q5)]
     simp only [Bool.and_eq_true,Bool.or_eq_true,decide_eq_true_eq,beq_iff_eq]
     refine ⟨⟨⟨⟨⟨?_,?_⟩,?_,?_⟩,?_,?_⟩,?_,?_⟩,.inr ⟨?_,?_⟩⟩ <;> lia
    refine wpAny_pyIter_range (IsRange.new ..) sm ?_
    have I2 : Inv X pins σ H1 { s1 with heap := s1.heap.push { cls := .type "range",data := .fields #[.int i t,.int j t',.int c t''] } } := I1.kept (t' := s1.toks) fun b o e => Heap.get?_push_of_some _ e
    refine ⟨(s1.heap.push { cls := .type "range",data := .fields #[.int i t,.int j t',.int c t''] }).objs.size,[(s1.heap.push { cls := .type "range",data := .fields #[.int i t,.int j t',.int c t''] }).objs.size],_,_,H1,rfl,
     I2.kept (t' := s1.toks) fun b o e => Heap.get?_push_of_some _ e,turn_range3 _ i c (rngN i j c),?_,fun b hb => ?_,q⟩
    ·have e1 : i + ((0 : Nat) : Int) * c = i := by simp
     have e2 : ((rngN i j c : Nat) : Int) - ((0 : Nat) : Int) = Builtin.Range.rangeSize i j c := by rw [hsz]; simp
     show IsRangeIter _ _ (i + ((0 : Nat) : Int) * c) (((rngN i j c : Nat) : Int) - ((0 : Nat) : Int)) c
     rw [e1,e2]
     exact Heap.get?_push_size _ rfl
    ·have e : b = (s1.heap.push { cls := .type "range",data := .fields #[.int i t,.int j t',.int c t''] }).objs.size := by simpa using hb
     subst e
     exact I2.fpOk (Nat.le_refl _) (I2.hok.fresh (Nat.le_refl _))
end
end L2
set_option Elab.async false
set_option linter.all false
set_option maxRecDepth 100000
set_option maxHeartbeats 4000000
namespace L2
open PySem PySem.Spec PyProof.Rows
theorem u1 {A : Around} (h : A.units + 64 < cLine) : A.units + 1 < cLine := by lia
theorem fn_none {P : Program} {w : World} {K : PySem.W.Frag} {mg : Str → Option Value} {base : Heap} {CX : CXT} {k : Nat} {f : Addr} {fd : FuncData} {ps : List Str} {sp : Sp} (h : ∀ vs H Q E,¬ sp vs H Q E) : FnOk P w K mg base CX k f fd ps sp :=
 ⟨fun vs H Q E z => (h vs H Q E z).elim,fun A outer s H args us vs Q E hr e0 hb r z => (h vs H Q E z).elim⟩
theorem bits_lt {a : Int} {m : Nat} (h0 : 0 ≤ a) (h : a < 2 ^ m) : Builtin.Int.intBits a ≤ m := by
 refine intBits_le_iff.mpr ?_
 have e : ((a.natAbs : Nat) : Int) = a := Int.natAbs_of_nonneg h0
 have h' : ((a.natAbs : Nat) : Int) < ((2 ^ m : Nat) : Int) := by rw [e]; simpa using h
 exact Int.ofNat_lt.mp h'
end L2
set_option Elab.async false
set_option linter.all false
set_option maxRecDepth 100000
namespace L2
open PySem PySem.Spec PyProof.Rows
end L2
set_option Elab.async false
set_option linter.all false
set_option maxRecDepth 100000
namespace L2
open PySem PySem.Spec PyProof.Rows
section
variable {X : Cx}
theorem op_fdivB : OpR X (binaryOp .FloorDiv) (rI (fun _ j => 0 < j ∧ j < 10000000000000000000000000000000000000000000000000000000000000) fun i j => .int (i / j)) := opI fun i j _ _ _ _ _ hc q => by
 have h1 : (0 : Int) < j := hc.1
 have h2 : j < 10000000000000000000000000000000000000000000000000000000000000 := hc.2
 refine floordiv_int (by lia) (by rw [Int.fdiv_eq_ediv_of_nonneg i (by lia)]; exact q) (.inl (PyProof.noPylong_of_log2 ?_))
 have h3 : j.natAbs < 2 ^ 9000 := Nat.lt_of_lt_of_le (show j.natAbs < 10000000000000000000000000000000000000000000000000000000000000 by lia) (by decide +kernel)
 exact (Nat.log2_lt (by lia)).mpr h3
inductive ICatS (K : PySem.W.Frag) (x y : V) (H : Hp) (Q : VK) : Prop
 | mk (l b : Addr) (xs zs : List V) : (x = .ref l) → (y = .ref b) → (SqL K H l xs) → (SqL K H b zs) → (xs.length + zs.length ≤ sizeLine) → (∀ p,H p = none → Q (.ref p) (upd H p (.lst (xs ++ zs)))) → ICatS K x y H Q
noncomputable def rCatS (K : PySem.W.Frag) : R2 := fun x y H Q => ICatS K x y H Q
theorem op_catS : OpR X (binaryOp .Add) (rCatS X.K) := by
 intro pins s σ H x y v u Q I rx ry h
 obtain ⟨l,b,xs,zs,rfl,rfl,hH,hB,hz,q⟩ := h
 cases rx
 cases ry
 obtain ⟨its,r,pl,z⟩ := I.list hH
 obtain ⟨its2,r2,pl2,z2⟩ := I.list hB
 obtain ⟨⟨cls,dd,data,sl⟩,ho,hc,n,hd⟩ := pl.isList
 obtain ⟨⟨cls2,dd2,data2,sl2⟩,ho2,hc2,n2,hd2⟩ := pl2.isList
 simp only at hc hd hc2 hd2
 subst hc hd hc2 hd2
 have l1 := r.length
 have l2 := r2.length
 have ea : its.toArray ++ its2.toArray = (its ++ its2).toArray := by simp
 refine concat_meets ⟨_,ho,rfl⟩ ⟨_,ho2,rfl⟩ noFill_list_add seq_list_add PySem.F.slot_list_add PySem.F.entry_list_add (PySem.F.args_list_add_2 _ _) (list_addW l b its.toArray its2.toArray n n2 dd dd2 sl sl2 (by simp only [List.size_toArray]; lia)) ⟨ho,ho2,?_⟩
 rw [ea]
 exact ⟨.ref _,_,I.lnew (t' := s.toks) (r.append r2) (by rw [List.length_append]; lia),rfl,q _ I.fresh⟩
end
open PySem.NumText
noncomputable def dg (m : Nat) : List Nat := (Nat.toDigits 10 m).map Char.toNat
noncomputable def strI (n : Int) : List Nat := if n < 0 then 45 :: dg n.natAbs else dg n.natAbs
theorem str_int (n : Int) : (Str.ofString (toString n)).cps.toList = strI n := by
 rw [signs_ofString]
 cases n with
 | ofNat m =>
  have : ¬ (Int.ofNat m < 0) := by simp
  unfold strI
  rw [if_neg this]
  show (Nat.repr m).toList.map Char.toNat = _
  rw [Nat.toList_repr]
  rfl
 | negSucc m =>
  have : Int.negSucc m < 0 := Int.negSucc_lt_zero m
  unfold strI
  rw [if_pos this]
  show ("-" ++ Nat.repr (m + 1)).toList.map Char.toNat = _
  rw [String.toList_append,List.map_append,Nat.toList_repr]
  rfl
end L2
set_option Elab.async false
set_option linter.all false
set_option maxRecDepth 100000
namespace L2
open PySem PySem.Spec PyProof.Rows
section
variable {X : Cx} {pins : List (Addr × Obj)} {σ : St} {H : Hp} {s : Shared} {h' : Heap}
end
section
variable {X : Cx} {elts : List Expr} {k : Nat} {tpos : Pos}
end
end L2
set_option Elab.async false
set_option linter.all false
set_option maxRecDepth 100000
namespace L2
open PySem PySem.Spec PyProof.Rows
noncomputable def met : List Key → List Key
 | [] => []
 | k :: r => if r.any (fun j => decide (j = k)) then met r else k :: met r
section
variable {P : Program} {w : World} {A : Around} {R : Result → Shared → Prop} {it : Addr} {fp wr : List Addr} {G : Array GenState → Array GenState → Prop} {n : Nat} {Pt : Nat → Value → Prop} {St : Nat → Shared → Prop}
noncomputable abbrev SetK (P : Program) (w : World) (h : Heap) (a : Addr) (l : List Key) : Prop := h.SetOf (mixKind P w) a (fun k => l.any fun j => decide (j = k)) l.length
end
section
variable {P : Program} {w : World} {A : Around} {E : Value → Shared → Prop} {s : Shared}
end
end L2
set_option Elab.async false
set_option linter.all false
set_option maxRecDepth 100000
namespace L2
open PySem PySem.Spec PyProof.Rows
section
variable {X : Cx}
end
end L2
set_option Elab.async false
set_option linter.all false
set_option maxRecDepth 100000
namespace L2
open PySem PySem.Spec PyProof.Rows
section
variable {K : PySem.W.Frag} {a b l : Addr} {xs ys : List V} {g : TG} {tb : List V → Addr → St → Hp → (List V → St → Hp → Prop) → Prop} {R : Hp → Prop} {σ0 : St} {H0 : Hp}
theorem comp_tupR (Pv : Nat → List V → St → Hp → Prop) (h0 : Pv 0 [] σ0 H0) (hl : ∀ i ys σ H,i ≤ xs.length → Pv i ys σ H → SqT K H a xs)
  (hs : ∀ i x ys σ H (N : List V → St → Hp → Prop),xs[i]? = some x → Pv i ys σ H → (∀ ys' σ' H',Pv (i + 1) ys' σ' H' → N ys' σ' H') → g x σ H fun σ2 H2 => tb ys l σ2 H2 N)
  (hd : ∀ ys σ H,Pv xs.length ys σ H → R H) :
  ∃ W : Nat → Nat → List V → St → Hp → Prop,(∃ m,W 0 m [] σ0 H0) ∧ ∀ i m ys σ' H',W i m ys σ' H' → ((Itt K a).stop i H' ∧ R H') ∨
   ((Itt K a).go i H' ∧ ∀ x H'',(Itt K a).yld i H' x H'' → g x σ' H'' fun σ2 H2 => tb ys l σ2 H2 fun ys' σ3 H3 => ∃ m',m' < m ∧ W (i + 1) m' ys' σ3 H3) := comp_tup (Q := fun _ H => R H) Pv h0 hl hs hd
theorem comp_listR (Pv : Nat → List V → St → Hp → Prop) (h0 : Pv 0 [] σ0 H0) (hl : ∀ i ys σ H,i ≤ xs.length → Pv i ys σ H → SqL K H a xs)
  (hs : ∀ i x ys σ H (N : List V → St → Hp → Prop),xs[i]? = some x → Pv i ys σ H → (∀ ys' σ' H',Pv (i + 1) ys' σ' H' → N ys' σ' H') → g x σ H fun σ2 H2 => tb ys l σ2 H2 N)
  (hd : ∀ ys σ H,Pv xs.length ys σ H → R H) :
  ∃ W : Nat → Nat → List V → St → Hp → Prop,(∃ m,W 0 m [] σ0 H0) ∧ ∀ i m ys σ' H',W i m ys σ' H' → ((Itl K a).stop i H' ∧ R H') ∨
   ((Itl K a).go i H' ∧ ∀ x H'',(Itl K a).yld i H' x H'' → g x σ' H'' fun σ2 H2 => tb ys l σ2 H2 fun ys' σ3 H3 => ∃ m',m' < m ∧ W (i + 1) m' ys' σ3 H3) := comp_list (Q := fun _ H => R H) Pv h0 hl hs hd
end
theorem pg_tupK {X : Cx} {K : PySem.W.Frag} {es : List Expr} {k : Nat} {pos : Pos} {t : TGs} {n : Nat} (hK : X.K = K) (hc : X.calm = true) (h : PGs X es t)
  (hn : (assignEach es X.env).length = n := by rfl) (hst : (assignEach es X.env).findIdx? (·.1) = none := by rfl) : PG X (.Tuple es k pos) (gTup K n t) := by
 subst hK
 exact pg_tup hc h hn hst
end L2
set_option Elab.async false
set_option linter.all false
set_option maxRecDepth 100000
set_option maxHeartbeats 4000000
namespace L2
open PySem PySem.Spec PyProof.Rows
section
variable {X : Cx}
theorem ps_compG {elt tgt iter : Expr} {ifs : List Expr} {scope : Scope} {pos spos py : Pos} {NL N' : List Str} {ρ : List Nat} {wi : TI} {g : TG} {tb : List V → Addr → St → Hp → (List V → St → Hp → Prop) → Prop} {body : Value → Env → Sem Unit} {j : Nat} {y : Str}
  (hN : X.N.Nodup) (hj : X.N[j]? = some y) (hy : Loc X.env.scope y) (hfn : X.fn y = true ∨ X.env.scope.names.lookup y = some .local)
  (hsw : swapsWith (.ListComp elt [⟨tgt,iter,ifs,0⟩] scope pos) (some (.Name y py)) spos.line X.env = pure true)
  (hc : X.calm = true) (S : CScope X scope NL ρ N') (hi : PI X tgt iter wi)
  (hg : ∀ C s₀ H₀ fp,PG (ccx X scope C N' s₀ H₀ fp) tgt g) (hb : ∀ C s₀ H₀ fp,PB (ccx X scope C N' s₀ H₀ fp) (fun acc => body acc (ccx X scope C N' s₀ H₀ fp).env) tb)
  (he : ∀ (it acc : Value) (env : Env),compTurn (.ListComp elt [⟨tgt,iter,ifs,0⟩] scope pos) 0 it acc env = (standAt iter.pos >>= fun _ => pyNext it >>= fun r => match r with
   | none => pure (.done .next)
   | some v => letOwnedTupleGo tgt it v >>= fun _ => assign tgt env v >>= fun _ => body acc env >>= fun _ => again (.compLoop (.ListComp elt [⟨tgt,iter,ifs,0⟩] scope pos) 0 it acc env)))
  (hs : ∀ x,foldedSetIterable iter X.env x = pure x := by intro _; rfl) : PS X (.Assign [.Name y py] (.ListComp elt [⟨tgt,iter,ifs,0⟩] scope pos) spos) (tAsg (tComp NL.length ρ wi g tb) (gName j)) := by
 intro pins s σ H D0 I h
 have free_in : ∀ x ∈ scope.names,x.2 = .free → ∃ c,X.env.cells.lookup x.1 = some c := fun x hx hk => I.ok.has x.1 (S.frees x hx hk)
 rw [exec_Assign_Name_used _ _ _ _ hsw]
 refine wpAny_bind (wpAny_standAt (wpAny_bind ?_))
 rw [arm_evalThenUse_ListComp]
 refine wpAny_bind (thn (Q := fun _ s' => SP X pins D0 .next s') ?_ fun _ s' q0 => wpAny_pure (wpAny_pure q0))
 refine wpAny_comprehension_free (use := some (assign (.Name y py) X.env)) (Q := fun _ s' => SP X pins D0 .next s') rfl hs (closure_is free_in) S.kind S.locs ?_
 refine thn (hi pins s σ H _ I h) fun v s1 h1 => thn h1 fun itv s2 h2 => ?_
 obtain ⟨it,fp,tn,J,H2,e,I2,T,st2,f2,w⟩ := h2
 subst e
 refine wpAny_newObj_type (wpAny_newFunctionEnv S.nocell (by intro y hy; simp at hy) (fun h₁ hns₁ hsb₁ => ?_) S.kind)
 dsimp only at hns₁ hsb₁ ⊢
 generalize hH2 : s2.heap.push { cls := .type "list",dict := none,data := .seq ([] : List Value).toArray } = h2' at hns₁ hsb₁ ⊢
 have hCs : h2'.objs.size = s2.heap.objs.size + 1 := by rw [← hH2,Heap.size_push]
 have hDC : s2.heap.objs.size ≠ h2'.objs.size := by rw [hCs]; exact Nat.ne_of_lt (Nat.lt_succ_self _)
 have hC : s2.heap.objs.size ≤ h2'.objs.size := by rw [hCs]; exact Nat.le_succ _
 have old : ∀ b o,s2.heap.get? b = some o → h₁.get? b = some o := fun b o e => hsb₁.extBut b o (Nat.ne_of_lt (Nat.lt_of_lt_of_le (Heap.lt_size e) hC)) (Heap.get?_push_of_some _ (hH2 ▸ Heap.get?_push_of_some _ e))
 have hd : h₁.get? s2.heap.objs.size = some { cls := .type "list",data := .seq #[] 0 } := hsb₁.extBut _ _ hDC (Heap.get?_push_of_some _ (hH2 ▸ Heap.get?_push_size _ rfl))
 have hfo : ∀ b ∈ fp,∃ o,s2.heap.get? b = some o := fun b hb => let ⟨o,e,_⟩ := T.obj _ _ st2 b hb; ⟨o,e⟩
 have I4 : Inv (ccx X scope h2'.objs.size N' s2 H2 fp) (X.pn ++ pins) (cst NL.length ρ σ) (upd H2 s2.heap.objs.size (.lst [])) { s2 with heap := h₁,toks := s2.toks + ([] : List (Str × Value)).length } :=
  Inv.comp S I2 f2 hfo hC (Nat.le_refl _) hDC old hd (by simpa using hns₁)
 have hD0 : H2 s2.heap.objs.size = none := I2.hok.fresh (Nat.le_refl _)
 have nfp : s2.heap.objs.size ∉ fp := fun z => by
  obtain ⟨o,e⟩ := hfo _ z
  exact absurd (Heap.lt_size e) (Nat.lt_irrefl _)
 obtain ⟨W,⟨m0,w0⟩,turn⟩ := w s2.heap.objs.size hD0
 have stat : ∀ {H' : Hp},(∀ b ∈ fp,H' b = none) → ∀ b ∈ fp,FpOk (ccx X scope h2'.objs.size N' s2 H2 fp) (X.pn ++ pins) H' b := fun {H'} hn b hb => by
  obtain ⟨f0,f1,f2',f3,f4,f5⟩ := f2 b hb
  have ok := I4.ok
  refine ⟨hn b hb,(ok.exf b hb).1,ok.exfs b hb,.inl hb,(ok.exf b hb).2,fun p hp => f5 p hp⟩
 have loop : ∀ s₃ : Shared,s₃ = { s2 with heap := h₁,toks := s2.toks + ([] : List (Str × Value)).length } →
   codeAny (model X.prog X.w) X.A (.compLoop (.ListComp elt [⟨tgt,iter,ifs,0⟩] scope pos) 0 (.ref it) (.ref s2.heap.objs.size) (compEnvC scope (cloOf X.env scope.names []) h2'.objs.size X.env))
    (compPost (model X.prog X.w) X.A X.xe (some (assign (.Name y py) X.env)) (fun _ s' => SP X pins D0 .next s') (.ref s2.heap.objs.size) h2'.objs.size) s₃ := by
  rintro s₃ rfl
  refine codeAny_loop rfl (fun n s' => ∃ i ys σ' H',Inv (ccx X scope h2'.objs.size N' s2 H2 fp) (X.pn ++ pins) σ' H' s' ∧ tn i s'.heap ∧ (∀ b ∈ fp,H' b = none) ∧ W i n ys σ' H') (fun n s3 hI => ?_) m0
   ⟨0,[],_,_,I4,T.keep _ _ _ st2 (fun b _ o e => old b o e),fun b hb => ?_,w0⟩
  ·obtain ⟨i,ys,σ3,H3,I3,st3,fr3,w3⟩ := hI
   show wpAny _ _ ((compTurn (.ListComp elt [⟨tgt,iter,ifs,0⟩] scope pos) 0 (.ref it) (.ref s2.heap.objs.size) (compEnvC scope (cloOf X.env scope.names []) h2'.objs.size X.env)).onRaise (fun x => do noteFrame x _; theTreesLotGoes x)) _ _ s3
   refine wpAny_noted ?_
   rw [he]
   refine wpAny_bind (wpAny_standAt (wpAny_bind ?_))
   rcases turn i n ys σ3 H3 w3 with ⟨stop,qn⟩ | ⟨go,step⟩
   ·refine thn (T.done (ccx X scope h2'.objs.size N' s2 H2 fp) rfl rfl rfl hc i _ s3 σ3 H3 _ I3 (stat fr3) st3 stop) fun r s4 ⟨hr,I5⟩ => ?_
    subst hr
    refine wpAny_pure ?_
    obtain ⟨m,hm,_⟩ := id I5.loc
    have IX : Inv X pins σ H3 { s4 with heap := s4.heap } := Inv.compEnd I2 f2 hC I5 (Heap.SameBut.refl _ _)
    have cne : ∀ x c,X.env.cells.lookup x = some c → c ≠ h2'.objs.size := fun x c ec z => by
     obtain ⟨v0,oc,hoc,_⟩ := I2.cell x c ec
     exact absurd (Nat.lt_of_lt_of_le (Heap.lt_size hoc) hC) (by rw [z]; exact Nat.lt_irrefl _)
    have lne : h2'.objs.size ≠ X.env.locals := Nat.ne_of_gt (Nat.lt_of_lt_of_le I2.lt hC)
    refine wpAny_assign_Name (store_ok2 IX hN hj hy (v := .ref s2.heap.objs.size) rfl (fun s5 I6 ⟨a,sb,ha⟩ => ?_) hfn)
    have na : h2'.objs.size ≠ a := fun z => by
     rcases ha with e | e
     ·exact lne (z.trans e)
     ·exact cne _ _ e z.symm
    refine ⟨m,hm.at' fun o e => (sb.2 _ na).trans e,fun h' hs' => ⟨_,H3,?_,qn⟩⟩
    exact I6.turned (t' := s5.toks) (fun b o hb' e => (hs'.2 b hb').trans e) I5.free lne (.inr (Nat.le_trans I2.sz hC)) cne fun q hq z => by
     obtain ⟨e,_⟩ := I2.pin q hq
     exact absurd (Nat.lt_of_lt_of_le (Heap.lt_size e) hC) (by rw [z]; exact Nat.lt_irrefl _)
   ·refine thn (T.item (ccx X scope h2'.objs.size N' s2 H2 fp) rfl rfl rfl hc i _ s3 σ3 H3 _ I3 (stat fr3) st3 go) fun r s4 ⟨u,hr,h4⟩ => ?_
    subst hr
    refine wpAny_bind (thn h4 fun _ s5 ⟨x,H5,I5,r5,y5,st5,fr5⟩ => ?_)
    have I5' := I5.pinned (stat fr5) (T.obj _ _ st5)
    refine wpAny_bind (wpAny_mono (hg h2'.objs.size s2 H2 fp _ s5 σ3 H5 x u _ I5' r5 (step x H5 y5)) (fun _ s6 ⟨σ6,H6,I6,q6⟩ => ?_) fun _ _ z => z.elim)
    refine wpAny_bind (wpAny_mono (hb h2'.objs.size s2 H2 fp _ s6 σ6 H6 s2.heap.objs.size ys _ I6 q6) (fun _ s7 ⟨ys7,σ7,H7,I7,m',hm,w7⟩ => ?_) fun _ _ z => z.elim)
    refine wpAny_pure ⟨rfl,m',hm,i + 1,ys7,σ7,H7,I7.unpinned,T.keep _ _ _ st5 fun b hb o e => (I7.pin (b,o) (List.mem_append_right _ (List.mem_append_right _ (mem_pinsAt hb e)))).1,fun b hb => ?_,w7⟩
    obtain ⟨o,e,d⟩ := T.obj _ _ st5 b hb
    exact (I7.pin (b,o) (List.mem_append_right _ (List.mem_append_right _ (mem_pinsAt hb e)))).2.1
  ·rw [upd_ne (show b ≠ s2.heap.objs.size from fun z => nfp (by rw [← z]; exact hb))]
   exact (f2 b hb).1
 refine codeAny_compStart_list (loop _ rfl) (T.self _ 0 _ _ _ ?_ (loop _ rfl))
 exact T.keep _ _ _ st2 fun b _ o e => old b o e
theorem ps_setC {elt tgt iter : Expr} {scope : Scope} {pos spos py : Pos} {NL N' : List Str} {ρ : List Nat} {wi : TI} {g : TG} {te : TE} {j : Nat} {y : Str} (hN : X.N.Nodup) (hj : X.N[j]? = some y) (hy : Loc X.env.scope y)
  (hc : X.calm = true) (S : CScope X scope NL ρ N') (hi : PI X tgt iter wi) (hg : ∀ C s₀ H₀ fp,PG (ccx X scope C N' s₀ H₀ fp) tgt g) (he : ∀ C s₀ H₀ fp,PE (ccx X scope C N' s₀ H₀ fp) elt te)
  (hsw : swapsWith (.ListComp elt [⟨tgt,iter,[],0⟩] scope pos) (some (.Name y py)) spos.line X.env = pure true := by rfl) (hfn : X.fn y = true ∨ X.env.scope.names.lookup y = some .local := by first | exact .inl rfl | exact .inr rfl | assumption)
  (hs : ∀ x,foldedSetIterable iter X.env x = pure x := by intro _; rfl) : PS X (.Assign [.Name y py] (.ListComp elt [⟨tgt,iter,[],0⟩] scope pos) spos) (tAsg (tComp NL.length ρ wi g (cEl te)) (gName j)) :=
 ps_compG (body := fun acc env => do let x ← eval elt env; let _ ← call (.builtin "list.append") [acc,x]; pure ()) hN hj hy hfn hsw hc S hi hg (fun C s₀ H₀ fp => pb_el (he C s₀ H₀ fp)) (fun it acc env => turn_eq0 elt tgt iter scope pos it acc env) hs
end
end L2
set_option Elab.async false
set_option linter.all false
set_option maxRecDepth 100000
namespace L2
open PySem PySem.Spec PyProof.Rows
section
variable {X : Cx}
variable {K : PySem.W.Frag}
theorem pe_tupPK {es : List Expr} {x1 : Nat} {pos : Pos} {t : TA} (hK : X.K = K) (h : PA X es t) : PE X (.Tuple es x1 pos) (tTupP K t) := by subst hK; exact pe_tupP h
theorem ix_tupPK (hK : X.K = K) : IxR X (fun x y H Q => ∃ l i d,IsP K H (.tup l) x ∧ y = .int i ∧ atI l i = some d ∧ ∀ v,IsP K H d v → Q v H) := by subst hK; exact ix_tupP
theorem op_eqDK (hK : X.K = K) (hu : X.A.units + 64 < cLine) : OpR X (compareOp .Eq) (rEqD K) := by subst hK; exact op_eqD hu
end
end L2
set_option Elab.async false
set_option linter.all false
set_option maxRecDepth 100000
set_option maxHeartbeats 4000000
namespace L2
open PySem PySem.Spec PyProof.Rows
section
variable {X : Cx}
end
end L2
set_option Elab.async false
set_option linter.all false
set_option maxRecDepth 100000
namespace L2
open PySem PySem.Spec PyProof.Rows
section
variable {X : Cx}
theorem vals_strs : ∀ {ss : List Str} {us : List Value},StrsAre us ss → Vals (ss.map V.str) us
 | _,_,.nil => .nil
 | _,_,.cons z t r => .cons ⟨t,rfl⟩ (vals_strs r)
end
end L2
set_option Elab.async false
set_option linter.all false
set_option maxRecDepth 100000
namespace L2
open PySem PySem.Spec PyProof.Rows
section
variable {prog : Program} {w : World} {A : Around} {R : Result → Shared → Prop} {it : Addr} {fp wr : List Addr} {n : Nat} {P : Nat → Value → Prop} {St : Nat → Heap → Prop}
end
section
variable {prog : Program} {w : World} {A : Around} {E : Value → Shared → Prop} {s : Shared} {l : Addr} {zs : Array (Int × Tok)} {d : Value} {Q : Value → Shared → Prop}
end
section
variable {X : Cx}
end
end L2
namespace L2
open PySem PySem.Spec PyProof.Rows
section
variable {X : Cx} {K : PySem.W.Frag}
end
end L2
namespace L2
open PySem PySem.Spec PyProof.Rows
section
variable {l : Addr} {g : TG} {tb : List V → Addr → St → Hp → (List V → St → Hp → Prop) → Prop} {R : Hp → Prop} {σ0 : St} {H0 : Hp} {lo : Int} {n : Nat} {z : Str}
theorem comp_rangeR (Pv : Nat → List V → St → Hp → Prop) (h0 : Pv 0 [] σ0 H0) (hs : ∀ i ys σ H (N : List V → St → Hp → Prop),i < n → Pv i ys σ H → (∀ ys' σ' H',Pv (i + 1) ys' σ' H' → N ys' σ' H') → g (.int (lo + i)) σ H fun σ2 H2 => tb ys l σ2 H2 N) (hd : ∀ ys σ H,Pv n ys σ H → R H) :
  ∃ W : Nat → Nat → List V → St → Hp → Prop,(∃ m,W 0 m [] σ0 H0) ∧ ∀ i m ys σ' H',W i m ys σ' H' → ((Itr lo n).stop i H' ∧ R H') ∨ ((Itr lo n).go i H' ∧ ∀ x H'',(Itr lo n).yld i H' x H'' → g x σ' H'' fun σ2 H2 => tb ys l σ2 H2 fun ys' σ3 H3 => ∃ m',m' < m ∧ W (i + 1) m' ys' σ3 H3) := comp_range (Q := fun _ H => R H) Pv h0 hs hd
end
end L2
set_option Elab.async false
set_option linter.all false
set_option maxRecDepth 100000
namespace L2
open PySem PySem.Spec PyProof.Rows
section
variable {X : Cx} {K : PySem.W.Frag}
inductive JCatP (K : PySem.W.Frag) (x y : V) (H : Hp) (Q : VK) : Prop
 | mk (l m : List Dt) : (IsP K H (.tup l) x) → (IsP K H (.tup m) y) → (l.length + m.length ≤ sizeLine) → (∀ v H',Same H H' → IsP K H' (.tup (l ++ m)) v → Q v H') → JCatP K x y H Q
noncomputable def nCatP (K : PySem.W.Frag) : R2 := fun x y H Q => JCatP K x y H Q
theorem op_catPN (hK : X.K = K) : OpR X (binaryOp .Add) (nCatP K) := by
 subst hK
 intro pins s σ H x y v u Q I rx ry h
 obtain ⟨l,m,a,b,c,q⟩ := h
 exact op_catP _ _ _ _ _ _ _ _ _ I rx ry ⟨l,m,a,b,c,q⟩
end
end L2
set_option Elab.async false
set_option linter.all false
set_option maxRecDepth 100000
namespace L2
open PySem PySem.Spec PyProof.Rows
end L2
set_option Elab.async false
set_option linter.all false
set_option maxRecDepth 100000
namespace L2
open PySem PySem.Spec PyProof.Rows
section
variable {prog : Program} {w : World} {A : Around} {E : Value → Shared → Prop} {s : Shared}
theorem nextT_item {b t : Addr} {k : Nat} {its : Array Value} {v : Value} {Q : Value → Shared → Prop} (hb : IsTupIter s.heap b t k) (ht : IsTup s.heap t its) (hv : its[k]? = some v)
  (q : ∀ h',IsTupIter h' b t (k + 1) → Heap.SameBut b s.heap h' → Q v { s with heap := h' }) : wpAny (model prog w) A (Builtin.SmallTypes.nextOf (.ref b)) Q E s := by
 obtain ⟨ob,gb,cb,db⟩ := id hb
 obtain ⟨ot,gt,_,nt,dt⟩ := ht
 unfold Builtin.SmallTypes.nextOf
 refine wpAny_bind (wpAny_callSpecial?_slot (name := Str.ofString "__next__") hb.typeIs slot_tupleiter_next (wpAny_call_entry slot_tupleiter_next hb.typeIs entry_tupleiter_next ?_ (args_tupleiter_next _)))
 refine show wpAny _ _ (field (.ref b) 0 >>= _) _ _ s from wpAny_bind (wpAny_field gb db (x := .ref t) rfl ?_)
 refine show wpAny _ _ (if (Value.ref t == Value.none) = true then _ else _) _ _ s from ?_
 rw [if_neg (by exact Bool.false_ne_true)]
 refine show wpAny _ _ (field (.ref b) 1 >>= _) _ _ s from wpAny_bind (wpAny_field gb db (x := .int k 0) rfl ?_)
 refine show wpAny _ _ (seqItems? (.ref t) >>= _) _ _ s from wpAny_bind (wpAny_seqItems gt dt ?_)
 simp only [hv,Int.toNat_natCast]
 refine wpAny_bind (wpAny_setField gb db (by simp) (wpAny_pure ⟨v,rfl,wpAny_pure (q _ ⟨_,Heap.get?_update_self _ gb (Obj.isFreed_of_fields (Obj.data_mapFields db _)),(Obj.cls_mapFields ..).trans cb,?_⟩ (Heap.SameBut.update ..))⟩))
 rw [Obj.data_mapFields db]
 simp [rawInt]
theorem nextT_end {b t : Addr} {k : Nat} {its : Array Value} {Q : Value → Shared → Prop} (hh : A.handled = none) (hb : IsTupIter s.heap b t k) (ht : IsTup s.heap t its) (hv : its[k]? = none)
  (q : ∀ h' e,Heap.ExtBut b s.heap h' → (∃ o,h'.get? e = some o ∧ o.cls = .type "StopIteration") → E (.ref e) { s with heap := h' }) : wpAny (model prog w) A (Builtin.SmallTypes.nextOf (.ref b)) Q E s := by
 obtain ⟨ob,gb,cb,db⟩ := id hb
 obtain ⟨ot,gt,_,nt,dt⟩ := ht
 unfold Builtin.SmallTypes.nextOf
 refine wpAny_bind (wpAny_callSpecial?_slot (name := Str.ofString "__next__") hb.typeIs slot_tupleiter_next (wpAny_call_entry slot_tupleiter_next hb.typeIs entry_tupleiter_next ?_ (args_tupleiter_next _)))
 refine show wpAny _ _ (field (.ref b) 0 >>= _) _ _ s from wpAny_bind (wpAny_field gb db (x := .ref t) rfl ?_)
 refine show wpAny _ _ (if (Value.ref t == Value.none) = true then _ else _) _ _ s from ?_
 rw [if_neg (by exact Bool.false_ne_true)]
 refine show wpAny _ _ (field (.ref b) 1 >>= _) _ _ s from wpAny_bind (wpAny_field gb db (x := .int k 0) rfl ?_)
 refine show wpAny _ _ (seqItems? (.ref t) >>= _) _ _ s from wpAny_bind (wpAny_seqItems gt dt ?_)
 simp only [hv,Int.toNat_natCast]
 refine wpAny_bind (wpAny_rule (wpAny_bind (wpAny_setField gb db (by simp) ?_)))
 refine show wpAny _ _ (newExc (.type "StopIteration") [] >>= _) _ _ _ from wpAny_bind ?_
 simp only [newTuple,newExc]
 refine wpAny_bind (wpAny_newObj_type (wpAny_bind (m := firstArgMember _ _) (wpAny_of_eq (a := Value.none) (by first | rfl | (simp only [firstArgMember]; rfl)) (wpAny_newObj_type ?_ (by size_fits)))) (by size_fits))
 simp only [raiseNew]
 refine wpAny_bind (wpAny_handled ?_)
 rw [show A.in1.handled = none from hh]
 exact wpAny_bind (wpAny_pure (wpAny_throw (q _ _ (((Heap.SameBut.update ..).extBut.push _).push _) ⟨_,Heap.get?_push_size _ rfl,rfl⟩)))
end
section
variable {X : Cx} {elts : List Expr} {k : Nat} {tpos : Pos}
end
end L2
set_option Elab.async false
set_option linter.all false
set_option maxRecDepth 100000
namespace L2
open PySem PySem.Spec PyProof.Rows
section
variable {X : Cx} {K : PySem.W.Frag}
end
end L2
set_option Elab.async false
set_option linter.all false
set_option maxRecDepth 100000
namespace L2
open PySem PySem.Spec PyProof.Rows
section
variable {prog : Program} {w : World} {A : Around} {E : Value → Shared → Prop} {s : Shared}
theorem dict_len_slot : typeLookup (.type "dict") "__len__" = pure (some (.builtin "dict.__len__")) := by rw [typeLookup_type,builtinLookup_eq_fast]; kernel_rfl
theorem collectD {d : Addr} {kvs : List (Key × Value)} {Q : List Value → Shared → Prop} (hh : A.handled = none) (hd : (d == sysModules) = false) (hm : s.heap.DictOf (mixKind prog w) d kvs) (hn : kvs.length ≤ sizeLine)
  (q : ∀ s' acc,(∀ b o,s.heap.get? b = some o → s'.heap.get? b = some o) → s.heap.objs.size < s'.heap.objs.size → s'.gens = s.gens → s'.drawn = s.drawn → s'.os = s.os → ItemsOf (fun i v => ∃ k x,kvs[i]? = some (k,x) ∧ (mixKind prog w).is k v = true) acc kvs.length → Q acc.toList s') :
  wpAny (model prog w) A (collect (.ref d)) Q E s := by
 obtain ⟨ep,at0⟩ := hm.dictAt
 have hdT : s.TypeIs (.ref d) "dict" := hm.typeIs
 unfold collect
 refine wpAny_bind (wpAny_runValue (codeAny_builtin F.entry_proto_collect ?_))
 rw [Around.under_plainId F.plain_proto_collect _]
 refine show wpAny _ A.in1 (newList [] >>= fun l => again (.builtin "list.__iadd__" ⟨[l,.ref d],[]⟩)) _ _ s from wpAny_bind (wpAny_newObj_type ?_)
 refine wpAny_pure ⟨plainId_quiet F.plain_list_iadd _,codeAny_builtin F.entry_list_iadd ?_⟩
 rw [Around.under_plainId F.plain_list_iadd _]
 have ltd : d < s.heap.objs.size := at0.lt_size
 have at1 := at0.push { cls := .type "list",data := .seq ([] : List Value).toArray }
 generalize hH : s.heap.push { cls := .type "list",data := .seq ([] : List Value).toArray } = G at at1 ⊢
 have hT1 : Shared.TypeIs { s with heap := G } (.ref d) "dict" := at1.dictOf.typeIs
 refine show wpAny _ A.in1 (Builtin.List.listExtendWith (.ref s.heap.objs.size) (.ref d) (.ref s.heap.objs.size)) _ _ _ from ?_
 unfold Builtin.List.listExtendWith
 refine wpAny_bind (wpAny_typeOf hT1 ?_)
 have n1 : Builtin.List.listSameRef (.ref s.heap.objs.size) (.ref d) = false := by simp [Builtin.List.listSameRef]; exact Nat.ne_of_gt ltd
 simp only [n1,show (Value.type "dict" == Value.type "list") = false by decide,show (Value.type "dict" == Value.type "tuple") = false by decide,Bool.or_false,Bool.false_eq_true,if_false]
 refine wpAny_bind (wpAny_pyIter_dict hd at1 ?_)
 refine wpAny_bind (wpAny_holding ?_)
 have at2 := at1.push { cls := .type "dict_keyiterator",data := .fields #[.ref d,.int 0 0,.int kvs.length 0,.int ep 0] }
 have k2 : Heap.IsKeyIter (G.push { cls := .type "dict_keyiterator",data := .fields #[.ref d,.int 0 0,.int kvs.length 0,.int ep 0] }) G.objs.size d 0 kvs.length ep := ⟨_,Heap.get?_push_size _ rfl,rfl,rfl⟩
 have S2 : (G.push { cls := .type "dict_keyiterator",data := .fields #[.ref d,.int 0 0,.int kvs.length 0,.int ep 0] }).get? s.heap.objs.size = some { cls := .type "list",data := .seq ([] : List Value).toArray } := Heap.get?_push_of_some _ (hH ▸ Heap.get?_push_size _ rfl)
 have keep2 : ∀ b o,s.heap.get? b = some o → (G.push { cls := .type "dict_keyiterator",data := .fields #[.ref d,.int 0 0,.int kvs.length 0,.int ep 0] }).get? b = some o := fun b o e => Heap.get?_push_of_some _ (hH ▸ Heap.get?_push_of_some _ e)
 have sizeG : G.objs.size = s.heap.objs.size + 1 := by rw [← hH,Heap.size_push]
 generalize G.push { cls := .type "dict_keyiterator",data := .fields #[.ref d,.int 0 0,.int kvs.length 0,.int ep 0] } = G2 at at2 k2 S2 keep2 ⊢
 have hT2 : Shared.TypeIs { s with heap := G2 } (.ref d) "dict" := at2.dictOf.typeIs
 unfold Builtin.List.listLengthHint
 refine wpAny_bind (wpAny_specialOf hT2 dict_len_slot ?_)
 wp_delta
 refine wpAny_bind (wpAny_isInstance (b := true) hT2 (by rw [isSubtype_type]; kernel_rfl) ?_)
 refine show wpAny _ A.in1 (typeOf (Value.ref d) >>= _) _ _ _ from wpAny_bind (wpAny_typeOf hT2 (wpAny_pure ?_))
 rw [if_pos (by decide)]
 refine wpAny_bind (wpAny_rule (wpAny_bind ?_))
 refine show wpAny _ A.in1 (updateSeq s.heap.objs.size (·.push .none) >>= fun _ => updateSeq s.heap.objs.size (·.pop)) _ _ _ from wpAny_bind (wpAny_updateSeq S2 rfl ?_)
 have S3 := Heap.get?_update_self (Obj.mapSeq (·.push Value.none)) S2 rfl
 refine wpAny_updateSeq (hz := by seq_fits) S3 rfl ?_
 have S4 := Heap.get?_update_self (Obj.mapSeq (·.pop)) S3 rfl
 have oth : ∀ b o,b ≠ s.heap.objs.size → G2.get? b = some o → ((G2.update s.heap.objs.size (Obj.mapSeq (·.push Value.none))).update s.heap.objs.size (Obj.mapSeq (·.pop))).get? b = some o := fun b o n e => (Heap.get?_update_other _ _ (Ne.symm n)).trans ((Heap.get?_update_other _ _ (Ne.symm n)).trans e)
 have nG : G.objs.size ≠ s.heap.objs.size := by rw [sizeG]; exact Nat.succ_ne_self _
 have nd : d ≠ G.objs.size := by rw [sizeG]; exact Nat.ne_of_lt (Nat.lt_succ_of_lt ltd)
 have Wk := Walks.dictKeys (prog := prog) (w := w) (A := A.in1) (knd := mixKind prog w) hh G.objs.size d nd kvs ep
 have hSf : s.heap.objs.size ∉ [G.objs.size,d] := by
  simp only [List.mem_cons,List.not_mem_nil,or_false,not_or]
  exact ⟨nG.symm,Nat.ne_of_gt ltd⟩
 refine wpAny_pure ⟨plainId_quiet F.plain_extend_loop _,codeAny_extend_loopS Wk.toS hn _ hSf _ kvs.length 0 _ _ _ rfl (Nat.zero_le _) ⟨k2.at fun o e => oth _ o nG e,at2.at' fun o e => oth _ o (Nat.ne_of_lt ltd) e⟩ S4 (ItemsOf.nil _) fun s' acc' c' hmv S5 hacc => ?_⟩
 refine show wpAny _ A (load s.heap.objs.size >>= _) _ _ s' from wpAny_bind (wpAny_load S5 (wpAny_pure (q s' acc' (fun b o e => hmv.heap b o (fun hb => ?_) (oth b o (Nat.ne_of_lt (Heap.lt_size e)) (keep2 b o e))) (Heap.lt_size S5) hmv.gens hmv.drawn hmv.os hacc)))
 have hlt := Heap.lt_size e
 simp only [List.mem_cons,List.not_mem_nil,or_false] at hb
 rcases hb with h | h
 ·exact absurd hlt (h ▸ Nat.lt_irrefl _)
 ·rw [h,sizeG] at hlt
  exact absurd hlt (Nat.not_lt.mpr (Nat.le_succ _))
theorem key_str {P : Program} {w : World} {z : Str} {v : Value} (h : (mixKind P w).is (Sum.inr z) v = true) : ∃ t,v = .str z t := by
 rcases keyIs_shape (show keyIs (Sum.inr z) v = true from h) with ⟨i,t,e,_⟩ | ⟨x,t,e,rfl⟩
 ·cases e
 ·cases e
  exact ⟨t,rfl⟩
theorem keys_strs {P : Program} {w : World} : ∀ {ss : List Str} {us : List Value},us.length = ss.length → (∀ (j : Nat) (v : Value),us[j]? = some v → ∃ z,ss[j]? = some z ∧ (mixKind P w).is (Sum.inr z) v = true) → StrsAre us ss
 | [],us,hl,_ => by
  cases us with
  | nil => exact .nil
  | cons u us => cases hl
 | z :: ss,us,hl,h => by
  cases us with
  | nil => cases hl
  | cons u us =>
   obtain ⟨z',e,hz⟩ := h 0 u rfl
   obtain rfl : z = z' := Option.some.inj e
   obtain ⟨t,rfl⟩ := key_str hz
   exact .cons z t (keys_strs (Nat.succ.inj hl) fun j v hj => by simpa using h (j + 1) v (by simpa using hj))
theorem sortedD {d : Addr} {kvs : List (Key × Value)} {ss : List Str} {Q : Value → Shared → Prop} (hh : A.handled = none) (hd : (d == sysModules) = false) (hm : s.heap.DictOf (mixKind prog w) d kvs) (names : kvs.map (·.1) = ss.map Sum.inr) (h64 : ss.length < 64)
  (q : ∀ (h' : Heap) (t' : Nat) (a : Addr) (out : Array Value) (ss' : List Str) (n : Nat),(∀ b o,s.heap.get? b = some o → h'.get? b = some o) → s.heap.objs.size ≤ a → h'.get? a = some (seqObj "list" out n) → StrsAre out.toList ss' → ss'.Perm ss → sortedS ss' = true → Q (.ref a) { s with heap := h',toks := t' }) :
  wpAny (model prog w) A (call (.builtin "sorted") [.ref d]) Q E s := by
 have lk : kvs.length = ss.length := by have := congrArg List.length names; simpa using this
 refine Calls.call_function_entry kind_sorted plain_sorted entry_sorted (args_sorted1 _) ?_
 unfold Builtin.«sorted»
 refine wpAny_bind (m := checkCount "sorted" 1 1 _) (wpAny_pure (wpAny_bind (collectD hh hd hm (by rw [lk]; exact Nat.le_of_lt (Nat.lt_trans h64 (by decide))) fun s1 acc kk low g1 d1 o1 items => ?_)))
 have hS : StrsAre acc.toList ss := keys_strs (P := prog) (w := w) (by rw [Array.length_toList,items.1,lk]) fun j v hj => by
  obtain ⟨k,x,e,hk⟩ := items.2 j v (by simpa using hj)
  have e2 : (kvs.map (·.1))[j]? = some k := by rw [List.getElem?_map,e]; rfl
  rw [names,List.getElem?_map] at e2
  obtain ⟨z,hz,rfl⟩ := Option.map_eq_some_iff.mp e2
  exact ⟨z,hz,hk⟩
 have lacc : acc.toList.length < 64 := by
  have := items.1
  simp only [Array.length_toList]
  lia
 refine wpAny_bind (wpAny_newList ?_)
 have hoL : (s1.heap.push (seqObj "list" acc.toList.toArray 0)).get? s1.heap.objs.size = some (seqObj "list" acc.toList.toArray 0) := Heap.get?_push_size _ rfl
 refine wpAny_bind (wpAny_holding (wpAny_call_entry slot_list_sort ⟨_,hoL,rfl⟩ entry_list_sort (list_sort_treeK strKind_oneLt hoL hS.keysOf (fun v₁ v₂ rest e => keyKind_strs (by rw [← e]; exact hS)) lacc fun st' hp hs => ⟨_,rfl,?_⟩) (args_list_sort _)))
 obtain ⟨ss',h1,h2,h3⟩ := sorted_out_str hS hp hs
 obtain ⟨e,he⟩ := sortedHeap_at (out := (arrOf st').map (·.2)) hoL
 obtain ⟨hp1,g',d',tk',os'⟩ := s1
 have e1 : g' = s.gens := g1
 have e2 : d' = s.drawn := d1
 have e3 : os' = s.os := o1
 subst e1 e2 e3
 refine wpAny_pure ⟨_,rfl,q _ tk' _ _ ss' e (fun b o eb => ?_) (Nat.le_of_lt low) he h1 h2 h3⟩
 have lt := Heap.lt_size (kk b o eb)
 rw [sortedHeap_old (Nat.ne_of_lt lt) (by rw [Heap.size_push]; exact Nat.lt_succ_of_lt lt)]
 exact Heap.get?_push_of_some _ (kk b o eb)
end
section
variable {X : Cx}
theorem call_sortD (hc : X.calm = true) : CallR X (.builtin "sorted") (fun xs H Q => ∃ (p : Addr) (kvs : List (Key × V)) (ss : List Str),xs = [.ref p] ∧ H p = some (.dK kvs) ∧ kvs.map (·.1) = ss.map Sum.inr ∧ ss.length < 64 ∧ ∀ a ss',H a = none → ss'.Perm ss → sortedS ss' = true → Q (.ref a) (upd H a (.lst (ss'.map V.str)))) := by
 intro pins s σ H xs us Q I r h
 obtain ⟨p,kvs,ss,rfl,hp,names,hl,q⟩ := h
 obtain ⟨u,rfl,rx⟩ := vals1 r
 cases rx
 obtain ⟨hz,hd,vs,kv,dof⟩ := dk_of I.hok hp
 refine sortedD (ss := ss) (I.ok.hd hc) hd dof (by rw [← kv.keys]; exact names) hl fun h' t' a out ss' n kk low ea h1 h2 h3 => ?_
 have hn : H a = none := I.hok.fresh low
 refine ⟨.ref a,_,I.laid (t' := t') (o := .lst (ss'.map V.str)) kk low ?_,rfl,q a ss' hn h2 h3⟩
 have e2 : seqObj "list" out n = seqObj "list" out.toList.toArray n := by rw [Array.toArray_toList]
 refine ⟨?_,out.toList,n,vals_strs h1,?_⟩
 ·rw [List.length_map,h2.length_eq]
  exact Nat.le_of_lt (Nat.lt_trans hl (by decide))
 ·rw [ea,e2]
noncomputable def DicQ (K : PySem.W.Frag) (H : Hp) (p : Addr) (fs : List (Str × Dt)) : Prop :=
 ∃ kvs,H p = some (.dK kvs) ∧ kvs.map (·.1) = fs.map (fun p => (Sum.inr p.1 : Key)) ∧ ∀ z,(lookS fs z = none → valV kvs (Sum.inr z : Key) = none) ∧ ∀ d,lookS fs z = some d → ∃ v,valV kvs (Sum.inr z : Key) = some v ∧ IsP K H d v
end
end L2
set_option Elab.async false
set_option linter.all false
set_option maxRecDepth 100000
namespace L2
open PySem PySem.Spec PyProof.Rows
section
variable {prog : Program} {w : World} {A : Around} {E : Value → Shared → Prop} {s : Shared}
theorem alive {a : Addr} {Q : Option Obj → Shared → Prop} (h : Q (s.heap.get? a) s) : wpAny (model prog w) A (loadIfAlive a) Q E s := fun Γ p _ => by
 show Sem.wp _ _ (.loadIfAlive a .pure) _ _ _ _
 rw [Sem.wp_loadIfAlive]
 exact h
noncomputable abbrev enO (f0 : Value) (f1 : Bool) (b : Addr) (i : Nat) (x : Value) : Obj := { cls := .type "enumerate",dict := none,data := .fields #[f0,.bool f1,.ref b,rawInt i,.none,x],slots := #[] }
noncomputable def EnS (h : Heap) (e b : Addr) (i : Nat) : Prop := ∃ f0 f1 x,h.get? e = some (enO f0 f1 b i x) ∧ (f0 = .none ∨ ∃ (T : Nat) (o : Obj),f0 = rawInt T ∧ h.get? T = some o ∧ T ≠ e ∧ T ≠ b)
theorem enS_next {e b t : Addr} {i : Nat} {its : Array Value} {x : Value} {Q : Value → Shared → Prop} (he : EnS s.heap e b i) (hb : IsTupIter s.heap b t i) (ht : IsTup s.heap t its) (hx : its[i]? = some x) (ne : e ≠ b)
  (q : ∀ (h' : Heap) (tk tk' : Nat),EnS h' e b (i + 1) → IsTupIter h' b t (i + 1) → h'.get? s.heap.objs.size = some { cls := .type "tuple",data := .seq #[.int i tk,x] } → h'.objs.size = s.heap.objs.size + 1 →
   (∀ c o,c ≠ e → c ≠ b → s.heap.get? c = some o → h'.get? c = some o) → Q (.ref s.heap.objs.size) { s with heap := h',toks := tk' }) :
  wpAny (model prog w) A (Builtin.«enumerate.__next__» ⟨[.ref e],[]⟩) (fun fin s' => ∃ v,fin = .done (.ret v) ∧ Q v s') E s := by
 obtain ⟨f0,f1,old,ge,life⟩ := he
 obtain ⟨hp,g,d,tk,os⟩ := s
 refine show wpAny _ _ (field (.ref e) 2 >>= _) _ _ _ from wpAny_bind (wpAny_field ge rfl (x := .ref b) rfl ?_)
 refine wpAny_bind (nextT_item hb ht hx fun ha wa sa => ?_)
 replace sa : Heap.SameBut b hp ha := sa
 have ga : ha.get? e = some (enO f0 f1 b i old) := (sa.2 e ne).trans ge
 refine show wpAny _ _ (field (.ref e) 3 >>= _) _ _ ⟨ha,g,d,tk,os⟩ from wpAny_bind (wpAny_field ga rfl (x := rawInt i) rfl ?_)
 refine show wpAny _ _ (field (.ref e) 4 >>= _) _ _ ⟨ha,g,d,tk,os⟩ from wpAny_bind (wpAny_field ga rfl (x := .none) rfl ?_)
 refine show wpAny _ _ (mkInt i >>= _) _ _ ⟨ha,g,d,tk,os⟩ from wpAny_bind (wpAny_mkInt ?_)
 refine show wpAny _ _ (setField (.ref e) 3 (rawInt ((i : Int) + 1)) >>= _) _ _ ⟨ha,g,d,tk + 1,os⟩ from wpAny_bind (wpAny_setField_rec ga (by simp) fun hb' gb sb => ?_)
 replace sb : Heap.SameBut e ha hb' := sb
 replace gb : hb'.get? e = some (enO f0 f1 b (i + 1) old) := gb
 refine show wpAny _ _ (setField (.ref e) 4 .none >>= _) _ _ ⟨hb',g,d,tk + 1,os⟩ from wpAny_bind (wpAny_setField_rec gb (by simp) fun hc gc sc => ?_)
 replace sc : Heap.SameBut e hb' hc := sc
 replace gc : hc.get? e = some (enO f0 f1 b (i + 1) old) := gc
 refine show wpAny _ _ (newTuple [.int i tk,x] >>= _) _ _ ⟨hc,g,d,tk + 1,os⟩ from wpAny_bind (wpAny_newTuple ?_)
 have size : hc.objs.size = hp.objs.size := by rw [sc.1,sb.1,sa.1]
 have lte : e < hp.objs.size := Heap.lt_size ge
 have gd : (hc.push { cls := .type "tuple",data := .seq #[.int i tk,x] }).get? e = some (enO f0 f1 b (i + 1) old) := Heap.get?_push_of_some _ gc
 have gT : (hc.push { cls := .type "tuple",data := .seq #[.int i tk,x] }).get? hp.objs.size = some { cls := .type "tuple",data := .seq #[.int i tk,x] } := by rw [← size]; exact Heap.get?_push_size _ rfl
 have sd : (hc.push { cls := .type "tuple",data := .seq #[.int i tk,x] }).objs.size = hp.objs.size + 1 := by rw [Heap.size_push,size]
 have kd : ∀ c o,c ≠ e → c ≠ b → hp.get? c = some o → (hc.push { cls := .type "tuple",data := .seq #[.int i tk,x] }).get? c = some o := fun c o n1 n2 ec => Heap.get?_push_of_some _ (sc.extBut c o n1 (sb.extBut c o n1 (sa.extBut c o n2 ec)))
 have wd : IsTupIter (hc.push { cls := .type "tuple",data := .seq #[.int i tk,x] }) b t (i + 1) := by
  obtain ⟨o,ho,r⟩ := (wa.extBut sb.extBut (Ne.symm ne)).extBut sc.extBut (Ne.symm ne)
  exact ⟨o,Heap.get?_push_of_some _ ho,r⟩
 refine show wpAny _ _ (Builtin.SmallTypes.ownedTupleIsFree (.ref e) >>= _) _ _ ⟨_,g,d,tk + 1,os⟩ from ?_
 rw [size]
 generalize hc.push { cls := .type "tuple",data := .seq #[.int i tk,x] } = hd at gd gT sd kd wd ⊢
 refine wpAny_bind ?_
 unfold Builtin.SmallTypes.ownedTupleIsFree
 rcases life with rfl | ⟨T,oT,rfl,eT,nTe,nTb⟩
 ·refine wpAny_bind (wpAny_field gd rfl (x := .none) rfl (wpAny_pure ?_))
  rw [if_pos rfl]
  refine wpAny_bind (wpAny_rule (wpAny_bind (wpAny_field gd rfl (x := old) rfl (wpAny_bind (wpAny_setField_rec gd (by simp) fun hf gf sf => ?_)))))
  replace sf : Heap.SameBut e hd hf := sf
  replace gf : hf.get? e = some (enO .none f1 b (i + 1) x) := gf
  refine show wpAny _ _ (Builtin.SmallTypes.ownedTupleHandOut (.ref e) (.ref hp.objs.size) >>= _) _ _ ⟨hf,g,d,tk + 1,os⟩ from wpAny_bind ?_
  unfold Builtin.SmallTypes.ownedTupleHandOut
  refine wpAny_bind (wpAny_setField_rec gf (by simp) fun hg gg sg => ?_)
  replace sg : Heap.SameBut e hf hg := sg
  replace gg : hg.get? e = some (enO (rawInt hp.objs.size) f1 b (i + 1) x) := gg
  refine wpAny_setField_rec gg (by simp) fun hi gi si => ?_
  replace si : Heap.SameBut e hg hi := si
  replace gi : hi.get? e = some (enO (rawInt hp.objs.size) false b (i + 1) x) := gi
  have up : ∀ c o,c ≠ e → hd.get? c = some o → hi.get? c = some o := fun c o n ec => si.extBut c o n (sg.extBut c o n (sf.extBut c o n ec))
  have nT : hp.objs.size ≠ e := Nat.ne_of_gt lte
  have ltb : b < hp.objs.size := by
   obtain ⟨o,ho,_⟩ := hb
   exact Heap.lt_size ho
  refine wpAny_bind (wpAny_letGo (wpAny_pure ⟨_,rfl,q hi tk (tk + 1) ⟨_,_,_,gi,.inr ⟨hp.objs.size,_,rfl,up _ _ nT gT,nT,Nat.ne_of_gt ltb⟩⟩ ?_ (up _ _ nT gT) ?_ fun c o n1 n2 ec => up c o n1 (kd c o n1 n2 ec)⟩))
  ·exact ((wd.extBut sf.extBut (Ne.symm ne)).extBut sg.extBut (Ne.symm ne)).extBut si.extBut (Ne.symm ne)
  ·rw [si.1,sg.1,sf.1,sd]
 ·refine wpAny_bind (wpAny_field gd rfl (x := rawInt T) rfl ?_)
  have eT' : hd.get? T = some oT := kd T oT nTe nTb eT
  refine show wpAny _ _ (loadIfAlive (T : Int).toNat >>= _) _ _ _ from wpAny_bind (alive ?_)
  rw [Int.toNat_natCast]
  refine show wpAny _ _ (if (hd.get? T).isNone = true then _ else _) _ _ _ from ?_
  rw [eT',if_neg (by simp)]
  refine show wpAny _ _ (field (.ref e) 1 >>= _) _ _ _ from wpAny_bind (wpAny_field gd rfl (x := .bool f1) rfl ?_)
  have ends : ∀ (hi : Heap) (f : Bool),hi.get? e = some (enO (rawInt T) f b (i + 1) old) → (∀ c o,c ≠ e → hd.get? c = some o → hi.get? c = some o) → hi.objs.size = hd.objs.size → IsTupIter hi b t (i + 1) → ∃ v,Fin.done (Flow.ret (Value.ref hp.objs.size)) = Fin.done (Flow.ret v) ∧ Q v ⟨hi,g,d,tk + 1,os⟩ := fun hi f gi up sz wi => by
   have nT : hp.objs.size ≠ e := Nat.ne_of_gt lte
   exact ⟨_,rfl,q hi tk (tk + 1) ⟨_,_,_,gi,.inr ⟨T,oT,rfl,up _ _ nTe eT',nTe,nTb⟩⟩ wi (up _ _ nT gT) (by rw [sz,sd]) fun c o n1 n2 ec => up c o n1 (kd c o n1 n2 ec)⟩
  cases f1 with
  | true =>
   refine wpAny_pure ?_
   exact wpAny_pure (ends hd true gd (fun _ _ _ e => e) rfl wd)
  | false =>
   refine show wpAny _ _ (setField (.ref e) 1 (.bool true) >>= _) _ _ _ from wpAny_bind (wpAny_setField_rec gd (by simp) fun hf gf sf => wpAny_pure ?_)
   replace sf : Heap.SameBut e hd hf := sf
   exact wpAny_pure (ends hf true gf (fun c o n ec => sf.extBut c o n ec) sf.1 (wd.extBut sf.extBut (Ne.symm ne)))
theorem enS_type {h : Heap} {e b : Addr} {i : Nat} (he : EnS h e b i) : ∃ o,h.get? e = some o ∧ o.cls = .type "enumerate" := by
 obtain ⟨f0,f1,x,ge,_⟩ := he
 exact ⟨_,ge,rfl⟩
theorem en_item {e b t : Addr} {i : Nat} {its : Array Value} {x : Value} {Q : Option Value → Shared → Prop} (he : EnS s.heap e b i) (hb : IsTupIter s.heap b t i) (ht : IsTup s.heap t its) (hx : its[i]? = some x) (ne : e ≠ b)
  (q : ∀ (h' : Heap) (tk tk' : Nat),EnS h' e b (i + 1) → IsTupIter h' b t (i + 1) → h'.get? s.heap.objs.size = some { cls := .type "tuple",data := .seq #[.int i tk,x] } → h'.objs.size = s.heap.objs.size + 1 →
   (∀ c o,c ≠ e → c ≠ b → s.heap.get? c = some o → h'.get? c = some o) → Q (some (.ref s.heap.objs.size)) { s with heap := h',toks := tk' }) : wpAny (model prog w) A (pyNext (.ref e)) Q E s := by
 have hT : s.TypeIs (.ref e) "enumerate" := enS_type he
 unfold pyNext
 exact wpAny_bind (wpAny_attempt (wpAny_callSpecial?_slot (name := Str.ofString "__next__") hT F.slot_enumerate_next (wpAny_call_entry F.slot_enumerate_next hT F.entry_enumerate_next (enS_next he hb ht hx ne fun h' tk tk' a1 a2 a3 a4 a5 => wpAny_pure (q h' tk tk' a1 a2 a3 a4 a5)) (F.args_enumerate_next_1 _))))
theorem en_done {e b t : Addr} {i : Nat} {its : Array Value} {Q : Option Value → Shared → Prop} (hh : A.handled = none) (he : EnS s.heap e b i) (hb : IsTupIter s.heap b t i) (ht : IsTup s.heap t its) (hx : its[i]? = none)
  (q : ∀ h',Heap.ExtBut b s.heap h' → Q none { s with heap := h' }) : wpAny (model prog w) A (pyNext (.ref e)) Q E s := by
 have hT : s.TypeIs (.ref e) "enumerate" := enS_type he
 obtain ⟨f0,f1,old,ge,_⟩ := he
 unfold pyNext
 refine wpAny_bind (wpAny_attempt (wpAny_callSpecial?_slot (name := Str.ofString "__next__") hT F.slot_enumerate_next (wpAny_call_entry F.slot_enumerate_next hT F.entry_enumerate_next ?_ (F.args_enumerate_next_1 _))))
 refine show wpAny _ _ (field (.ref e) 2 >>= _) _ _ _ from wpAny_bind (wpAny_field ge rfl (x := .ref b) rfl (wpAny_bind (nextT_end hh hb ht hx fun h' ex sx hex => ?_)))
 obtain ⟨o,ho,hc⟩ := hex
 exact wpAny_bind (wpAny_isInstance (T := "StopIteration") (b := true) ⟨o,ho,hc⟩ isSubtype_stop (wpAny_pure (q _ sx)))
structure EnL (h0 : Heap) (e b t S : Addr) (its : Array Value) (i : Nat) (acc : Array Value) (h : Heap) : Prop where
 en : EnS h e b i
 wk : IsTupIter h b t i
 tp : IsTup h t its
 ls : ∃ c,h.get? S = some { cls := .type "list",dict := none,data := .seq acc c,slots := #[] }
 sz : acc.size = i
 pr : ∀ (j : Nat) (v : Value),acc[j]? = some v → ∃ (T : Addr) (tk : Nat) (x : Value),v = .ref T ∧ h0.objs.size ≤ T ∧ its[j]? = some x ∧ h.get? T = some { cls := .type "tuple",data := .seq #[.int j tk,x] }
 kp : ∀ c o,c ≠ e → c ≠ b → c ≠ S → h0.get? c = some o → h.get? c = some o
 bg : h0.objs.size ≤ h.objs.size
theorem en_loop {R : Result → Shared → Prop} {h0 : Heap} {e b t S : Addr} {its : Array Value} {res : Value} (hh : A.handled = none) (hn : its.size ≤ sizeLine) (ne : e ≠ b) (nS : S ≠ e) (nb : S ≠ b) (nt : t ≠ e) (ntb : t ≠ b) (ntS : t ≠ S) (le : e < h0.objs.size) (lb : b < h0.objs.size) (lS : S < h0.objs.size) :
  ∀ (k i : Nat) (s : Shared) (acc : Array Value),its.size - i = k → i ≤ its.size → EnL h0 e b t S its i acc s.heap →
  (∀ (h' : Heap) (tk : Nat) (acc' : Array Value),EnL h0 e b t S its its.size acc' h' ∨ (∃ c,h'.get? S = some { cls := .type "list",dict := none,data := .seq acc' c,slots := #[] }) ∧ acc'.size = its.size ∧
   (∀ (j : Nat) (v : Value),acc'[j]? = some v → ∃ (T : Addr) (tk : Nat) (x : Value),v = .ref T ∧ h0.objs.size ≤ T ∧ its[j]? = some x ∧ h'.get? T = some { cls := .type "tuple",data := .seq #[.int j tk,x] }) ∧ (∀ c o,c ≠ e → c ≠ b → c ≠ S → h0.get? c = some o → h'.get? c = some o) → R (.ok (.ret res)) { s with heap := h',toks := tk }) →
  codeAny (model prog w) A (.builtin "list.extend.loop" ⟨[.ref S,.ref e,res],[]⟩) R s := by
 intro k
 induction k with
 | zero =>
  intro i s acc hk hi L q
  obtain rfl : i = its.size := by lia
  refine codeAny_builtin F.entry_extend_loop ?_
  rw [Around.under_plainId F.plain_extend_loop _]
  refine show wpAny _ A.in1 (pyNext (.ref e) >>= _) _ _ s from wpAny_bind (en_done hh L.en L.wk L.tp (by simp) fun h' sx => ?_)
  obtain ⟨c,lc⟩ := L.ls
  refine wpAny_pure (q h' s.toks acc (.inr ⟨⟨c,sx _ _ nb lc⟩,L.sz,fun j v hj => ?_,fun c o n1 n2 n3 ec => sx _ _ n2 (L.kp c o n1 n2 n3 ec)⟩))
  obtain ⟨T,tk,x,r1,r2,r3,r4⟩ := L.pr j v hj
  exact ⟨T,tk,x,r1,r2,r3,sx _ _ (Nat.ne_of_gt (Nat.lt_of_lt_of_le lb r2)) r4⟩
 | succ k ih =>
  intro i s acc hk hi L q
  have lt : i < its.size := by lia
  refine codeAny_builtin F.entry_extend_loop ?_
  rw [Around.under_plainId F.plain_extend_loop _]
  refine show wpAny _ A.in1 (pyNext (.ref e) >>= _) _ _ s from wpAny_bind (en_item L.en L.wk L.tp (Array.getElem?_eq_getElem lt) ne fun h' tk tk' a1 a2 a3 a4 a5 => ?_)
  obtain ⟨c,lc⟩ := L.ls
  have lc' := a5 _ _ nS nb lc
  have S' := Heap.get?_update_self (Obj.mapSeq (·.push (Value.ref s.heap.objs.size))) lc' rfl
  have oth : ∀ c o,c ≠ S → h'.get? c = some o → (h'.update S (Obj.mapSeq (·.push (Value.ref s.heap.objs.size)))).get? c = some o := fun c o n ec => (Heap.get?_update_other _ _ (Ne.symm n)).trans ec
  have zu : (h'.update S (Obj.mapSeq (·.push (Value.ref s.heap.objs.size)))).objs.size = h'.objs.size := (Heap.SameBut.update ..).1
  have bg := L.bg
  refine show wpAny _ A.in1 (updateSeq S (·.push (.ref s.heap.objs.size)) >>= _) _ _ _ from wpAny_bind ?_
  refine wpAny_updateSeq lc' rfl (wpAny_pure ⟨plainId_quiet F.plain_extend_loop _,ih (i + 1) _ (acc.push (.ref s.heap.objs.size)) (by lia) lt ?_ fun h2 tk2 acc2 r => q h2 tk2 acc2 r⟩) (by rw [L.sz]; lia) (by show (acc.push (Value.ref s.heap.objs.size)).size ≤ sizeLine + 1; rw [Array.size_push,L.sz]; lia)
  show EnL h0 e b t S its (i + 1) _ (h'.update S (Obj.mapSeq (·.push (Value.ref s.heap.objs.size))))
  generalize h'.update S (Obj.mapSeq (·.push (Value.ref s.heap.objs.size))) = h2 at S' oth zu ⊢
  refine ⟨?_,?_,?_,⟨_,S'⟩,by rw [Array.size_push,L.sz],fun j v hj => ?_,fun c' o n1 n2 n3 ec => oth _ _ n3 (a5 _ _ n1 n2 (L.kp c' o n1 n2 n3 ec)),by rw [zu,a4]; exact Nat.le_succ_of_le bg⟩
  ·obtain ⟨f0,f1,x,ge,life⟩ := a1
   refine ⟨f0,f1,x,oth _ _ (Ne.symm nS) ge,life.imp_right ?_⟩
   rintro ⟨T,o,r1,r2,r3,r4⟩
   by_cases hT : T = S
   ·exact ⟨T,_,r1,hT ▸ S',r3,r4⟩
   ·exact ⟨T,o,r1,oth _ _ hT r2,r3,r4⟩
  ·obtain ⟨o,ho,r⟩ := a2
   exact ⟨o,oth _ _ (Ne.symm nb) ho,r⟩
  ·obtain ⟨o,ho,r⟩ := L.tp
   exact ⟨o,oth _ _ ntS (a5 _ _ nt ntb ho),r⟩
  ·rw [Array.getElem?_push] at hj
   split at hj
   ·rename_i ej
    rw [L.sz] at ej
    cases hj
    subst ej
    refine ⟨_,tk,its[j],rfl,bg,Array.getElem?_eq_getElem lt,oth _ _ (Nat.ne_of_gt (Nat.lt_of_lt_of_le lS bg)) a3⟩
   ·obtain ⟨T,tk1,x,r1,r2,r3,r4⟩ := L.pr j v hj
    exact ⟨T,tk1,x,r1,r2,r3,oth _ _ (Nat.ne_of_gt (Nat.lt_of_lt_of_le lS r2)) (a5 _ _ (Nat.ne_of_gt (Nat.lt_of_lt_of_le le r2)) (Nat.ne_of_gt (Nat.lt_of_lt_of_le lb r2)) r4)⟩
end
end L2
set_option Elab.async false
set_option linter.all false
set_option maxRecDepth 100000
namespace L2
open PySem PySem.Spec PyProof.Rows
theorem en_no_len : typeLookup (.type "enumerate") "__len__" = pure none := by rw [typeLookup_type,builtinLookup_eq_fast]; kernel_rfl
theorem en_no_hint : typeLookup (.type "enumerate") "__length_hint__" = pure none := by rw [typeLookup_type,builtinLookup_eq_fast]; kernel_rfl
noncomputable abbrev eT1 (h : Heap) (l : Addr) : Heap := h.push { cls := .type "tuple_iterator",data := .fields #[.ref l,.int 0 0] }
noncomputable abbrev eT2 (h : Heap) (l : Addr) : Heap := (eT1 h l).push { cls := .type "enumerate",data := .fields #[.none,.bool false,.ref h.objs.size,rawInt 0,.none,.none] }
theorem meets_enumT (l : Addr) (xs : Array Value) :
  Meets (Builtin.«enumerate.__new__» ⟨[.type "enumerate",.ref l],[]⟩) (fun _ R s => IsTup s.heap l xs ∧ R (.ok (.ret (.ref (eT1 s.heap l).objs.size))) { s with heap := eT2 s.heap l }) :=
 .of_wp fun prog w A R s h => by
  obtain ⟨hp,g,d,tk,os⟩ := s
  obtain ⟨tl,h⟩ := h
  have sub := sub_enumerate
  have T1 : IsTup (Shared.heap ⟨hp,g,d,tk,os⟩) l xs := tl
  obtain ⟨ob,ho,hc,n,hd⟩ := id tl
  wp_walk using wpAny_loadPart' ho
  refine wpAny_stack_any fun st => wpAny_pure ?_
  split
  ·rename_i c _ _ _ _ _
   cases (c == Value.type "enumerate")
   ·wp_walk using wpAny_loadPart' ho,iter_tuple T1
    exact ⟨_,rfl,h⟩
   ·wp_walk using wpAny_loadPart' ho,iter_tuple T1
    exact ⟨_,rfl,h⟩
  ·wp_walk using wpAny_loadPart' ho,iter_tuple T1
   exact ⟨_,rfl,h⟩
section
variable {prog : Program} {w : World} {A : Around} {E : Value → Shared → Prop} {s : Shared}
theorem call_enumT {l : Addr} {xs : Array Value} {Q : Value → Shared → Prop} (tl : IsTup s.heap l xs)
  (q : ∀ h',IsEnum h' (s.heap.objs.size + 1) s.heap.objs.size 0 .none → IsTupIter h' s.heap.objs.size l 0 → h'.objs.size = s.heap.objs.size + 2 → (∀ c o,s.heap.get? c = some o → h'.get? c = some o) → Q (.ref (s.heap.objs.size + 1)) { s with heap := h' }) :
  wpAny (model prog w) A (call (.type "enumerate") [.ref l]) Q E s := by
 refine callType_new F.called_enumerate (by decide) (F.typeCall_enumerate_1 _) (F.newCall_enumerate_1 _) (fun obj => F.args_object_init_2 obj _) F.entry_enumerate_new (meets_enumT l xs) ⟨tl,?_⟩
 have n1 : (eT1 s.heap l).objs.size = s.heap.objs.size + 1 := Heap.size_push ..
 have n2 : (eT2 s.heap l).objs.size = s.heap.objs.size + 2 := by rw [Heap.size_push,n1]
 have e2 : (eT2 s.heap l).get? (eT1 s.heap l).objs.size = some _ := Heap.get?_push_size _ rfl
 have e1 : (eT2 s.heap l).get? s.heap.objs.size = some _ := Heap.get?_push_of_some _ (Heap.get?_push_size _ rfl)
 refine show _ ∧ _ from ?_
 rw [n1] at e2 ⊢
 exact ⟨⟨_,e2,rfl⟩,q _ e2 ⟨_,e1,rfl,rfl⟩ n2 fun c o x => Heap.get?_push_of_some _ (Heap.get?_push_of_some _ x)⟩
noncomputable def EnOut (h0 : Heap) (its : Array Value) (acc : Array Value) (h : Heap) : Prop := acc.size = its.size ∧
 ∀ (j : Nat) (v : Value),acc[j]? = some v → ∃ (T : Addr) (tk : Nat) (x : Value),v = .ref T ∧ h0.objs.size < T ∧ its[j]? = some x ∧ h.get? T = some { cls := .type "tuple",data := .seq #[.int j tk,x] }
theorem call_listE {e b t : Addr} {its : Array Value} {Q : Value → Shared → Prop} (hh : A.handled = none) (hn : its.size ≤ sizeLine) (he : IsEnum s.heap e b 0 .none) (hb : IsTupIter s.heap b t 0) (ht : IsTup s.heap t its) (ne : e ≠ b) (nt : t ≠ e) (ntb : t ≠ b)
  (q : ∀ (h' : Heap) (tk : Nat) (acc : Array Value) (c : Nat),(∀ a o,a ≠ e → a ≠ b → s.heap.get? a = some o → h'.get? a = some o) → h'.get? s.heap.objs.size = some { cls := .type "list",dict := none,data := .seq acc c,slots := #[] } → EnOut s.heap its acc h' → Q (.ref s.heap.objs.size) { s with heap := h',toks := tk }) :
  wpAny (model prog w) A (call (.type "list") [.ref e]) Q E s := by
 refine callType_codes (Q₁ := fun obj s₁ => obj = .ref s.heap.objs.size ∧ s₁ = { s with heap := s.heap.push { cls := .type "list",data := .seq #[] } }) F.called_list (F.typeCall_list_1 _) F.entry_list_init
  (code_list_new _ ⟨rfl,rfl⟩) fun obj s₁ h₁ => ?_
 obtain ⟨rfl,rfl⟩ := h₁
 have hS : (s.heap.push { cls := .type "list",data := .seq #[] }).get? s.heap.objs.size = some { cls := .type "list",data := .seq #[] } := Heap.get?_push_size _ rfl
 refine ⟨⟨_,hS,rfl⟩,F.args_list_init_2 _ _,?_⟩
 have le : e < s.heap.objs.size := Heap.lt_size he
 have lb : b < s.heap.objs.size := by obtain ⟨o,ho,_⟩ := hb; exact Heap.lt_size ho
 have lt : t < s.heap.objs.size := by obtain ⟨o,ho,_⟩ := ht; exact Heap.lt_size ho
 have k0 : ∀ c o,s.heap.get? c = some o → (s.heap.push { cls := .type "list",data := .seq #[] }).get? c = some o := fun c o e => Heap.get?_push_of_some _ e
 have z0 : (s.heap.push { cls := .type "list",data := .seq #[] }).objs.size = s.heap.objs.size + 1 := Heap.size_push ..
 generalize s.heap.push { cls := .type "list",data := .seq #[] } = G at hS k0 z0 ⊢
 refine show wpAny _ _ (do let old ← Builtin.List.listItems (.ref s.heap.objs.size); Builtin.List.listUpdate (.ref s.heap.objs.size) (fun _ => #[]); letGo old.toList.reverse; Builtin.List.listExtendWith (.ref s.heap.objs.size) (.ref e) .none) _ _ _ from ?_
 refine wpAny_bind ?_
 unfold Builtin.List.listItems
 refine wpAny_bind (wpAny_seqItems hS rfl (wpAny_pure ?_))
 refine show wpAny _ _ (updateSeq s.heap.objs.size (fun _ => #[]) >>= fun _ => letGo (#[] : Array Value).toList.reverse >>= fun _ => Builtin.List.listExtendWith (.ref s.heap.objs.size) (.ref e) .none) _ _ _ from ?_
 refine wpAny_bind (wpAny_updateSeq hS rfl ?_)
 have S1 := Heap.get?_update_self (Obj.mapSeq (fun _ => (#[] : Array Value))) hS rfl
 have o1 : ∀ c o,c ≠ s.heap.objs.size → s.heap.get? c = some o → (G.update s.heap.objs.size (Obj.mapSeq (fun _ => (#[] : Array Value)))).get? c = some o := fun c o n ec => (Heap.get?_update_other _ _ (Ne.symm n)).trans (k0 c o ec)
 have z1 : (G.update s.heap.objs.size (Obj.mapSeq (fun _ => (#[] : Array Value)))).objs.size = s.heap.objs.size + 1 := ((Heap.SameBut.update ..).1).trans z0
 refine wpAny_bind (wpAny_letGo ?_)
 refine show wpAny _ _ _ _ _ { s with heap := G.update s.heap.objs.size (Obj.mapSeq (fun _ => (#[] : Array Value))) } from ?_
 generalize G.update s.heap.objs.size (Obj.mapSeq (fun _ => (#[] : Array Value))) = G1 at S1 o1 z1 ⊢
 have nS : s.heap.objs.size ≠ e := Nat.ne_of_gt le
 have nb : s.heap.objs.size ≠ b := Nat.ne_of_gt lb
 have he1 : IsEnum G1 e b 0 .none := o1 _ _ (Ne.symm nS) he
 have hT1 : Shared.TypeIs { s with heap := G1 } (.ref e) "enumerate" := ⟨_,he1,rfl⟩
 unfold Builtin.List.listExtendWith
 refine wpAny_bind (wpAny_typeOf hT1 ?_)
 have n1 : Builtin.List.listSameRef (.ref s.heap.objs.size) (.ref e) = false := by simp [Builtin.List.listSameRef]; exact nS
 simp only [n1,show (Value.type "enumerate" == Value.type "list") = false by decide,show (Value.type "enumerate" == Value.type "tuple") = false by decide,Bool.or_false,Bool.false_eq_true,if_false]
 refine wpAny_bind (wpAny_pyIter_enum he1 ?_)
 refine wpAny_bind (wpAny_holding ?_)
 unfold Builtin.List.listLengthHint
 refine wpAny_bind (wpAny_specialOf hT1 en_no_len ?_)
 refine show wpAny _ _ (specialOf (Value.ref e) (Str.ofString "__length_hint__") >>= _) _ _ _ from wpAny_bind (wpAny_specialOf hT1 en_no_hint (wpAny_pure ?_))
 refine show wpAny _ _ (rule "list.extend.makes-room" >>= fun _ => Builtin.List.listTouch (.ref s.heap.objs.size) >>= fun _ => again (.builtin "list.extend.loop" ⟨[.ref s.heap.objs.size,.ref e,.none],[]⟩)) _ _ _ from wpAny_bind (wpAny_rule (wpAny_bind ?_))
 refine show wpAny _ _ (updateSeq s.heap.objs.size (·.push .none) >>= fun _ => updateSeq s.heap.objs.size (·.pop)) _ _ _ from wpAny_bind (wpAny_updateSeq S1 rfl ?_)
 have S2 := Heap.get?_update_self (Obj.mapSeq (·.push Value.none)) S1 rfl
 refine wpAny_updateSeq S2 rfl ?_
 have S3 := Heap.get?_update_self (Obj.mapSeq (·.pop)) S2 rfl
 have o3 : ∀ c o,c ≠ s.heap.objs.size → s.heap.get? c = some o → ((G1.update s.heap.objs.size (Obj.mapSeq (·.push Value.none))).update s.heap.objs.size (Obj.mapSeq (·.pop))).get? c = some o := fun c o n ec => (Heap.get?_update_other _ _ (Ne.symm n)).trans ((Heap.get?_update_other _ _ (Ne.symm n)).trans (o1 c o n ec))
 have z3 : ((G1.update s.heap.objs.size (Obj.mapSeq (·.push Value.none))).update s.heap.objs.size (Obj.mapSeq (·.pop))).objs.size = s.heap.objs.size + 1 := ((Heap.SameBut.update ..).1).trans (((Heap.SameBut.update ..).1).trans z1)
 refine show wpAny _ _ _ _ _ { s with heap := (G1.update s.heap.objs.size (Obj.mapSeq (·.push Value.none))).update s.heap.objs.size (Obj.mapSeq (·.pop)) } from ?_
 generalize (G1.update s.heap.objs.size (Obj.mapSeq (·.push Value.none))).update s.heap.objs.size (Obj.mapSeq (·.pop)) = G3 at S3 o3 z3 ⊢
 have upT : ∀ (c : Addr),c < s.heap.objs.size → c ≠ s.heap.objs.size := fun c l => Nat.ne_of_lt l
 refine wpAny_pure ⟨plainId_quiet F.plain_extend_loop _,en_loop (A := A.in1) (h0 := G3) hh hn ne nS nb nt ntb (upT t lt) (z3 ▸ Nat.lt_succ_of_lt le) (z3 ▸ Nat.lt_succ_of_lt lb) (z3 ▸ Nat.lt_succ_self _) its.size 0 _ #[] rfl (Nat.zero_le _) ?_ fun h' tk acc' r => ?_⟩
 ·refine ⟨⟨.none,false,.none,o3 _ _ (upT e le) he,.inl rfl⟩,?_,?_,⟨_,S3⟩,rfl,fun j v hj => by simp at hj,fun c o _ _ _ ec => ec,Nat.le_refl _⟩
  ·obtain ⟨o,ho,r⟩ := hb
   exact ⟨o,o3 _ _ (upT b lb) ho,r⟩
  ·obtain ⟨o,ho,r⟩ := ht
   exact ⟨o,o3 _ _ (upT t lt) ho,r⟩
 ·have fin : (∃ c,h'.get? s.heap.objs.size = some { cls := .type "list",dict := none,data := .seq acc' c,slots := #[] }) ∧ acc'.size = its.size ∧
   (∀ (j : Nat) (v : Value),acc'[j]? = some v → ∃ (T : Addr) (tk : Nat) (x : Value),v = .ref T ∧ G3.objs.size ≤ T ∧ its[j]? = some x ∧ h'.get? T = some { cls := .type "tuple",data := .seq #[.int j tk,x] }) ∧ (∀ c o,c ≠ e → c ≠ b → c ≠ s.heap.objs.size → G3.get? c = some o → h'.get? c = some o) := by
   rcases r with L | r
   ·exact ⟨L.ls,L.sz,L.pr,L.kp⟩
   ·exact r
  obtain ⟨⟨c,ls⟩,sz,pr,kp⟩ := fin
  refine ⟨rfl,q h' tk acc' c (fun a o n1 n2 ea => kp a o n1 n2 (upT a (Heap.lt_size ea)) (o3 a o (upT a (Heap.lt_size ea)) ea)) ls ⟨sz,fun j v hj => ?_⟩⟩
  obtain ⟨T,tk1,x,r1,r2,r3,r4⟩ := pr j v hj
  exact ⟨T,tk1,x,r1,by rw [z3] at r2; exact r2,r3,r4⟩
end
end L2
set_option Elab.async false
set_option linter.all false
set_option maxRecDepth 100000
namespace L2
open PySem PySem.Spec PyProof.Rows
noncomputable def lay (H : Hp) : List (Addr × HO) → Hp
 | [] => H
 | p :: r => lay (upd H p.1 p.2) r
theorem lay_new : ∀ {r : List (Addr × HO)} {H : Hp} {b : Addr} {o : HO},lay H r b = some o → H b = some o ∨ (b,o) ∈ r
 | [],_,_,_,h => .inl h
 | p :: r,H,b,o,h => by
  rcases lay_new (r := r) h with h | h
  ·by_cases hb : b = p.1
   ·subst hb
    rw [upd_same] at h
    obtain rfl := Option.some.inj h
    exact .inr List.mem_cons_self
   ·rw [upd_ne hb] at h
    exact .inl h
  ·exact .inr (List.mem_cons_of_mem _ h)
theorem lay_old : ∀ {r : List (Addr × HO)} {H : Hp},(∀ p ∈ r,H p.1 = none) → (r.map (·.1)).Nodup → Same H (lay H r)
 | [],H,_,_ => Same.refl H
 | p :: r,H,f,n => by
  have n' := List.nodup_cons.mp (show (p.1 :: r.map (·.1)).Nodup from n)
  refine (same_new (f p List.mem_cons_self) p.2).trans (lay_old (fun q hq => ?_) n'.2)
  rw [upd_ne (show q.1 ≠ p.1 from fun e => n'.1 (List.mem_map.mpr ⟨q,hq,e⟩))]
  exact f q (List.mem_cons_of_mem _ hq)
theorem lay_at : ∀ {r : List (Addr × HO)} {H : Hp},(∀ p ∈ r,H p.1 = none) → (r.map (·.1)).Nodup → ∀ p ∈ r,lay H r p.1 = some p.2
 | [],H,_,_ => fun p hp => by cases hp
 | p :: r,H,f,n => fun q hq => by
  have n' := List.nodup_cons.mp (show (p.1 :: r.map (·.1)).Nodup from n)
  have f' : ∀ q ∈ r,upd H p.1 p.2 q.1 = none := fun q hq => by
   rw [upd_ne (show q.1 ≠ p.1 from fun e => n'.1 (List.mem_map.mpr ⟨q,hq,e⟩))]
   exact f q (List.mem_cons_of_mem _ hq)
  rcases List.mem_cons.mp hq with rfl | hq
  ·exact lay_old f' n'.2 _ _ upd_same
  ·exact lay_at f' n'.2 q hq
section
variable {X : Cx} {pins : List (Addr × Obj)} {σ : St} {H H' : Hp} {s : Shared} {h' : Heap}
theorem Inv.many {t' : Nat} (I : Inv X pins σ H s) (k : ∀ b u,s.heap.get? b = some u → h'.get? b = some u) (old : Same H H') (new : ∀ b o,H' b = some o → H b = some o ∨ s.heap.objs.size ≤ b ∧ ObjOk X.prog X.w H' h' b o) : Inv X pins σ H' { s with heap := h',toks := t' } := by
 refine I.un ⟨fun b u q _ _ _ => k b u q,fun b u q _ _ _ => ⟨u.slots,k b u q⟩,fun b u q n _ => ?_,fun b u q _ => ⟨u,k b u q⟩,fun b xs q => old _ _ q,fun b u xs q => old _ _ q,fun b ps q => ⟨#[],by rw [old _ _ q]; simp⟩⟩ fun b o e => ?_
 ·cases e : H' b with
  | none => rfl
  | some o =>
   rcases new b o e with e' | ⟨l,_⟩
   ·rw [n] at e'; cases e'
   ·exact absurd (Heap.lt_size q) (Nat.not_lt.mpr l)
 ·rcases new b o e with e' | ⟨_,ok⟩
  ·exact (I.hok b o e').stay (fun c v _ q => k c v q) (fun c q => old _ _ q) fun c xs q => old _ _ q
  ·exact ok
end
noncomputable def enD : Nat → List Dt → List Dt
 | _,[] => []
 | j,d :: l => .tup [.int j,d] :: enD (j + 1) l
noncomputable abbrev pairO (j tk : Nat) (x : Value) : Obj := { cls := .type "tuple",data := .seq #[.int j tk,x] }
inductive Rws (h : Heap) (lo : Nat) : Nat → List V → List (Addr × HO) → Prop
 | nil {j : Nat} : Rws h lo j [] []
 | cons {j T tk : Nat} {x : Value} {v : V} {vs : List V} {r : List (Addr × HO)} : lo < T → RelV v x → h.get? T = some (pairO j tk x) → Rws h lo (j + 1) vs r → Rws h lo j (v :: vs) ((T,plO [.int j,v] [.int j tk,x]) :: r)
theorem Rws.num {h : Heap} {lo : Nat} : ∀ {j : Nat} {vs : List V} {r : List (Addr × HO)},Rws h lo j vs r → ∀ p ∈ r,lo < p.1 ∧ ∃ i tk x,j ≤ i ∧ h.get? p.1 = some (pairO i tk x)
 | _,_,_,.nil => fun p hp => by cases hp
 | j,_,_,.cons (tk := tk) (x := x) l _ e r => fun p hp => by
  rcases List.mem_cons.mp hp with rfl | hp
  ·exact ⟨l,j,tk,x,Nat.le_refl _,e⟩
  ·obtain ⟨a,i,tk,x,le,e⟩ := r.num p hp
   exact ⟨a,i,tk,x,Nat.le_of_succ_le le,e⟩
theorem Rws.nodup {h : Heap} {lo : Nat} : ∀ {j : Nat} {vs : List V} {r : List (Addr × HO)},Rws h lo j vs r → (r.map (·.1)).Nodup
 | _,_,_,.nil => List.nodup_nil
 | j,_,_,.cons (T := T) (tk := tk) (x := x) l _ e r => by
  refine List.nodup_cons.mpr ⟨fun hm => ?_,r.nodup⟩
  obtain ⟨p,hp,ep⟩ := List.mem_map.mp hm
  obtain ⟨_,i,tk',x',le,e'⟩ := r.num p hp
  rw [show p.1 = T from ep,e] at e'
  have := Option.some.inj e'
  simp only [pairO,Obj.mk.injEq,Data.seq.injEq,Array.mk.injEq,List.cons.injEq,Value.int.injEq] at this
  lia
theorem Rws.ok {P : Program} {w : World} {h : Heap} {lo : Nat} {H' : Hp} : ∀ {j : Nat} {vs : List V} {r : List (Addr × HO)},Rws h lo j vs r → ∀ p ∈ r,ObjOk P w H' h p.1 p.2
 | _,_,_,.nil => fun p hp => by cases hp
 | j,_,_,.cons (tk := tk) (x := x) l rv e r => fun p hp => by
  rcases List.mem_cons.mp hp with rfl | hp
  ·exact ⟨e,by simp [sizeLine],_,.cons ⟨_,rfl⟩ (.cons rv .nil),⟨_,e,rfl,_,rfl⟩⟩
  ·exact r.ok p hp
theorem Rws.isPs {K : PySem.W.Frag} {h : Heap} {lo : Nat} {H H' : Hp} (sm : Same H H') : ∀ {j : Nat} {vs : List V} {r : List (Addr × HO)} {l : List Dt},Rws h lo j vs r → IsPs K H l vs → (∀ p ∈ r,H' p.1 = some p.2) → IsPs K H' (enD j l) (r.map fun p => V.ref p.1)
 | _,_,_,_,.nil,.nil,_ => .nil
 | j,_,_,_,.cons (T := T) l rv e r,.cons d ds,f => by
  refine .cons (.tup (.inl (.inr ⟨_,f _ List.mem_cons_self⟩)) ⟨_,_,f _ List.mem_cons_self,rfl⟩ (.cons .int (.cons (d.same sm) .nil))) (r.isPs sm ds fun p hp => f p (List.mem_cons_of_mem _ hp))
theorem Rws.of {h : Heap} {lo : Nat} : ∀ {xs : List V} {its us : List Value} {j : Nat},Vals xs its → us.length = its.length → (∀ (i : Nat) (v : Value),us[i]? = some v → ∃ (T : Addr) (tk : Nat) (x : Value),v = .ref T ∧ lo < T ∧ its[i]? = some x ∧ h.get? T = some (pairO (j + i) tk x)) → ∃ r,Rws h lo j xs r ∧ us = r.map fun p => Value.ref p.1
 | _,_,us,j,.nil,hl,_ => by
  obtain rfl := List.length_eq_zero_iff.mp hl
  exact ⟨[],.nil,rfl⟩
 | _,_,us,j,.cons (a := v) (b := x) rv rs,hl,f => by
  cases us with
  | nil => cases hl
  | cons u us =>
   obtain ⟨T,tk,x',rfl,lt,e1,e2⟩ := f 0 u rfl
   obtain rfl : x = x' := by simpa using e1
   obtain ⟨r,h1,h2⟩ := Rws.of (j := j + 1) rs (Nat.succ.inj hl) fun i v hi => by
    obtain ⟨T,tk,x,a,b,c,d⟩ := f (i + 1) v (by simpa using hi)
    exact ⟨T,tk,x,a,b,by simpa using c,by rw [show j + 1 + i = j + (i + 1) by lia]; exact d⟩
   exact ⟨_,.cons lt rv e2 h1,by rw [h2]; rfl⟩
theorem vals_refs : ∀ (r : List (Addr × HO)),Vals (r.map fun p => V.ref p.1) (r.map fun p => Value.ref p.1)
 | [] => .nil
 | p :: r => .cons rfl (vals_refs r)
theorem Rws.length {h : Heap} {lo : Nat} : ∀ {j : Nat} {vs : List V} {r : List (Addr × HO)},Rws h lo j vs r → r.length = vs.length
 | _,_,_,.nil => rfl
 | _,_,_,.cons _ _ _ r => by rw [List.length_cons,List.length_cons,r.length]
section
variable {X : Cx}
noncomputable def tListEn (K : PySem.W.Frag) (te : TE) : TE := fun σ H Q => te σ H fun v H1 => ∃ a xs l,v = .ref a ∧ SqT K H1 a xs ∧ IsPs K H1 l xs ∧ ∀ p vs H',Same H1 H' → H1 p = none → H' p = some (.lst vs) → IsPs K H' (enD 0 l) vs → Q (.ref p) H'
theorem pe_listEn {e : Expr} {te : TE} {p1 p2 pos1 pos2 : Pos} (hc : X.calm = true) (hg1 : Gl X "list") (hm1 : X.mg "list" = none) (hg2 : Gl X "enumerate") (hm2 : X.mg "enumerate" = none) (he : PE X e te) (hs : starEach [e] X.env = [(false,eval e X.env)] := by rfl) :
  PE X (.Call (.Name "list" p1) [.Call (.Name "enumerate" p2) [e] [] pos2] [] pos1) (tListEn X.K te) := by
 intro pins s σ H Q I h
 refine wpAny_Call_Name_kw (ld_blt I hg1 hm1 (u := .type "list") rfl ?_)
 refine PyProof.Rows.callWith_type1 ?_ rfl rfl
 refine show wpAny _ _ (spliced ((false,eval (.Call (.Name "enumerate" p2) [e] [] pos2) X.env) :: backTo pos1 (starEach [] X.env))) _ _ s from Calls.spliced_cons ?_
 refine wpAny_Call_Name_kw (ld_blt I hg2 hm2 (u := .type "enumerate") rfl ?_)
 refine PyProof.Rows.callWith_type1 ?_ (by rw [hs]; rfl) rfl
 rw [hs]
 refine show wpAny _ _ (spliced ((false,eval e X.env) :: backTo pos2 [])) _ _ s from Calls.spliced_cons (thn (he pins s σ H _ I h) fun u s1 ⟨v,H1,I1,r1,a,xs,l,e1,hx,hl,q⟩ => Calls.spliced_nil ?_)
 subst e1
 cases r1
 obtain ⟨its,rr,pl,hz⟩ := I1.tuple hx
 have lta : a < s1.heap.objs.size := pl.lt
 refine call_enumT pl fun h1 en1 wk1 sz1 kk1 => Calls.spliced_nil ?_
 have pl1 : IsTup h1 a its.toArray := by obtain ⟨o,ho,r⟩ := pl; exact ⟨o,kk1 _ _ ho,r⟩
 have lx : its.length = xs.length := rr.length.symm
 refine call_listE (its := its.toArray) (I1.ok.hd hc) (by rw [List.size_toArray,lx]; exact hz) en1 wk1 pl1 (Nat.succ_ne_self _) (Nat.ne_of_lt (Nat.lt_succ_of_lt lta)) (Nat.ne_of_lt lta) fun h2 tk acc c kk2 ls out => ?_
 obtain ⟨o1,o2⟩ := out
 obtain ⟨r,rw1,us⟩ := Rws.of (h := h2) (lo := h1.objs.size) (us := acc.toList) (j := 0) rr (by rw [Array.length_toList,o1,List.size_toArray]) fun i v hi => by
  obtain ⟨T,tk,x,a,b,c,d⟩ := o2 i v (by simpa using hi)
  exact ⟨T,tk,x,a,b,by simpa using c,by rw [Nat.zero_add]; exact d⟩
 have kk : ∀ b o,s1.heap.get? b = some o → h2.get? b = some o := fun b o e => kk2 b o (Nat.ne_of_lt (Nat.lt_succ_of_lt (Heap.lt_size e))) (Nat.ne_of_lt (Heap.lt_size e)) (kk1 b o e)
 have big : ∀ p ∈ r,s1.heap.objs.size ≤ p.1 := fun p hp => by have := (rw1.num p hp).1; rw [sz1] at this; lia
 have fr : ∀ p ∈ r,H1 p.1 = none := fun p hp => I1.hok.fresh (big p hp)
 have frS : H1 h1.objs.size = none := I1.hok.fresh (by rw [sz1]; exact Nat.le_add_right _ _)
 have frL : lay H1 r h1.objs.size = none := by
  cases e : lay H1 r h1.objs.size with
  | none => rfl
  | some o =>
   rcases lay_new e with e | e
   ·rw [frS] at e; cases e
   ·exact absurd (rw1.num _ e).1 (Nat.lt_irrefl _)
 have sm : Same H1 (upd (lay H1 r) h1.objs.size (.lst (r.map fun p => V.ref p.1))) := (lay_old fr rw1.nodup).trans (same_new frL _)
 have at' : ∀ p ∈ r,upd (lay H1 r) h1.objs.size (.lst (r.map fun p => V.ref p.1)) p.1 = some p.2 := fun p hp => same_new frL _ _ _ (lay_at fr rw1.nodup p hp)
 refine ⟨.ref h1.objs.size,_,I1.many (t' := tk) kk sm fun b o eb => ?_,rfl,q _ _ _ sm frS upd_same (rw1.isPs sm hl at')⟩
 by_cases hb : b = h1.objs.size
 ·subst hb
  rw [upd_same] at eb
  obtain rfl := Option.some.inj eb
  refine .inr ⟨by rw [sz1]; exact Nat.le_add_right _ _,by rw [List.length_map,rw1.length]; exact hz,acc.toList,c,us ▸ vals_refs r,?_⟩
  rw [Array.toArray_toList]
  exact ls
 ·rw [upd_ne hb] at eb
  rcases lay_new eb with e | e
  ·exact .inl e
  ·exact .inr ⟨big _ e,rw1.ok _ e⟩
end
end L2
set_option Elab.async false
set_option linter.all false
set_option maxRecDepth 100000
namespace L2
open PySem PySem.Spec PyProof.Rows
theorem key_int {P : Program} {w : World} {i : Int} {v : Value} (h : (mixKind P w).is (Sum.inl i) v = true) : ∃ t,v = .int i t := by
 rcases keyIs_shape (show keyIs (Sum.inl i) v = true from h) with ⟨j,t,e,rfl⟩ | ⟨x,t,e,rfl⟩
 ·cases e
  exact ⟨t,rfl⟩
 ·cases e
theorem keys_ints {P : Program} {w : World} : ∀ {ns : List Int} {us : List Value},us.length = ns.length → (∀ (j : Nat) (v : Value),us[j]? = some v → ∃ z,ns[j]? = some z ∧ (mixKind P w).is (Sum.inl z) v = true) → IntsAre us ns
 | [],us,hl,_ => by
  cases us with
  | nil => exact .nil
  | cons u us => cases hl
 | z :: ns,us,hl,h => by
  cases us with
  | nil => cases hl
  | cons u us =>
   obtain ⟨z',e,hz⟩ := h 0 u rfl
   obtain rfl : z = z' := Option.some.inj e
   obtain ⟨t,rfl⟩ := key_int hz
   exact .cons z t (keys_ints (Nat.succ.inj hl) fun j v hj => by simpa using h (j + 1) v (by simpa using hj))
theorem valsI : ∀ {us : List Value} {ns : List Int},IntsAre us ns → Vals (ns.map V.int) us
 | _,_,.nil => .nil
 | _,_,.cons _ t r => .cons ⟨t,rfl⟩ (valsI r)
section
variable {prog : Program} {w : World} {A : Around} {E : Value → Shared → Prop} {s : Shared}
theorem sortedDI {d : Addr} {kvs : List (Key × Value)} {ns : List Int} {Q : Value → Shared → Prop} (hh : A.handled = none) (hd : (d == sysModules) = false) (hm : s.heap.DictOf (mixKind prog w) d kvs) (names : kvs.map (·.1) = ns.map Sum.inl) (h64 : ns.length < 64)
  (q : ∀ (h' : Heap) (t' : Nat) (a : Addr) (out : Array Value) (ns' : List Int) (n : Nat),(∀ b o,s.heap.get? b = some o → h'.get? b = some o) → s.heap.objs.size ≤ a → h'.get? a = some (seqObj "list" out n) → IntsAre out.toList ns' → ns'.Perm ns → ns'.Pairwise (· ≤ ·) → Q (.ref a) { s with heap := h',toks := t' }) :
  wpAny (model prog w) A (call (.builtin "sorted") [.ref d]) Q E s := by
 have lk : kvs.length = ns.length := by have := congrArg List.length names; simpa using this
 refine Calls.call_function_entry kind_sorted plain_sorted entry_sorted (args_sorted1 _) ?_
 unfold Builtin.«sorted»
 refine wpAny_bind (m := checkCount "sorted" 1 1 _) (wpAny_pure (wpAny_bind (collectD hh hd hm (by rw [lk]; exact Nat.le_of_lt (Nat.lt_trans h64 (by decide))) fun s1 acc kk low g1 d1 o1 items => ?_)))
 have hI : IntsAre acc.toList ns := keys_ints (P := prog) (w := w) (by rw [Array.length_toList,items.1,lk]) fun j v hj => by
  obtain ⟨k,x,e,hk⟩ := items.2 j v (by simpa using hj)
  have e2 : (kvs.map (·.1))[j]? = some k := by rw [List.getElem?_map,e]; rfl
  rw [names,List.getElem?_map] at e2
  obtain ⟨z,hz,rfl⟩ := Option.map_eq_some_iff.mp e2
  exact ⟨z,hz,hk⟩
 have lacc : acc.toList.length < 64 := by
  have := items.1
  simp only [Array.length_toList]
  lia
 refine wpAny_bind (wpAny_newList ?_)
 have hoL : (s1.heap.push (seqObj "list" acc.toList.toArray 0)).get? s1.heap.objs.size = some (seqObj "list" acc.toList.toArray 0) := Heap.get?_push_size _ rfl
 refine wpAny_bind (wpAny_holding (wpAny_call_entry slot_list_sort ⟨_,hoL,rfl⟩ entry_list_sort (list_sort_tree hoL hI lacc fun out ns' h1 h2 h3 => ⟨_,rfl,?_⟩) (args_list_sort _)))
 obtain ⟨e,he⟩ := sortedHeap_at (out := out) hoL
 obtain ⟨hp1,g',d',tk',os'⟩ := s1
 have e1 : g' = s.gens := g1
 have e2 : d' = s.drawn := d1
 have e3 : os' = s.os := o1
 subst e1 e2 e3
 refine wpAny_pure ⟨_,rfl,q _ tk' _ _ ns' e (fun b o eb => ?_) (Nat.le_of_lt low) he h1 h2 h3⟩
 have lt := Heap.lt_size (kk b o eb)
 rw [sortedHeap_old (Nat.ne_of_lt lt) (by rw [Heap.size_push]; exact Nat.lt_succ_of_lt lt)]
 exact Heap.get?_push_of_some _ (kk b o eb)
end
section
variable {X : Cx}
theorem call_sortDI (hc : X.calm = true) : CallR X (.builtin "sorted") (fun xs H Q => ∃ (p : Addr) (kvs : List (Key × V)) (ns : List Int),xs = [.ref p] ∧ H p = some (.dK kvs) ∧ kvs.map (·.1) = ns.map Sum.inl ∧ ns.length < 64 ∧ ∀ (a : Addr) (ns' : List Int),H a = none → ns'.Perm ns → ns'.Pairwise (· ≤ ·) → Q (.ref a) (upd H a (.lst (ns'.map V.int)))) := by
 intro pins s σ H xs us Q I r h
 obtain ⟨p,kvs,ns,rfl,hp,names,hl,q⟩ := h
 obtain ⟨u,rfl,rx⟩ := vals1 r
 cases rx
 obtain ⟨hz,hd,vs,kv,dof⟩ := dk_of I.hok hp
 refine sortedDI (ns := ns) (I.ok.hd hc) hd dof (by rw [← kv.keys]; exact names) hl fun h' t' a out ns' n kk low ea h1 h2 h3 => ?_
 have hn : H a = none := I.hok.fresh low
 refine ⟨.ref a,_,I.laid (t' := t') (o := .lst (ns'.map V.int)) kk low ?_,rfl,q a ns' hn h2 h3⟩
 have e2 : seqObj "list" out n = seqObj "list" out.toList.toArray n := by rw [Array.toArray_toList]
 refine ⟨?_,out.toList,n,valsI h1,?_⟩
 ·rw [List.length_map,h2.length_eq]
  exact Nat.le_of_lt (Nat.lt_trans hl (by decide))
 ·rw [ea,e2]
theorem call_sortDB (hc : X.calm = true) : CallR X (.builtin "sorted") (fun xs H Q => (∃ (p : Addr) (kvs : List (Key × V)) (ns : List Int),xs = [.ref p] ∧ H p = some (.dK kvs) ∧ kvs.map (·.1) = ns.map Sum.inl ∧ ns.length < 64 ∧ ∀ (a : Addr) (ns' : List Int),H a = none → ns'.Perm ns → ns'.Pairwise (· ≤ ·) → Q (.ref a) (upd H a (.lst (ns'.map V.int)))) ∨
  ∃ (p : Addr) (kvs : List (Key × V)) (ss : List Str),xs = [.ref p] ∧ H p = some (.dK kvs) ∧ kvs.map (·.1) = ss.map Sum.inr ∧ ss.length < 64 ∧ ∀ (a : Addr) (ss' : List Str),H a = none → ss'.Perm ss → sortedS ss' = true → Q (.ref a) (upd H a (.lst (ss'.map V.str)))) := (call_sortDI hc).or (call_sortD hc)
end
end L2
set_option Elab.async false
set_option linter.all false
set_option maxRecDepth 100000
set_option maxHeartbeats 4000000
namespace L2
open PySem PySem.Spec PyProof.Rows
section
variable {X : Cx} {tg : Expr} {pins : List (Addr × Obj)} {σ : St} {H : Hp} {s : Shared}
end
section
variable {X : Cx}
end
section
variable {a : Addr} {ob : Obj} {kvs : List (Key × V)} {g : TG} {l : Addr} {σ0 : St} {H0 : Hp} {R : Hp → Prop} {tb : List V → Addr → St → Hp → (List V → St → Hp → Prop) → Prop}
end
end L2
set_option Elab.async false
set_option linter.all false
set_option maxRecDepth 100000
set_option maxHeartbeats 4000000
namespace L2
open PySem PySem.Spec PyProof.Rows
section
variable {X : Cx}
theorem ps_setCIf {elt tgt iter c : Expr} {scope : Scope} {pos spos py : Pos} {NL N' : List Str} {ρ : List Nat} {wi : TI} {g : TG} {tc : TT} {te : TE} {j : Nat} {y : Str} (hN : X.N.Nodup) (hj : X.N[j]? = some y) (hy : Loc X.env.scope y)
  (hc : X.calm = true) (S : CScope X scope NL ρ N') (hi : PI X tgt iter wi) (hg : ∀ C s₀ H₀ fp,PG (ccx X scope C N' s₀ H₀ fp) tgt g) (ht : ∀ C s₀ H₀ fp,PT (ccx X scope C N' s₀ H₀ fp) c tc) (he : ∀ C s₀ H₀ fp,PE (ccx X scope C N' s₀ H₀ fp) elt te)
  (hsw : swapsWith (.ListComp elt [⟨tgt,iter,[c],0⟩] scope pos) (some (.Name y py)) spos.line X.env = pure true := by rfl) (hfn : X.fn y = true ∨ X.env.scope.names.lookup y = some .local := by first | exact .inl rfl | exact .inr rfl | assumption)
  (hs : ∀ x,foldedSetIterable iter X.env x = pure x := by intro _; rfl) : PS X (.Assign [.Name y py] (.ListComp elt [⟨tgt,iter,[c],0⟩] scope pos) spos) (tAsg (tComp NL.length ρ wi g (cIf tc te)) (gName j)) :=
 ps_compG (body := fun acc env => do
  let b ← PySem.isTrue c env (eval c env)
  if b then (do let x ← eval elt env; let _ ← call (.builtin "list.append") [acc,x]; pure ()) else pure ()) hN hj hy hfn hsw hc S hi hg (fun C s₀ H₀ fp => pb_if (ht C s₀ H₀ fp) (he C s₀ H₀ fp)) (fun it acc env => turn_eq1 elt tgt iter c scope pos it acc env) hs
end
end L2
set_option Elab.async false
set_option linter.all false
set_option maxRecDepth 100000
set_option maxHeartbeats 4000000
namespace L2
open PySem PySem.Spec PyProof.Rows
section
variable {prog : Program} {w : World} {A : Around} {E : Value → Shared → Prop} {s : Shared}
end
end L2
set_option Elab.async false
set_option linter.all false
set_option maxRecDepth 100000
set_option maxHeartbeats 4000000
namespace L2
open PySem PySem.Spec PyProof.Rows
section
variable {X : Cx}
end
end L2
set_option Elab.async false
set_option linter.all false
set_option maxRecDepth 100000
set_option maxHeartbeats 4000000
namespace L2
open PySem PySem.Spec PyProof.Rows
section
variable {X : Cx} {K : PySem.W.Frag}
end
end L2
set_option Elab.async false
set_option linter.all false
set_option maxRecDepth 100000
set_option maxHeartbeats 4000000
namespace L2
open PySem PySem.Spec PyProof.Rows
section
variable {X : Cx} {K : PySem.W.Frag}
inductive JSlP (K : PySem.W.Frag) (x : V) (lo hi : Option Int) (H : Hp) (Q : VK) : Prop
 | mk (l : List Dt) : (IsP K H (.tup l) x) → (∀ v H',Same H H' → IsP K H' (.tup (cutD l lo hi)) v → Q v H') → JSlP K x lo hi H Q
noncomputable def nSlP (K : PySem.W.Frag) : V → Option Int → Option Int → Hp → VK → Prop := fun x lo hi H Q => JSlP K x lo hi H Q
inductive JLenS (K : PySem.W.Frag) (xs : List V) (H : Hp) (Q : VK) : Prop
 | mk (p : Addr) (ys : List V) : (xs = [.ref p]) → ((SqL K H p ys ∨ SqT K H p ys)) → (Q (.int ys.length) H) → JLenS K xs H Q
noncomputable def nLenS (K : PySem.W.Frag) : List V → Hp → VK → Prop := fun xs H Q => JLenS K xs H Q
noncomputable def nListOf (K : PySem.W.Frag) : List V → Hp → VK → Prop := fun xs H Q => ∃ p ys,xs = [.ref p] ∧ (SqL K H p ys ∨ SqT K H p ys) ∧ ∀ l,H l = none → Q (.ref l) (upd H l (.lst ys))
theorem sl_tupPN (hK : X.K = K) : SlR X (nSlP K) := by
 subst hK
 intro pins s σ H x v vl vu lo hi sl Q I rx hs pl pu h
 obtain ⟨l,a,q⟩ := h
 exact sl_tupP _ _ _ _ _ _ _ _ _ _ _ _ I rx hs pl pu ⟨l,a,q⟩
theorem op_catSN (hK : X.K = K) : OpR X (binaryOp .Add) (rCatS K) := by subst hK; exact op_catS
theorem call_len_seqN (hK : X.K = K) : CallR X (.builtin "len") (nLenS K) := by
 subst hK
 intro pins s σ H xs us Q I r h
 obtain ⟨x,l,a,b,q⟩ := h
 exact call_len_seq _ _ _ _ _ _ _ I r ⟨x,l,a,b,q⟩
theorem call_list_ofN (hK : X.K = K) : CallR X (.type "list") (nListOf K) := by subst hK; exact call_list_of
end
section
variable {K : PySem.W.Frag} {a b l : Addr} {xs ys : List V} {g : TG} {tb : List V → Addr → St → Hp → (List V → St → Hp → Prop) → Prop} {R : Hp → Prop} {σ0 : St} {H0 : Hp}
end
section
variable {X : Cx} {K : PySem.W.Frag}
end
end L2
set_option Elab.async false
set_option linter.all false
set_option maxRecDepth 100000
set_option maxHeartbeats 4000000
namespace PySem
open Sem (wp)
namespace F
theorem miss_keys_list : typeLookup (.type "list") "keys" = pure none := by rw [typeLookup_type,builtinLookup_eq_fast]; kernel_rfl
end F
theorem keys_none_list {prog : Program} {w : World} {A : Around} {E : Value → Shared → Prop} {s : Shared} {a : Addr} {o : Obj} {xs : Array Value} {k : Nat} {Q : Option Value → Shared → Prop}
  (hx : s.heap.get? a = some o) (hc : o.cls = .type "list") (hdat : o.data = .seq xs k) (hd : o.dict = none) (hA : A.handled = none)
  (h : ∀ h' tk e,Heap.NewExcOf s.heap h' e "AttributeError" → Q none { s with heap := h',toks := tk }) :
  wpAny (model prog w) A (getAttr? (.ref a) "keys") Q E s := by
 obtain ⟨c,dct,dat,sl⟩ := o
 simp only at hc hdat hd
 subst hc hdat hd
 obtain ⟨hp,g,d,tk,os⟩ := s
 have hT : ∀ tk',(⟨hp,g,d,tk',os⟩ : Shared).TypeIs (.ref a) "list" := fun _ => ⟨_,hx,rfl⟩
 have f1 := sub_AttributeError
 have f3 := F.slot_list_getattribute.lookup
 have f4 := F.slot_list_getattribute.bind (.ref a)
 have f5 := am_list_getattr_none
 unfold getAttr? getAttrBy? getAttrBy
 repeat (any_goals (first | assumption | exact hT _ | ((with_reducible show wpAny _ _ (call (Value.builtin "list.__getattribute__") _ _) _ _ _); refine call_meets F.slot_list_getattribute (hT _) am_entry_list_getattribute (F.args_list_getattribute_2 _ _) (meets_getattribute_miss_list a xs k sl "keys" _ F.miss_keys_list (by decide)) ⟨hx,hA,fun h' tk' e hx' => ?_⟩) | wp_step))
 obtain ⟨t',u',he⟩ := hx'.there
 show wpAny _ _ (getattributeRaised _ _ _ _ _ _ _) _ _ _
 unfold getattributeRaised
 repeat (any_goals (first | assumption | wp_step))
 all_goals exact h _ _ _ hx'.of
section
variable {prog : Program} {w : World} {K : Type} [DecidableEq K] {kd : KeyKind prog w K} {A : Around} {E : Value → Shared → Prop}
theorem tupKey_stay {h h' : Heap} {ks : List K} {a : Addr} (x : IsTupleKey kd h ks a) (k : ∀ o,h.get? a = some o → h'.get? a = some o) : IsTupleKey kd h' ks a := by
 obtain ⟨o,its,n,e,r⟩ := x
 exact ⟨o,its,n,k o e,r⟩
theorem dictH_stay {h h' : Heap} {d : Addr} {xs : List (List K × Addr × Value)} (x : h.DictOfH (tupleKind kd) d xs) (hd : ∀ o,h.get? d = some o → h'.get? d = some o) (k : ∀ y ∈ xs,∀ o,h.get? y.2.1 = some o → h'.get? y.2.1 = some o) : h'.DictOfH (tupleKind kd) d xs := by
 obtain ⟨o,es,ep,e,c,dt,he,his,nd⟩ := x
 exact ⟨o,es,ep,hd o e,c,dt,he,fun y hy => tupKey_stay (his y hy) (k y hy),nd⟩
noncomputable def Heap.PairItemsT (h : Heap) (kd : KeyKind prog w K) (items : Array Value) (kvs : List (List K × Addr × Value)) : Prop :=
 items.size = kvs.length ∧ ∀ (i : Nat) (kv : List K × Addr × Value),kvs[i]? = some kv → ∃ a : Addr,items[i]? = some (.ref a) ∧ h.IsTuple a #[.ref kv.2.1,kv.2.2] ∧ IsTupleKey kd h kv.1 kv.2.1
theorem codeAny_dict_loopT {t it d : Addr} {items : Array Value} {kvs : List (List K × Addr × Value)} {R : Result → Shared → Prop} (hh : A.handled = none) (hu : A.in1.units < cLine) (hdt : t ≠ d) (hit : t ≠ it) (hdi : d ≠ it) (hav : ∀ (i : Nat) (a : Addr),items[i]? = some (.ref a) → a ≠ d ∧ a ≠ it)
  (hak : ∀ y ∈ kvs,y.2.1 ≠ d ∧ y.2.1 ≠ it) (hsz : kvs.length + kvs.length ≤ sizeLine) (nd : (kvs.map (·.1)).Nodup) :
  ∀ (n i : Nat) (s : Shared),kvs.length - i = n → i ≤ kvs.length → s.heap.IsList t items → s.heap.PairItemsT kd items kvs → s.heap.IsListIter it t i → s.heap.DictOfH (tupleKind kd) d (kvs.take i) →
   (∀ h' tk,h'.DictOfH (tupleKind kd) d kvs → (∀ b o,b ≠ d → b ≠ it → s.heap.get? b = some o → h'.get? b = some o) → R (.ok (.ret .none)) { s with heap := h',toks := tk }) →
   codeAny (model prog w) A (.builtin "dict.update.loop" ⟨[.ref d,.ref it,rawInt i,.none],[]⟩) R s := by
 intro n
 induction n with
 | zero =>
  intro i s hn hi ht hp hs hd hR
  have e : i = kvs.length := by lia
  refine codeAny_builtin F.entry_dict_update_loop ?_
  rw [Around.under_plainId F.plain_dict_update_loop _]
  show wpAny _ A.in1 (pyNext (.ref it) >>= _) _ _ s
  refine wpAny_bind (wpAny_pyNext_list_end (by first | exact hh | simpa using hh) hs ht (by rw [e,← hp.1]; simp) fun h' eb => ?_)
  show wpAny _ _ (Builtin.Dict.addKeywords d [] >>= _) _ _ _
  have hd' : h'.DictOfH (tupleKind kd) d kvs := by
   rw [e,List.take_length] at hd
   exact dictH_stay hd (fun o z => eb d o hdi z) fun y hy o z => eb _ o (hak y hy).2 z
  have q := hR h' s.toks hd' fun b o _ hb z => eb b o hb z
  exact wpAny_bind (wpAny_pure (wpAny_pure q))
 | succ n ih =>
  intro i s hn hi ht hp hs hd hR
  have hlt : i < kvs.length := by lia
  obtain ⟨kv,hkv⟩ : ∃ kv,kvs[i]? = some kv := ⟨_,List.getElem?_eq_getElem hlt⟩
  obtain ⟨a,hx,hpair,hkey⟩ := hp.2 i kv hkv
  refine codeAny_builtin F.entry_dict_update_loop ?_
  rw [Around.under_plainId F.plain_dict_update_loop _]
  show wpAny _ A.in1 (pyNext (.ref it) >>= _) _ _ s
  refine wpAny_bind (wpAny_pyNext_list_item hs ht hx fun h1 hs1 sb => ?_)
  obtain ⟨av1,av2⟩ := hav i a hx
  have kmem : kv ∈ kvs := List.mem_of_getElem? hkv
  obtain ⟨ak1,ak2⟩ := hak kv kmem
  have keep1 : ∀ b o,b ≠ it → s.heap.get? b = some o → h1.get? b = some o := fun b o hb z => (sb.2 b hb).trans z
  obtain ⟨po,pe,pc,pn,pd⟩ := hpair
  have pe1 := keep1 a po av2 pe
  have hd1 : h1.DictOfH (tupleKind kd) d (kvs.take i) := dictH_stay hd (fun o z => keep1 d o hdi z) fun y hy o z => keep1 _ o (hak y (List.mem_of_mem_take hy)).2 z
  have hkey1 : IsTupleKey kd h1 kv.1 kv.2.1 := tupKey_stay hkey fun o z => keep1 _ o ak2 z
  refine wpAny_bind (wpAny_holding ?_)
  refine wpAny_bind (wpAny_tryCatch ?_)
  unfold Builtin.Dict.pairItems
  refine wpAny_bind (wpAny_typeOf (T := "tuple") ⟨_,pe1,pc⟩ ?_)
  rw [if_pos (by decide)]
  refine wpAny_bind (wpAny_seqItems pe1 pd ?_)
  refine wpAny_pure ?_
  show wpAny _ _ (holding [.ref kv.2.1,kv.2.2] (dictSet d (.ref kv.2.1) kv.2.2)) _ _ _
  have len1 : (kvs.take i).length ≤ sizeLine := by rw [List.length_take]; lia
  refine wpAny_holding (wpAny_dictSet_heap (knd := tupleKind kd) (s := { s with heap := h1 }) (by exact hu) hkey1 hd1 (fun h2 hd2 sb2 => ?_) len1)
  refine wpAny_pure ⟨plainId_quiet F.plain_dict_update_loop _,?_⟩
  have keep2 : ∀ b o,b ≠ d → b ≠ it → s.heap.get? b = some o → h2.get? b = some o := fun b o hb hb' z => (sb2.2 b hb).trans (keep1 b o hb' z)
  have enew : storedH (kvs.take i) kv.1 kv.2.1 kv.2.2 = kvs.take (i + 1) := by
   rw [List.take_add_one,hkv]
   refine storedH_new (atKey_none_of_get fun j p z => ?_) _ _
   rw [List.getElem?_take] at z
   split at z
   ·rename_i hj
    have hj2 : j < kvs.length := Nat.lt_trans hj hlt
    have e1 : kvs[j] = (kv.1,p) := Option.some.inj ((List.getElem?_eq_getElem hj2).symm.trans z)
    have e2 : kvs[i] = kv := Option.some.inj ((List.getElem?_eq_getElem hlt).symm.trans hkv)
    have n1 := (List.pairwise_iff_getElem.mp nd) j i (by rw [List.length_map]; exact hj2) (by rw [List.length_map]; exact hlt) hj
    rw [List.getElem_map,List.getElem_map,e1,e2] at n1
    exact n1 rfl
   ·cases z
  rw [enew] at hd2
  have ht2 : h2.IsList t items := by
   obtain ⟨o,ho,r⟩ := ht
   exact ⟨o,keep2 t o hdt hit ho,r⟩
  have hs2 : h2.IsListIter it t (i + 1) := by
   obtain ⟨o,ho,r⟩ := hs1
   exact ⟨o,(sb2.2 it (Ne.symm hdi)).trans ho,r⟩
  have hp2 : h2.PairItemsT kd items kvs := ⟨hp.1,fun j y e => by
   obtain ⟨b,e1,⟨o,e2,r⟩,e3⟩ := hp.2 j y e
   have k1 := hak y (List.mem_of_getElem? e)
   exact ⟨b,e1,⟨o,keep2 b o (hav j b e1).1 (hav j b e1).2 e2,r⟩,tupKey_stay e3 fun o z => keep2 _ o k1.1 k1.2 z⟩⟩
  have e : rawInt ((i : Int) + 1) = rawInt ((i + 1 : Nat) : Int) := by rw [Int.natCast_add]; rfl
  show codeAny _ _ (.builtin "dict.update.loop" ⟨[.ref d,.ref it,rawInt ((i : Int) + 1),.none],[]⟩) _ _
  rw [e]
  exact ih (i + 1) { s with heap := h2,toks := _ } (by lia) hlt ht2 hp2 hs2 hd2 fun h' tk hd' k' => hR h' tk hd' fun b o hb hb' z => k' b o hb hb' (keep2 b o hb hb' z)
theorem call_dict_pairsT {s : Shared} {t : Addr} {o : Obj} {items : Array Value} {n : Nat} {kvs : List (List K × Addr × Value)} {Q : Value → Shared → Prop} (hh : A.handled = none) (hu : A.in1.in1.units < cLine) (ho : s.heap.get? t = some o) (hc : o.cls = .type "list") (hdat : o.data = .seq items n) (hd : o.dict = none)
  (hp : s.heap.PairItemsT kd items kvs) (hsz : kvs.length + kvs.length ≤ sizeLine) (nd : (kvs.map (·.1)).Nodup)
  (h : ∀ h' tk,h'.DictOfH (tupleKind kd) s.heap.objs.size kvs → (∀ b o,s.heap.get? b = some o → h'.get? b = some o) → Q (.ref s.heap.objs.size) { s with heap := h',toks := tk }) :
  wpAny (model prog w) A (call (.type "dict") [.ref t]) Q E s := by
 refine callType_codes (Q₁ := fun obj s₁ => obj = .ref s.heap.objs.size ∧ s₁ = { s with heap := s.heap.push { cls := .type "dict",data := .dict #[] } }) F.kt_called_dict (F.kt_typeCall_dict_1 _) F.entry_dict_init (kt_code_dict_new _ ⟨rfl,rfl⟩) ?_
 rintro obj s₁ ⟨rfl,rfl⟩
 have hnew : (s.heap.push { cls := .type "dict",data := .dict #[] }).DictOfH (tupleKind kd) s.heap.objs.size [] := Heap.DictOfH.new s.heap
 have ho1 : (s.heap.push { cls := .type "dict",data := .dict #[] }).get? t = some o := Heap.get?_push_of_some _ ho
 have htl : t < s.heap.objs.size := Heap.lt_size ho
 refine ⟨hnew.typeIs,F.args_dict_init_2 _ _,?_⟩
 unfold Builtin.«dict.__init__»
 refine wpAny_bind ?_
 unfold Builtin.Dict.selfAndRest
 refine wpAny_bind (wpAny_notOrdered_dict hnew.typeIs ?_)
 show wpAny _ _ (pure (s.heap.objs.size,[Value.ref t])) _ _ _
 refine wpAny_pure ?_
 show wpAny _ _ (Builtin.Dict.updateFrom "dict.__init__" s.heap.objs.size (.ref t) [] .none) _ _ _
 unfold Builtin.Dict.updateFrom
 refine wpAny_bind (wpAny_typeOf (T := "list") ⟨_,ho1,hc⟩ ?_)
 rw [if_pos (by decide)]
 refine wpAny_bind (keys_none_list ho1 hc hdat hd (by first | exact hh | simpa using hh) fun h1 tk1 e hx => ?_)
 rw [if_pos (by rfl)]
 refine wpAny_bind (wpAny_rule ?_)
 have kp1 : ∀ b o,(s.heap.push { cls := .type "dict",data := .dict #[] }).get? b = some o → h1.get? b = some o := fun b o z => hx.keeps b o z
 have ht1 : h1.IsList t items := ⟨o,kp1 t o ho1,hc,n,hdat⟩
 refine wpAny_bind (wpAny_pyIter_list ht1 ?_)
 have hit : s.heap.objs.size < h1.objs.size := by
  obtain ⟨o2,es,ep,ho2,_⟩ := hnew
  exact Heap.lt_size (kp1 _ _ ho2)
 have kp0 : ∀ b o,s.heap.get? b = some o → h1.get? b = some o := fun b o z => kp1 b o (Heap.get?_push_of_some _ z)
 have kpi : ∀ b o,s.heap.get? b = some o → (h1.push { cls := .type "list_iterator",data := .fields #[.ref t,.int 0 0] }).get? b = some o := fun b o z => Heap.get?_push_of_some _ (kp0 b o z)
 refine wpAny_pure ⟨plainId_quiet F.plain_dict_update_loop _,?_⟩
 have lowK : ∀ y ∈ kvs,y.2.1 < s.heap.objs.size := fun y hy => by
  obtain ⟨i,hi⟩ := List.getElem?_of_mem hy
  obtain ⟨b,_,_,⟨ok,_,_,e2,_⟩⟩ := hp.2 i y hi
  exact Heap.lt_size e2
 refine codeAny_dict_loopT (kd := kd) (t := t) (items := items) (kvs := kvs) (by first | exact hh | simpa using hh) ?_ (Nat.ne_of_lt htl) (Nat.ne_of_lt (Nat.lt_trans htl hit)) (Nat.ne_of_lt hit) (fun i a z => ?_) (fun y hy => ⟨Nat.ne_of_lt (lowK y hy),Nat.ne_of_lt (Nat.lt_trans (lowK y hy) hit)⟩) hsz nd kvs.length 0 _ (by lia) (Nat.zero_le _)
  ⟨o,Heap.get?_push_of_some _ (kp1 t o ho1),hc,n,hdat⟩ ⟨hp.1,fun i y z => ?_⟩ ⟨_,Heap.get?_push_size _ rfl,rfl,rfl⟩ ?_ fun h' tk hd' k' => ⟨rfl,?_⟩
 ·exact hu
 ·have hi : i < kvs.length := by
   rw [← hp.1]
   exact (Array.getElem?_eq_some_iff.mp z).1
  obtain ⟨b,e1,⟨ob,e2,_⟩,_⟩ := hp.2 i _ (List.getElem?_eq_getElem hi)
  rw [z] at e1
  have e3 : a = b := by injection (Option.some.inj e1)
  subst e3
  have := Heap.lt_size e2
  exact ⟨Nat.ne_of_lt this,Nat.ne_of_lt (Nat.lt_trans this hit)⟩
 ·obtain ⟨b,e1,⟨ob,e2,r⟩,e3⟩ := hp.2 i y z
  exact ⟨b,e1,⟨ob,kpi b ob e2,r⟩,tupKey_stay e3 fun o z => kpi _ o z⟩
 ·rw [List.take_zero]
  obtain ⟨o2,es,ep,ho2,r⟩ := hnew
  exact ⟨o2,es,ep,Heap.get?_push_of_some _ (kp1 _ _ ho2),r.1,r.2.1,r.2.2.1,fun x hx => by simp at hx,List.nodup_nil⟩
 ·refine h h' tk hd' fun b ob z => k' b ob (Nat.ne_of_lt (Heap.lt_size z)) (Nat.ne_of_lt (Nat.lt_trans (Heap.lt_size z) hit)) (kpi b ob z)
end
end PySem
namespace L2
open PySem PySem.Spec PyProof.Rows
noncomputable def kDt : Key → Dt
 | .inl i => .int i
 | .inr z => .str z
theorem isP_key {K : PySem.W.Frag} {H : Hp} {k : Key} {v : V} (h : IsP K H (kDt k) v) : v = kV k := by
 cases k <;> (cases h; rfl)
theorem isPs_keys {K : PySem.W.Frag} {H : Hp} : ∀ {ks : List Key} {xs : List V},IsPs K H (ks.map kDt) xs → xs = ks.map kV
 | [],_,h => by cases h; rfl
 | k :: ks,_,h => by
  cases h with
  | cons h r => rw [isP_key h,isPs_keys r]; rfl
noncomputable def dtObj (P : Program) (w : World) (p : Addr) (xs : List (List Key × Addr × Value)) (h : Heap) : Prop :=
 ∃ o es ep,h.get? p = some o ∧ o.ExactDict ∧ o.data = .dict es ep ∧ es.toList = xs.map (entryOfKey (tupleKind (mixKind P w))) ∧ (xs.map (·.1)).Nodup
noncomputable def DicT (P : Program) (w : World) (K : PySem.W.Frag) (H : Hp) (p : Addr) (kvs : List (List Key × Dt)) : Prop :=
 (p == sysModules) = false ∧ ∃ xs : List (List Key × Addr × Value),H p = some (.ext (dtObj P w p xs)) ∧
  Paired (fun (a : List Key × Dt) (b : List Key × Addr × Value) => a.1 = b.1 ∧ IsP K H (.tup (a.1.map kDt)) (.ref b.2.1) ∧ ∃ v,RelV v b.2.2 ∧ IsP K H a.2 v) kvs xs
section
variable {X : Cx} {pins : List (Addr × Obj)} {σ : St} {H : Hp} {s : Shared}
theorem key_ofP (I : Inv X pins σ H s) {ks : List Key} {a : Addr} (h : IsP X.K H (.tup (ks.map kDt)) (.ref a)) : IsTupleKey (mixKind X.prog X.w) s.heap ks a := by
 obtain ⟨b,ys,e,ha,_,ra⟩ := h.unref
 cases e
 obtain ⟨its,r,⟨o,h1,h2,n,h3⟩,_⟩ := I.tuple ha
 rw [isPs_keys ra] at r
 exact ⟨o,its.toArray,n,h1,h2,h3,by simpa using items_are r⟩
theorem DicT.dict {p : Addr} {kvs : List (List Key × Dt)} (I : Inv X pins σ H s) (h : DicT X.prog X.w X.K H p kvs) : (p == sysModules) = false ∧ ∃ xs : List (List Key × Addr × Value),s.heap.DictOfH (tupleKind (mixKind X.prog X.w)) p xs ∧
  Paired (fun (a : List Key × Dt) (b : List Key × Addr × Value) => a.1 = b.1 ∧ IsP X.K H (.tup (a.1.map kDt)) (.ref b.2.1) ∧ ∃ v,RelV v b.2.2 ∧ IsP X.K H a.2 v) kvs xs := by
 obtain ⟨e0,xs,e,r⟩ := h
 obtain ⟨⟨o,es,ep,h1,h2,h3,h4,h5⟩,_⟩ := (show ObjOk X.prog X.w H s.heap p (.ext (dtObj X.prog X.w p xs)) from I.hok p _ e)
 refine ⟨e0,xs,⟨o,es,ep,h1,h2,h3,h4,fun y hy => ?_,h5⟩,r⟩
 have all : ∀ {l : List (List Key × Dt)} {m : List (List Key × Addr × Value)},Paired (fun (a : List Key × Dt) (b : List Key × Addr × Value) => a.1 = b.1 ∧ IsP X.K H (.tup (a.1.map kDt)) (.ref b.2.1) ∧ ∃ v,RelV v b.2.2 ∧ IsP X.K H a.2 v) l m → ∀ y ∈ m,IsTupleKey (mixKind X.prog X.w) s.heap y.1 y.2.1 := by
  intro l m q
  induction q with
  | nil => intro y hy; exact nomatch hy
  | @cons p q ps qs hq t ih =>
   intro y hy
   rcases List.mem_cons.mp hy with rfl | hy
   ·rw [← hq.1]
    exact key_ofP I hq.2.1
   ·exact ih y hy
 exact all r y hy
noncomputable def atKT (kvs : List (List Key × Dt)) (k : List Key) : Option Dt := (kvs.find? fun p => decide (p.1 = k)).map (·.2)
theorem atKT_rel {K : PySem.W.Frag} {k : List Key} : ∀ {kvs : List (List Key × Dt)} {xs : List (List Key × Addr × Value)},
  Paired (fun (a : List Key × Dt) (b : List Key × Addr × Value) => a.1 = b.1 ∧ IsP K H (.tup (a.1.map kDt)) (.ref b.2.1) ∧ ∃ v,RelV v b.2.2 ∧ IsP K H a.2 v) kvs xs →
  (atKT kvs k = none ∧ atKey xs k = none) ∨ ∃ d p v,atKT kvs k = some d ∧ atKey xs k = some p ∧ RelV v p.2 ∧ IsP K H d v
 | _,_,.nil => .inl ⟨rfl,rfl⟩
 | _,_,.cons (a := p) (b := q) hq t => by
  by_cases e : p.1 = k
  ·obtain ⟨e1,_,v,r,i⟩ := hq
   exact .inr ⟨p.2,q.2,v,by simp [atKT,e],by simp [atKey,← e1,e],r,i⟩
  ·have e2 : ¬ q.1 = k := fun z => e (hq.1.trans z)
   have z1 : ∀ l,atKT (p :: l) k = atKT l k := fun l => by simp [atKT,e]
   have z2 : ∀ l,atKey (q :: l) k = atKey l k := fun l => by simp [atKey,e2]
   rw [z1,z2]
   exact atKT_rel t
end
end L2
set_option Elab.async false
set_option linter.all false
set_option maxRecDepth 100000
set_option maxHeartbeats 4000000
namespace PySem
open Sem (wp)
section
variable {prog : Program} {w : World} {K : Type} [DecidableEq K] {knd : HeapKind prog w K} {A : Around} {E : Value → Shared → Prop} {s : Shared}
theorem meetsH_dict_len (knd : HeapKind prog w K) (d : Addr) (hd : (d == sysModules) = false) :
  MeetsIn prog w (Builtin.«dict.__len__» ⟨[.ref d],[]⟩) (fun _ R s => ∃ kvs,s.heap.DictOfH knd d kvs ∧ R (.ok (.ret (.int kvs.length s.toks))) { s with toks := s.toks + 1 }) :=
 .of_wp fun A R s ⟨kvs,hm,h⟩ => by
  obtain ⟨o,es,ep,ho,hc,hdat,he,_,_⟩ := hm
  show wpAny _ _ (dictSize d >>= _) _ _ s; unfold dictSize
  refine wpAny_bind (wpAny_bind (wpAny_dictEntries ho hdat (wpAny_pure (wpAny_bind (m := Builtin.Dict.pendingCount d) (wpAny_pendingCount_other hd (wpAny_ret_mkInt ?_))))))
  rw [Nat.add_zero,size_of_entries he]; exact h
theorem call_len_dictH {d : Addr} {xs : List (K × Addr × Value)} {Q : Value → Shared → Prop} (hd : (d == sysModules) = false) (hm : s.heap.DictOfH knd d xs) (hfit : (xs.length : Int) < 2 ^ 63)
  (h : Q (.int xs.length (s.toks + 1)) { s with toks := s.toks + 1 + 1 }) : wpAny (model prog w) A (call (.builtin "len") [.ref d]) Q E s := by
 refine Calls.call_function_entry kind_len plain_len entry_len (args_len1 _) ?_
 unfold Builtin.«len»
 refine wpAny_bind (m := oneArg "len" _) (wpAny_pure (wpAny_bind (m := callSpecial? (.ref d) (Str.ofString "__len__")) (wpAny_callSpecial?_slot (name := Str.ofString "__len__") hm.typeIs F.slot_dict_len (call_meetsIn F.slot_dict_len hm.typeIs F.entry_dict_len (F.args_dict_len_1 _) (meetsH_dict_len knd d hd) ⟨xs,hm,?_⟩))))
 show wpAny _ _ _ _ _ { s with toks := s.toks + 1 }
 refine wpAny_bind (wpAny_holding (wpAny_pure (wpAny_bind (wpAny_letGo ?_))))
 show wpAny _ _ (if ((xs.length : Nat) : Int) < 0 then _ else _) _ _ _
 rw [if_neg (by lia)]
 show wpAny _ _ (if ((xs.length : Nat) : Int) ≥ 2 ^ 63 then _ else _) _ _ _
 rw [if_neg (by lia)]
 exact wpAny_bind (wpAny_mkInt (wpAny_pure ⟨_,rfl,h⟩))
end
end PySem
namespace L2
open PySem PySem.Spec PyProof.Rows
section
variable {X : Cx} {pins : List (Addr × Obj)} {σ : St} {H : Hp} {s : Shared}
theorem dt_get2 {A : Around} {E : Value → Shared → Prop} {a b : Addr} {k : List Key} {kvs : List (List Key × Dt)} {d : V} {r : Value} {Q : Value → Shared → Prop} (hu : A.units + 1 < cLine) (I : Inv X pins σ H s) (g : DicT X.prog X.w X.K H a kvs)
  (hk : IsP X.K H (.tup (k.map kDt)) (.ref b)) (rd : RelV d r) (h : ∀ w' s' v,Inv X pins σ H s' → RelV v w' → (match atKT kvs k with | some z => IsP X.K H z v | none => v = d) → Q w' s') :
  wpAny (model X.prog X.w) A (call (.builtin "dict.get") [.ref a,.ref b,r]) Q E s := by
 obtain ⟨hd,xs,dd,rel⟩ := g.dict I
 refine call_meetsIn PySem.F.slot_dict_get dd.typeIs PySem.F.entry_dict_get (PySem.F.args_dict_get_3 _ _ _) (meetsH_dict_get_default (tupleKind (mixKind X.prog X.w)) a b hd r) ⟨tupleKind_room_in1 hu,k,xs,key_ofP I hk,dd,?_⟩
 rcases atKT_rel (k := k) rel with ⟨e1,e2⟩ | ⟨z,p,v,e1,e2,rv,iv⟩
 ·refine h _ _ d (I.tok _) ?_ (by rw [e1])
  rw [e2]
  exact rd
 ·refine h _ _ v (I.tok _) ?_ (by rw [e1]; exact iv)
  rw [e2]
  exact rv
theorem dt_typed {a : Addr} {kvs : List (List Key × Dt)} (I : Inv X pins σ H s) (g : DicT X.prog X.w X.K H a kvs) : s.TypeIs (.ref a) "dict" ∧ (∀ b,Value.ref a = .ref b → ∃ ob,s.heap.get? b = some ob ∧ ob.dict = none) ∧ (a == sysModules) = false := by
 obtain ⟨hd,xs,dd,_⟩ := g.dict I
 refine ⟨dd.typeIs,fun b q => ?_,hd⟩
 cases q
 obtain ⟨ob,_,_,h1,h2,_⟩ := dd
 exact ⟨ob,h1,h2.2.1⟩
end
theorem DicT.same {P : Program} {w : World} {K : PySem.W.Frag} {H H' : Hp} {p : Addr} {kvs : List (List Key × Dt)} (g : Same H H') (h : DicT P w K H p kvs) : DicT P w K H' p kvs := by
 obtain ⟨e0,xs,e,r⟩ := h
 exact ⟨e0,xs,g _ _ e,L2.Paired.mapP r fun a b ⟨z1,z2,v,z3,z4⟩ => ⟨z1,z2.same g,v,z3,z4.same g⟩⟩
theorem DicT.but {P : Program} {w : World} {K : PySem.W.Frag} {H H' : Hp} {p r : Addr} {ys : List V} {kvs : List (List Key × Dt)} (hr : H r = some (.lst ys)) (g : But r H H') (h : DicT P w K H p kvs) : DicT P w K H' p kvs := by
 obtain ⟨e0,xs,e,q⟩ := h
 exact ⟨e0,xs,g _ _ (ne_of e hr (by intro z; cases z)) e,L2.Paired.mapP q fun a b ⟨z1,z2,v,z3,z4⟩ => ⟨z1,z2.but hr g,v,z3,z4.but hr g⟩⟩
theorem u2 {A : Around} (h : A.units + 64 < cLine) : A.units + 2 < cLine := by lia
noncomputable def tDGetT (P : Program) (w : World) (K : PySem.W.Frag) (td ty tx : TE) : TE := fun σ H Q => td σ H fun x H1 => ∃ a kvs,x = .ref a ∧ DicT P w K H1 a kvs ∧ ty σ H1 fun y H2 => tx σ H2 fun z H3 => ∃ b k,y = .ref b ∧ DicT P w K H3 a kvs ∧ IsP K H3 (.tup (k.map kDt)) (.ref b) ∧
 ∀ v,(match atKT kvs k with | some d => IsP K H3 d v | none => v = z) → Q v H3
section
variable {X : Cx} {o e f : Expr} {apos cpos : Pos} {td ty tx : TE}
theorem pe_dgetT (hu : X.A.units + 1 < cLine) (ho : PE X o td) (he : PE X e ty) (hf : PE X f tx) (m : M2 X o "get" apos e f cpos) : PE X (.Call (.Attribute o "get" apos) [e,f] [] cpos) (tDGetT X.prog X.w X.K td ty tx) := by
 intro pins s σ H Q I h
 refine wpAny_Call_method m.base m.few m.line PySem.F.plainAttrs_dict PySem.F.slot_dict_get PySem.F.type_dict_get (thn (ho pins s σ H _ I h) fun u s1 ⟨x,H1,I1,rx,a,kvs,ex,d,q1⟩ => ?_)
 subst ex
 obtain rfl : u = Value.ref a := rx
 obtain ⟨t1,t2,_⟩ := dt_typed I1 d
 refine ⟨t1,t2,?_⟩
 rw [m.trees]
 refine Calls.callWith_builtin rfl (Calls.evalArgs_plain (Calls.spliced_cons (thn (he pins s1 σ H1 _ I1 q1) fun iv s2 ⟨y,H2,I2,ry,q2⟩ =>
  Calls.spliced_cons (thn (hf pins s2 σ H2 _ I2 q2) fun fv s3 ⟨z,H3,I3,rz,b,k,ey,g,hk,q3⟩ => Calls.spliced_nil ?_))))
 subst ey
 obtain rfl : iv = Value.ref b := ry
 exact dt_get2 hu I3 g hk rz fun w' s4 v I4 rw' hv => ⟨v,H3,I4,rw',q3 v hv⟩
theorem pairs_ofT {pins : List (Addr × Obj)} {σ : St} {H : Hp} {s : Shared} (I : Inv X pins σ H s) : ∀ {kvs : List (List Key × Dt)} {xs : List V} {its : List Value},IsPs X.K H (kvs.map fun p => .tup [.tup (p.1.map kDt),p.2]) xs → Vals xs its →
  ∃ es : List (List Key × Addr × Value),Paired (fun (a : List Key × Dt) (b : List Key × Addr × Value) => a.1 = b.1 ∧ IsP X.K H (.tup (a.1.map kDt)) (.ref b.2.1) ∧ ∃ v,RelV v b.2.2 ∧ IsP X.K H a.2 v) kvs es ∧ its.length = es.length ∧ es.map (·.1) = kvs.map (·.1) ∧
   ∀ (i : Nat) (kv : List Key × Addr × Value),es[i]? = some kv → ∃ a : Addr,its[i]? = some (.ref a) ∧ s.heap.IsTuple a #[.ref kv.2.1,kv.2.2] ∧ IsTupleKey (mixKind X.prog X.w) s.heap kv.1 kv.2.1 := by
 intro kvs
 induction kvs with
 | nil =>
  intro xs its h r
  cases h
  cases r
  exact ⟨[],.nil,rfl,rfl,fun i kv q => by simp at q⟩
 | cons f fs ih =>
  intro xs its h r
  cases h with
  | cons h1 h2 =>
   cases r with
   | cons r1 r2 =>
    obtain ⟨es,e1,e2,e3,e4⟩ := ih h2 r2
    obtain ⟨a,ys,rfl,ha,pa,ra⟩ := h1.unref
    cases r1
    obtain ⟨its',r',p',_⟩ := I.tuple ha
    cases ra with
    | cons d1 ra =>
     cases ra with
     | @cons _ _ v _ d2 ra =>
      cases ra
      have d1' := d1
      obtain ⟨b,zs,rfl,hb,pb,rb⟩ := d1.unref
      cases r' with
      | cons q1 r' =>
       cases r' with
       | @cons _ u _ _ q2 r' =>
        cases r'
        cases q1
        refine ⟨(f.1,b,u) :: es,.cons ⟨rfl,d1',v,q2,d2⟩ e1,by simp [e2],by simp [e3],fun i kv q => ?_⟩
        cases i with
        | zero =>
         simp at q
         subst q
         exact ⟨a,rfl,p',key_ofP I d1'⟩
        | succ i => exact e4 i kv (by simpa using q)
theorem call_dictT (hc : X.calm = true) (hu : X.A.units + 2 < cLine) : CallR X (.type "dict") (fun xs H Q => ∃ l zs kvs,xs = [.ref l] ∧ H l = some (.lst zs) ∧ IsPs X.K H (kvs.map fun p => .tup [.tup (p.1.map kDt),p.2]) zs ∧ (kvs.map (·.1)).Nodup ∧ kvs.length ≤ 400000 ∧
  ∀ p H',Same H H' → H p = none → DicT X.prog X.w X.K H' p kvs → Q (.ref p) H') := by
 intro pins s σ H xs us Q I r h
 obtain ⟨l,zs,kvs,rfl,hl,hp,nd,hz,q⟩ := h
 obtain ⟨u,rfl,rx⟩ := vals1 r
 cases rx
 obtain ⟨_,its,n,r',e0⟩ := (show ObjOk X.prog X.w H s.heap l (.lst zs) from I.hok l _ hl)
 obtain ⟨es,k1,k2,k3,k4⟩ := pairs_ofT I hp r'
 have hle : es.length = kvs.length := by have := congrArg List.length k3; simpa using this
 have big := I.big
 refine call_dict_pairsT (kd := mixKind X.prog X.w) (kvs := es) (I.ok.hd hc) hu e0 rfl rfl rfl ⟨by rw [List.size_toArray]; exact k2,fun i kv z => ?_⟩ (Nat.le_trans (Nat.add_le_add (hle ▸ hz) (hle ▸ hz)) (by decide)) (by rw [k3]; exact nd) fun h' tk dd kp => ?_
 ·obtain ⟨b,z1,z2,z3⟩ := k4 i kv z
  exact ⟨b,by simpa using z1,z2,z3⟩
 ·have hf := I.hok.fresh (Nat.le_refl s.heap.objs.size)
  have sm : Same H (upd H s.heap.objs.size (.ext (dtObj X.prog X.w s.heap.objs.size es))) := same_new hf _
  obtain ⟨o,ens,ep,h1,h2,h3,h4,h5,h6⟩ := dd
  have I2 : Inv X pins σ (upd H s.heap.objs.size (.ext (dtObj X.prog X.w s.heap.objs.size es))) { s with heap := h',toks := tk } := I.laid (t' := tk) kp (Nat.le_refl _)
   ⟨⟨o,ens,ep,h1,h2,h3,h4,h6⟩,⟨o,h1⟩,fun x1 x2 ⟨o',es',ep',g1,g⟩ k => ⟨o',es',ep',k o' g1,g⟩⟩
  refine ⟨.ref s.heap.objs.size,_,I2,rfl,q _ _ sm hf ⟨by simp; exact Nat.ne_of_gt big,es,upd_same,L2.Paired.mapP k1 fun a b ⟨z1,z2,v,z3,z4⟩ => ⟨z1,z2.same sm,v,z3,z4.same sm⟩⟩⟩
theorem call_lenT : CallR X (.builtin "len") (fun xs H Q => ∃ a kvs,xs = [.ref a] ∧ DicT X.prog X.w X.K H a kvs ∧ kvs.length ≤ 400000 ∧ Q (.int kvs.length) H) := by
 intro pins s σ H xs us Q I r h
 obtain ⟨a,kvs,rfl,g,hz,q⟩ := h
 obtain ⟨u,rfl,rx⟩ := vals1 r
 cases rx
 obtain ⟨hd,es,dd,rel⟩ := g.dict I
 have el : es.length = kvs.length := by
  clear dd g q hz
  induction rel with
  | nil => rfl
  | cons _ _ ih => simp [ih]
 refine call_len_dictH hd dd (by lia) ?_
 rw [el]
 exact ⟨.int kvs.length,H,I.tok _,⟨_,rfl⟩,q⟩
end
end L2
set_option Elab.async false
set_option linter.all false
set_option maxRecDepth 100000
set_option maxHeartbeats 4000000
namespace K11
open PySem L2 PyProof.Rows
noncomputable def top (i : Nat) : Stmt := PySem.Challenge.pw_oldhands_k11_no_places.main.body.getD i (.Pass ⟨0,0,0,0⟩)
noncomputable abbrev s_field_kind : Stmt := top 1
noncomputable abbrev s_item_kind : Stmt := top 2
noncomputable abbrev s_field_of : Stmt := top 4
noncomputable abbrev s_entries : Stmt := top 6
noncomputable abbrev s_inner_kind : Stmt := top 7
noncomputable abbrev s_value_at : Stmt := top 8
noncomputable abbrev s_law_mixed : Stmt := top 10
noncomputable abbrev s_law_stream : Stmt := top 11
noncomputable abbrev s_law_digit : Stmt := top 12
noncomputable abbrev s_law_leaf : Stmt := top 13
noncomputable abbrev s_law_record : Stmt := top 14
noncomputable abbrev s_law_rows : Stmt := top 15
noncomputable abbrev s_law_kind : Stmt := top 16
noncomputable abbrev s_law_shape : Stmt := top 17
noncomputable abbrev s_law_text : Stmt := top 18
noncomputable abbrev s_law_number : Stmt := top 19
noncomputable abbrev s_law_pairs : Stmt := top 20
noncomputable abbrev s_law_value : Stmt := top 21
noncomputable abbrev s_law_ways : Stmt := top 22
noncomputable abbrev s_law_places : Stmt := top 23
noncomputable abbrev s_law_odd : Stmt := top 24
noncomputable abbrev s_law : Stmt := top 25
theorem sc_field_kind : FnScope ["kind","name","own","inner"] ["kind","name"] (defScope s_field_kind) := ⟨rfl,rfl,rfl,by decide +kernel,rfl,by decide +kernel,by decide +kernel⟩
theorem sc_item_kind : FnScope ["kind"] ["kind"] (defScope s_item_kind) := ⟨rfl,rfl,rfl,by decide +kernel,rfl,by decide +kernel,by decide +kernel⟩
theorem sc_field_of : FnScope ["record","name","own","value"] ["record","name"] (defScope s_field_of) := ⟨rfl,rfl,rfl,by decide +kernel,rfl,by decide +kernel,by decide +kernel⟩
theorem sc_entries : FnScope ["kind","value"] ["kind","value"] (defScope s_entries) := ⟨rfl,rfl,rfl,by decide +kernel,rfl,by decide +kernel,by decide +kernel⟩
theorem sc_inner_kind : FnScope ["kind","entry"] ["kind","entry"] (defScope s_inner_kind) := ⟨rfl,rfl,rfl,by decide +kernel,rfl,by decide +kernel,by decide +kernel⟩
theorem sc_value_at : FnScope ["kind","value","where","here_kind","here","entry","found"] ["kind","value","where"] (defScope s_value_at) := ⟨rfl,rfl,rfl,by decide +kernel,rfl,by decide +kernel,by decide +kernel⟩
theorem sc_law_mixed : FnScope ["cell","k","stir"] ["cell","k"] (defScope s_law_mixed) := ⟨rfl,rfl,rfl,by decide +kernel,rfl,by decide +kernel,by decide +kernel⟩
theorem sc_law_stream : FnScope ["script","k","cell","j","found"] ["script","k"] (defScope s_law_stream) := ⟨rfl,rfl,rfl,by decide +kernel,rfl,by decide +kernel,by decide +kernel⟩
theorem sc_law_digit : FnScope ["row","many","digit"] ["row","many"] (defScope s_law_digit) := ⟨rfl,rfl,rfl,by decide +kernel,rfl,by decide +kernel,by decide +kernel⟩
theorem sc_law_leaf : FnScope ["row","way","low"] ["row"] (defScope s_law_leaf) := ⟨rfl,rfl,rfl,by decide +kernel,rfl,by decide +kernel,by decide +kernel⟩
theorem sc_law_record : FnScope ["row","deep","names","fields","name"] ["row","deep","names"] (defScope s_law_record) := ⟨rfl,rfl,rfl,by decide +kernel,rfl,by decide +kernel,by decide +kernel⟩
theorem sc_law_rows : FnScope ["row","deep","inner","key","most"] ["row","deep"] (defScope s_law_rows) := ⟨rfl,rfl,rfl,by decide +kernel,rfl,by decide +kernel,by decide +kernel⟩
theorem sc_law_kind : FnScope ["row","deep","way"] ["row","deep"] (defScope s_law_kind) := ⟨rfl,rfl,rfl,by decide +kernel,rfl,by decide +kernel,by decide +kernel⟩
theorem sc_law_shape : FnScope ["row","shape"] ["row"] (defScope s_law_shape) := ⟨rfl,rfl,rfl,by decide +kernel,rfl,by decide +kernel,by decide +kernel⟩
theorem sc_law_text : FnScope ["row","most","text","k"] ["row","most"] (defScope s_law_text) := ⟨rfl,rfl,rfl,by decide +kernel,rfl,by decide +kernel,by decide +kernel⟩
theorem sc_law_number : FnScope ["row","low","high","way"] ["row","low","high"] (defScope s_law_number) := ⟨rfl,rfl,rfl,by decide +kernel,rfl,by decide +kernel,by decide +kernel⟩
theorem sc_law_pairs : FnScope ["row","kind"] ["row","kind"] (defScope s_law_pairs) := ⟨rfl,rfl,rfl,by decide +kernel,rfl,by decide +kernel,by decide +kernel⟩
theorem sc_law_value : FnScope ["row","kind","items","k","item"] ["row","kind"] (defScope s_law_value) := ⟨rfl,rfl,rfl,by decide +kernel,rfl,by decide +kernel,by decide +kernel⟩
theorem sc_law_ways : FnScope ["kind","path","found","name","one"] ["kind","path"] (defScope s_law_ways) := ⟨rfl,rfl,rfl,by decide +kernel,rfl,by decide +kernel,by decide +kernel⟩
theorem sc_law_places : FnScope ["kind","value","path","found","name","one","inner","k","told"] ["kind","value","path"] (defScope s_law_places) := ⟨rfl,rfl,rfl,by decide +kernel,rfl,by decide +kernel,by decide +kernel⟩
theorem sc_law_odd : FnScope ["where","row","some_steps","turned_to","at","way"] ["where","row"] (defScope s_law_odd) := ⟨rfl,rfl,rfl,by decide +kernel,rfl,by decide +kernel,by decide +kernel⟩
theorem sc_law : FnScope ["script","k","row","shape","value","places","path","kind","known","where","part","turn","odd"] ["script"] (defScope s_law) := ⟨rfl,rfl,rfl,by decide +kernel,rfl,by decide +kernel,by decide +kernel⟩
structure Tx (K : PySem.W.Frag) (mg : Str → Option Value) : Prop where
 field_kind : ∃ f fd,Gn K mg "field_kind" s_field_kind ["kind","name"] f fd
 item_kind : ∃ f fd,Gn K mg "item_kind" s_item_kind ["kind"] f fd
 field_of : ∃ f fd,Gn K mg "field_of" s_field_of ["record","name"] f fd
 entries : ∃ f fd,Gn K mg "entries" s_entries ["kind","value"] f fd
 inner_kind : ∃ f fd,Gn K mg "inner_kind" s_inner_kind ["kind","entry"] f fd
 value_at : ∃ f fd,Gn K mg "value_at" s_value_at ["kind","value","where"] f fd
 law_mixed : ∃ f fd,Gn K mg "_law_mixed" s_law_mixed ["cell","k"] f fd
 law_stream : ∃ f fd,Gn K mg "_law_stream" s_law_stream ["script","k"] f fd
 law_digit : ∃ f fd,Gn K mg "_law_digit" s_law_digit ["row","many"] f fd
 law_leaf : ∃ f fd,Gn K mg "_law_leaf" s_law_leaf ["row"] f fd
 law_record : ∃ f fd,Gn K mg "_law_record" s_law_record ["row","deep","names"] f fd
 law_rows : ∃ f fd,Gn K mg "_law_rows" s_law_rows ["row","deep"] f fd
 law_kind : ∃ f fd,Gn K mg "_law_kind" s_law_kind ["row","deep"] f fd
 law_shape : ∃ f fd,Gn K mg "_law_shape" s_law_shape ["row"] f fd
 law_text : ∃ f fd,Gn K mg "_law_text" s_law_text ["row","most"] f fd
 law_number : ∃ f fd,Gn K mg "_law_number" s_law_number ["row","low","high"] f fd
 law_pairs : ∃ f fd,Gn K mg "_law_pairs" s_law_pairs ["row","kind"] f fd
 law_value : ∃ f fd,Gn K mg "_law_value" s_law_value ["row","kind"] f fd
 law_ways : ∃ f fd,Gn K mg "_law_ways" s_law_ways ["kind","path"] f fd
 law_places : ∃ f fd,Gn K mg "_law_places" s_law_places ["kind","value","path"] f fd
 law_odd : ∃ f fd,Gn K mg "_law_odd" s_law_odd ["where","row"] f fd
 law : ∃ f fd,Gn K mg "law" s_law ["script"] f fd
 z_dict : mg "dict" = none
 z_enumerate : mg "enumerate" = none
 z_int : mg "int" = none
 z_len : mg "len" = none
 z_list : mg "list" = none
 z_min : mg "min" = none
 z_range : mg "range" = none
 z_sorted : mg "sorted" = none
 z_tuple : mg "tuple" = none
noncomputable abbrev depth : Nat := 40
noncomputable def KeyK (d : Dt) : Prop := (∃ i j : Int,d = .tup [.str "number",.int i,.int j]) ∨ ∃ i : Int,d = .tup [.str "text",.int i]
inductive GK : Nat → Dt → Prop
 | text (n : Nat) (i : Int) : 0 ≤ i → i ≤ 60 → GK n (.tup [.str "text",.int i])
 | choice (n : Nat) (ws : List Str) : 1 ≤ ws.length → ws.length ≤ 8 → GK n (.tup [.str "choice",.tup (ws.map Dt.str)])
 | number (n : Nat) (i j : Int) : -1000000000000000000000000000000 ≤ i → i ≤ j → j ≤ 1000000000000000000000000000000 → GK n (.tup [.str "number",.int i,.int j])
 | list {n : Nat} {k : Dt} {i : Int} : GK n k → 0 ≤ i → i ≤ 8 → GK (n + 1) (.tup [.str "list",k,.int i])
 | rows {n : Nat} {z : Str} {fs : List (Str × Dt)} {kk : Dt} {i : Int} : GK n (.tup [.str "record",.tup (fs.map prD)]) → lookS fs z = some kk → KeyK kk → 0 ≤ i → i ≤ 8 → GK (n + 1) (.tup [.str "rows",.str z,.tup [.str "record",.tup (fs.map prD)],.int i])
 | rcd {n : Nat} {fs : List (Str × Dt)} : (∀ f ∈ fs,GK n f.2) → (fs.map (·.1)).Nodup → (∀ f ∈ fs,f.1 ≠ "each" ∧ f.1.length ≤ 8) → fs.length ≤ 8 → GK (n + 1) (.tup [.str "record",.tup (fs.map prD)])
noncomputable def lookD : List Dt → Str → Option Dt
 | .tup [.str n,k] :: r,z => if n = z then some k else lookD r z
 | _,_ => none
theorem lookD_map (z : Str) : ∀ fs : List (Str × Dt),lookD (fs.map prD) z = lookS fs z
 | [] => rfl
 | (n,k) :: fs => by
  show (if n = z then some k else lookD (fs.map prD) z) = _
  rw [lookD_map z fs]
  by_cases h : n = z
  ·simp [lookS,h]
  ·simp [lookS,h]
noncomputable def fieldD (d : Dt) (z : Str) : Option Dt := match d with
 | .tup [.str w,.tup l] => if w = "record" then lookD l z else none
 | _ => none
noncomputable def itemD (d : Dt) : Option Dt := match d with
 | .tup [.str w,k,_] => if w = "list" then some k else none
 | .tup [.str w,_,k,_] => if w = "rows" then some k else none
 | _ => none
noncomputable def stepD (d : Dt) (z : Str) : Option Dt := if z = "each" then itemD d else fieldD d z
noncomputable def leadD : Dt → List Str → Option Dt
 | d,[] => some d
 | d,z :: q => (stepD d z).bind fun e => leadD e q
noncomputable abbrev sD (q : List Str) : Dt := .tup (q.map Dt.str)
noncomputable def RetO (K : PySem.W.Frag) (H : Hp) (r : Option Dt) (Q : VK) : Prop := match r with
 | none => Q .non H
 | some e => ∀ v,IsP K H e v → Q v H
noncomputable def sp_field_kind (K : PySem.W.Frag) : Sp := fun vs H Q _ => ∃ (n : Nat) (d : Dt) (z : Str) (x : V),vs = [x,.str z] ∧ IsP K H d x ∧ GK n d ∧ RetO K H (fieldD d z) Q
noncomputable def sp_item_kind (K : PySem.W.Frag) : Sp := fun vs H Q _ => ∃ (n : Nat) (d : Dt) (x : V),vs = [x] ∧ IsP K H d x ∧ GK n d ∧ RetO K H (itemD d) Q
noncomputable def sp_law_mixed (_ : PySem.W.Frag) : Sp := fun vs H Q _ => ∃ i k : Int,vs = [.int i,.int k] ∧ ∀ c,Q (.int c) H
noncomputable def sp_law_digit (_ : PySem.W.Frag) : Sp := fun vs H Q _ => ∃ (r : Addr) (n m : Int),vs = [.ref r,.int m] ∧ H r = some (.lst [.int n]) ∧ 0 < m ∧ m < 10000000000000000000000000000000000000000000000000000000000000 ∧ Q (.int (n % m)) (upd H r (.lst [.int (n / m)]))
noncomputable def sp_law_stream (K : PySem.W.Frag) : Sp := fun vs H Q _ => ∃ (a : Addr) (ns : List Int) (k : Int),vs = [.ref a,.int k] ∧ SqL K H a (ns.map V.int) ∧ ns.length ≤ 63 ∧ 0 ≤ k ∧ k < 1000 ∧
 ∀ r n H',H r = none → Same H H' → H' r = some (.lst [.int n]) → Q (.ref r) H'
noncomputable def spLaw (K : PySem.W.Frag) : Sp := fun vs H Q _ => ∃ (a : Addr) (ns : List Int),vs = [.ref a] ∧ SqL K H a (ns.map V.int) ∧ ns.length ≤ 63 ∧ ∀ H',Q (.bl true) H'
noncomputable abbrev sp_law (K : PySem.W.Frag) : Sp := spLaw K
theorem small {n : Nat} (h : n ≤ 1000) : n ≤ sizeLine := Nat.le_of_lt (small1000 h)
theorem take_next {α β : Type} {xs : List α} {i : Nat} {x : α} (f : α → β) (h : xs[i]? = some x) : (xs.take i).map f ++ [f x] = (xs.take (i + 1)).map f := by
 rw [List.take_add_one,h,List.map_append]; rfl
section
variable {P : Program} {w : World} {K : PySem.W.Frag} {mg : Str → Option Value} {base : Heap}
theorem isStrV {K : PySem.W.Frag} {H : Hp} {w : Str} {v : V} (h : IsP K H (.str w) v) : v = .str w := by cases h; rfl
theorem iteY {A B : Prop} {x : V} (h : A) : if decide (x = x) = true then A else B := by rw [if_pos (decide_eq_true rfl)]; exact h
theorem iteN {A B : Prop} {x y : V} (n : x ≠ y) (h : B) : if decide (x = y) = true then A else B := by rw [if_neg (fun c => n (of_decide_eq_true c))]; exact h
theorem iteY' {A B : Prop} {x y : V} (n : x ≠ y) (h : A) : if (!decide (x = y)) = true then A else B := by rw [if_pos (by rw [decide_eq_false n]; rfl)]; exact h
theorem iteN' {A B : Prop} {x : V} (h : B) : if (!decide (x = x)) = true then A else B := by rw [if_neg (by rw [decide_eq_true rfl]; decide)]; exact h
theorem strNe {a b : Str} (h : a ≠ b) : V.str a ≠ V.str b := fun e => h (V.str.inj e)
theorem ok_item_kind (T : Tx K mg) {f : Addr} {fd : FuncData} (F : Gn K mg "item_kind" s_item_kind ["kind"] f fd) : FnOk P w K mg base CX0 1 f fd ["kind"] (sp_item_kind K) := by
 refine F.F.ok sc_item_kind (fun vs H Q E h => ?_) (fun cdv A outer s H vs Q E hr h => ?_)
 ·obtain ⟨n,d,x,rfl,_⟩ := h
  rfl
 obtain ⟨n,d,x,rfl,hd,gk,q⟩ := h
 refine ⟨_,(@pss_cons _ _ _ _ _ (@ps_if _ _ _ _ _ _ _ _ (pt_cmpR op_eq (@pe_ix _ _ _ _ _ _ _ ix_tupP (pv 0) pe_int (fun _ _ => rfl)) pe_str (nomark _)) (@pss_one _ _ _ (@ps_ret _ _ _ _ (@pe_ix _ _ _ _ _ _ _ ix_tupP (pv 0) pe_int (fun _ _ => rfl)))) pss_nil) (@pss_cons _ _ _ _ _ (@ps_if _ _ _ _ _ _ _ _ (pt_cmpR op_eq (@pe_ix _ _ _ _ _ _ _ ix_tupP (pv 0) pe_int (fun _ _ => rfl)) pe_str (nomark _)) (@pss_one _ _ _ (@ps_ret _ _ _ _ (@pe_ix _ _ _ _ _ _ _ ix_tupP (pv 0) pe_int (fun _ _ => rfl)))) pss_nil) (@pss_one _ _ _ (@ps_ret _ _ _ _ pe_non)))),?_⟩
 cases gk with
 | list g _ _ =>
  refine ⟨_,rfl,_,_,_,hd,rfl,rfl,fun v hv => ?_⟩
  obtain rfl := isStrV hv
  refine ⟨rfl,_,rfl,iteY ⟨_,rfl,_,_,_,hd,rfl,rfl,fun v hv => ?_⟩⟩
  exact q v hv
 | rows g _ _ _ _ =>
  refine ⟨_,rfl,_,_,_,hd,rfl,rfl,fun v hv => ?_⟩
  obtain rfl := isStrV hv
  refine ⟨rfl,_,rfl,iteN (strNe (by decide)) ⟨_,rfl,_,_,_,hd,rfl,rfl,fun v hv => ?_⟩⟩
  obtain rfl := isStrV hv
  refine ⟨rfl,_,rfl,iteY ⟨_,rfl,_,_,_,hd,rfl,rfl,fun v hv => ?_⟩⟩
  exact q v hv
 | _ =>
  refine ⟨_,rfl,_,_,_,hd,rfl,rfl,fun v hv => ?_⟩
  obtain rfl := isStrV hv
  refine ⟨rfl,_,rfl,iteN (strNe (by decide)) ⟨_,rfl,_,_,_,hd,rfl,rfl,fun v hv => ?_⟩⟩
  obtain rfl := isStrV hv
  exact ⟨rfl,_,rfl,iteN (strNe (by decide)) q⟩
theorem look_none {fs : List (Str × Dt)} {z : Str} (h : ∀ f ∈ fs,f.1 ≠ z) : lookS fs z = none := by
 unfold lookS
 rw [List.find?_eq_none.mpr (fun f hf => by simpa using h f hf)]
 rfl
theorem look_at {z : Str} {e : Dt} : ∀ {fs : List (Str × Dt)} {i : Nat},fs[i]? = some (z,e) → (∀ j f,j < i → fs[j]? = some f → f.1 ≠ z) → lookS fs z = some e
 | [],i,h,_ => by simp at h
 | f :: fs,0,h,_ => by
  obtain rfl : f = (z,e) := by simpa using h
  simp [lookS]
 | f :: fs,i + 1,h,n => by
  have n0 : f.1 ≠ z := n 0 f (Nat.succ_pos _) rfl
  have r := look_at (fs := fs) (i := i) (by simpa using h) (fun j g hj hg => n (j + 1) g (Nat.succ_lt_succ hj) (by simpa using hg))
  rw [← r]
  simp [lookS,n0]
theorem fieldD_three (a b c : Dt) (l : List Dt) (z : Str) : fieldD (.tup (a :: b :: c :: l)) z = none := by
 unfold fieldD
 split
 ·rename_i h
  simp at h
 ·rfl
theorem ok_field_kind (T : Tx K mg) {f : Addr} {fd : FuncData} (F : Gn K mg "field_kind" s_field_kind ["kind","name"] f fd) : FnOk P w K mg base CX0 1 f fd ["kind","name"] (sp_field_kind K) := by
 refine F.F.ok sc_field_kind (fun vs H Q E h => ?_) (fun cdv A outer s H vs Q E hr h => ?_)
 ·obtain ⟨n,d,z,x,rfl,_⟩ := h
  rfl
 obtain ⟨n,d,z,x,rfl,hd,gk,q⟩ := h
 refine ⟨_,(@pss_cons _ _ _ _ _ (@ps_if _ _ _ _ _ _ _ _ (pt_cmpR op_ne (@pe_ix _ _ _ _ _ _ _ ix_tupP (pv 0) pe_int (fun _ _ => rfl)) pe_str (nomark _)) (@pss_one _ _ _ (@ps_ret _ _ _ _ pe_non)) pss_nil) (@pss_cons _ _ _ _ _ (ps_for PassesOwn.never rfl (pi_tup (@pe_ix _ _ _ _ _ _ _ ix_tupP (pv 0) pe_int (fun _ _ => rfl))) (pg_tup rfl (pgs_cons (pg_name (i := 2) sc_field_kind.nd rfl (Or.inl rfl)) (pgs_cons (pg_name (i := 3) sc_field_kind.nd rfl (Or.inl rfl)) pgs_nil)))
    (@pss_one _ _ _ (@ps_if _ _ _ _ _ _ _ _ (pt_cmpR op_eq (pv 2) (pv 1) (nomark _)) (@pss_one _ _ _ (@ps_ret _ _ _ _ (pv 3))) pss_nil))) (@pss_one _ _ _ (@ps_ret _ _ _ _ pe_non)))),?_⟩
 cases gk with
 | @rcd _ fs g nd nm hl =>
  refine ⟨_,rfl,_,_,_,hd,rfl,rfl,fun v hv => ?_⟩
  obtain rfl := isStrV hv
  refine ⟨rfl,_,rfl,iteN' ⟨_,rfl,_,_,_,hd,rfl,rfl,fun v hv => ?_⟩⟩
  have q' : RetO K H (lookS fs z) Q := by
   rw [← lookD_map z fs]
   exact q
  obtain ⟨a,xs,rfl,ha,pa,ra⟩ := hv.unref
  have el := ra.length
  rw [List.length_map] at el
  refine ⟨a,rfl,⟨xs,ha⟩,for_tup (xs := xs) (fun i σ H' => H' = H ∧ (∀ j f,j < i → fs[j]? = some f → f.1 ≠ z) ∧ ∃ v1 v2,σ = [some x,some (.str z),v1,v2]) ⟨rfl,fun j f hj => absurd hj (Nat.not_lt_zero _),_,_,rfl⟩ (fun i σ H' _ p => p.1 ▸ ha) ?_ ?_⟩
  ·rintro i y σ H' hy ⟨rfl,pre,v1,v2,rfl⟩
   obtain ⟨e,he,hp⟩ := ra.get' hy
   rw [List.getElem?_map] at he
   obtain ⟨⟨w,e'⟩,hf,rfl⟩ := Option.map_eq_some_iff.mp he
   obtain ⟨b,ys,rfl,hb,pb,rb⟩ := hp.unref
   cases rb with
   | cons r1 rb =>
    cases rb with
    | @cons _ _ y2 _ r2 rb =>
     cases rb
     obtain rfl := isStrV r1
     refine ⟨b,_,rfl,hb,rfl,_,_,rfl,_,_,rfl,rfl,?_⟩
     refine ⟨_,rfl,_,rfl,rfl,_,rfl,?_⟩
     by_cases hz : w = z
     ·subst hz
      refine iteY ⟨_,rfl,?_⟩
      rw [look_at hf pre] at q'
      exact q' _ r2
     ·refine iteN (strNe hz) ⟨rfl,fun j f hj hjf => ?_,_,_,rfl⟩
      rcases Nat.lt_succ_iff_lt_or_eq.mp hj with h1 | h1
      ·exact pre j f h1 hjf
      ·subst h1
       rw [hf] at hjf
       obtain rfl := Option.some.inj hjf
       exact hz
  ·rintro σ H' ⟨rfl,pre,v1,v2,rfl⟩
   rw [look_none (fun f hf => by
    obtain ⟨j,hj,e⟩ := List.mem_iff_getElem.mp hf
    exact pre j f (by lia) (by rw [List.getElem?_eq_getElem hj,e]))] at q'
   exact q'
 | _ =>
  refine ⟨_,rfl,_,_,_,hd,rfl,rfl,fun v hv => ?_⟩
  obtain rfl := isStrV hv
  refine ⟨rfl,_,rfl,iteY' (strNe (by decide)) ?_⟩
  first
   | exact q
   | (rw [fieldD_three] at q; exact q)
theorem ok_law_mixed (T : Tx K mg) {f : Addr} {fd : FuncData} (F : Gn K mg "_law_mixed" s_law_mixed ["cell","k"] f fd) : FnOk P w K mg base CX0 1 f fd ["cell","k"] (sp_law_mixed K) := by
 refine F.F.ok sc_law_mixed (fun vs H Q E h => ?_) (fun cdv A outer s H vs Q E hr h => ?_)
 ·obtain ⟨i,k,rfl,_⟩ := h
  rfl
 obtain ⟨i,k,rfl,q⟩ := h
 refine ⟨_,(@pss_cons _ _ _ _ _ (@ps_set _ _ 2 _ _ _ _ sc_law_mixed.nd rfl (Or.inl rfl) (@pe_op _ _ _ _ _ _ _ _ op_mod (@pe_op _ _ _ _ _ _ _ _ op_mul (@pe_op _ _ _ _ _ _ _ _ op_add (@pe_op _ _ _ _ _ _ _ _ op_add (@pe_op _ _ _ _ _ _ _ _ op_mod (pv 0) pe_int) (@pe_op _ _ _ _ _ _ _ _ op_mul pe_int (pv 1))) pe_int) pe_int) pe_int) (by rfl) (by first | exact .inl rfl | exact .inr rfl | assumption)) (@pss_one _ _ _ (@ps_ret _ _ _ _ (@pe_op _ _ _ _ _ _ _ _ op_mod (@pe_op _ _ _ _ _ _ _ _ op_mul (@pe_op _ _ _ _ _ _ _ _ op_mod (@pe_op _ _ _ _ _ _ _ _ op_mul (pv 2) (pv 2)) pe_int) pe_int) pe_int)))),?_⟩
 refine ⟨_,rfl,_,_,rfl,rfl,(by show (0 : Int) < 1000000007; decide),_,rfl,_,_,rfl,rfl,.inl ⟨by decide,by decide⟩,_,_,rfl,rfl,_,_,rfl,rfl,_,_,rfl,rfl,.inr ⟨by decide,by decide⟩,_,_,rfl,rfl,(by show (0 : Int) < 2147483647; decide),?_⟩
 have b0 : (0 : Int) ≤ (i % 1000000007 + 7919 * k + 1) * 48271 % 2147483647 := Int.emod_nonneg _ (by decide)
 have b1 : (i % 1000000007 + 7919 * k + 1) * 48271 % 2147483647 < 2147483647 := Int.emod_lt_of_pos _ (by decide)
 exact ⟨_,rfl,_,rfl,_,_,rfl,rfl,.inl ⟨by lia,by lia⟩,_,_,rfl,rfl,(by show (0 : Int) < 2147483629; decide),_,_,rfl,rfl,.inr ⟨by decide,by decide⟩,_,_,rfl,rfl,(by show (0 : Int) < 2147483647; decide),q _⟩
theorem ok_law_digit (T : Tx K mg) {f : Addr} {fd : FuncData} (F : Gn K mg "_law_digit" s_law_digit ["row","many"] f fd) : FnOk P w K mg base CX0 1 f fd ["row","many"] (sp_law_digit K) := by
 refine F.F.ok sc_law_digit (fun vs H Q E h => ?_) (fun cdv A outer s H vs Q E hr h => ?_)
 ·obtain ⟨r,n,m,rfl,_⟩ := h
  rfl
 obtain ⟨r,n,m,rfl,hr0,h0,h1,q⟩ := h
 refine ⟨_,(@pss_cons _ _ _ _ _ (@ps_set _ _ 2 _ _ _ _ sc_law_digit.nd rfl (Or.inl rfl) (@pe_op _ _ _ _ _ _ _ _ op_mod (@pe_ix _ _ _ _ _ _ _ ix_list (pv 0) pe_int (fun _ _ => rfl)) (pv 1)) (by rfl) (by first | exact .inl rfl | exact .inr rfl | assumption)) (@pss_cons _ _ _ _ _ (ps_asg (@pe_op _ _ _ _ _ _ _ _ op_fdivB (@pe_ix _ _ _ _ _ _ _ ix_list (pv 0) pe_int (fun _ _ => rfl)) (pv 1)) (pg_sub (pv 0) pe_int set_list)) (@pss_one _ _ _ (@ps_ret _ _ _ _ (pv 2))))),?_⟩
 have e0 : atI [V.int n] 0 = some (.int n) := rfl
 exact ⟨_,rfl,r,_,_,_,rfl,rfl,SqL.of hr0,e0,_,rfl,_,_,rfl,rfl,h0,_,rfl,r,_,_,_,rfl,rfl,SqL.of hr0,e0,_,rfl,_,_,rfl,rfl,⟨h0,h1⟩,_,rfl,r,_,_,_,rfl,rfl,hr0,rfl,_,rfl,q⟩
theorem pick {α : Type} {xs : List α} {d : Int} (h0 : 0 ≤ d) (h1 : d < (xs.length : Int)) : ∃ v,v ∈ xs ∧ atI xs d = some v := by
 have hk : d.toNat < xs.length := by lia
 have ek : ((d.toNat : Nat) : Int) = d := by lia
 have e : atI xs ((d.toNat : Nat) : Int) = some xs[d.toNat] := atI_nat (by simp [hk])
 rw [ek] at e
 exact ⟨xs[d.toNat],List.getElem_mem hk,e⟩
theorem pickStr {z : Str} {d : Int} (h0 : 0 ≤ d) (h1 : d < (z.length : Int)) : ∃ c,atI z.cps.toList d = some c := by
 obtain ⟨c,_,e⟩ := pick (xs := z.cps.toList) (d := d) h0 (by simpa [Str.length] using h1)
 exact ⟨c,e⟩
theorem mod_lt (n : Int) {m : Int} (h : 0 < m) : 0 ≤ n % m ∧ n % m < m := ⟨Int.emod_nonneg _ (by lia),Int.emod_lt_of_pos _ h⟩
theorem bits60 (x : Int) : Builtin.Int.intBits (x % 10 ^ (60 : Int).toNat) ≤ 200 := by
 have h0 : (0 : Int) < 10 ^ (60 : Int).toNat := by decide +kernel
 refine bits_lt (Int.emod_nonneg _ (Int.ne_of_gt h0)) (Int.lt_trans (Int.emod_lt_of_pos _ h0) ?_)
 decide +kernel
theorem bits60' : Builtin.Int.intBits ((10 : Int) ^ (60 : Int).toNat) ≤ 200 := by decide +kernel
theorem for_range3 {lo c : Int} {n : Nat} {g : TG} {tb : TS} {D : Ends} {σ : L2.St} {H : Hp} (Pv : Nat → L2.St → Hp → Prop) (h0 : Pv 0 σ H)
  (hs : ∀ i σ H,i < n → Pv i σ H → g (.int (lo + i * c)) σ H fun σ2 H2 => tb { D with nx := Pv (i + 1),ct := Pv (i + 1),bk := D.nx } σ2 H2) (hd : ∀ σ H,Pv n σ H → D.nx σ H) :
  ∃ W : Nat → Nat → L2.St → Hp → Prop,(∃ m,W 0 m σ H) ∧ ∀ i m σ H,W i m σ H →
   ((Itr3 lo c n).stop i H ∧ D.nx σ H) ∨ ((Itr3 lo c n).go i H ∧ ∃ N : L2.St → Hp → Prop,(∀ σ' H',N σ' H' → ∃ m',m' < m ∧ W (i + 1) m' σ' H') ∧ ∀ x H',(Itr3 lo c n).yld i H x H' → g x σ H' fun σ2 H2 => tb { D with nx := N,ct := N,bk := D.nx } σ2 H2) := by
 refine ⟨fun i m σ H => m = n - i ∧ i ≤ n ∧ Pv i σ H,⟨n,by simp,Nat.zero_le _,h0⟩,?_⟩
 rintro i m σ H ⟨rfl,hi,p⟩
 by_cases hlt : i < n
 ·refine .inr ⟨hlt,Pv (i + 1),fun σ' H' p' => ⟨n - (i + 1),by lia,rfl,hlt,p'⟩,fun x H' y => ?_⟩
  obtain ⟨e,y⟩ := y
  subst e y
  exact hs i σ _ hlt p
 ·have e : i = n := by lia
  subst e
  exact .inl ⟨Nat.le_refl _,hd σ H p⟩
theorem ok_law_stream (T : Tx K mg) {f : Addr} {fd : FuncData} (F : Gn K mg "_law_stream" s_law_stream ["script","k"] f fd) : FnOk P w K mg base CX0 2 f fd ["script","k"] (sp_law_stream K) := by
 obtain ⟨f_law_mixed,fd_law_mixed,D_law_mixed⟩ := T.law_mixed
 have G_law_mixed := ok_law_mixed (P := P) (w := w) (base := base) T D_law_mixed
 refine F.F.ok sc_law_stream (fun vs H Q E h => ?_) (fun cdv A outer s H vs Q E hr h => ?_)
 ·obtain ⟨a,ns,k,rfl,_⟩ := h
  rfl
 obtain ⟨a,ns,k,rfl,hS,h63,h0,h1,q⟩ := h
 refine ⟨_,(@pss_cons _ _ _ _ _ (@ps_set _ _ 2 _ _ _ _ sc_law_stream.nd rfl (Or.inl rfl) pe_int (by rfl) (by first | exact .inl rfl | exact .inr rfl | assumption)) (@pss_cons _ _ _ _ _ (ps_for PassesOwn.never rfl (pi_range3 rfl T.z_range (@pa_cons _ _ _ _ _ (pv 1) (@pa_cons _ _ _ _ _ (pe_callB (call_len_seqN (K := K) rfl) rfl T.z_len PySem.boot_len (@pa_cons _ _ _ _ _ (pv 0) pa_nil (by rfl))) (@pa_cons _ _ _ _ _ pe_int pa_nil (by rfl)) (by rfl)) (by rfl))) (pg_name (i := 3) sc_law_stream.nd rfl (Or.inl rfl))
    (@pss_one _ _ _ (@ps_set _ _ 2 _ _ _ _ sc_law_stream.nd rfl (Or.inl rfl) (@pe_op _ _ _ _ _ _ _ _ op_add (@pe_op _ _ _ _ _ _ _ _ op_mulB (pv 2) (@pe_op _ _ _ _ _ _ _ _ op_pow pe_int pe_int)) (@pe_op _ _ _ _ _ _ _ _ op_mod (@pe_ix _ _ _ _ _ _ _ ix_list (pv 0) (pv 3) (fun _ _ => rfl)) (@pe_op _ _ _ _ _ _ _ _ op_pow pe_int pe_int))) (by rfl) (by first | exact .inl rfl | exact .inr rfl | assumption)))) (@pss_cons _ _ _ _ _ (@ps_if _ _ _ _ _ _ _ _ (pt_cmpR op_ge (pv 2) (@pe_op _ _ _ _ _ _ _ _ op_pow pe_int pe_int) (nomark _)) (@pss_one _ _ _ (@ps_ret _ _ _ _ (@pe_lst _ _ _ _ (@pa_cons _ _ _ _ _ (pv 2) pa_nil (by rfl))))) pss_nil) (@pss_cons _ _ _ _ _ (@ps_set _ _ 4 _ _ _ _ sc_law_stream.nd rfl (Or.inl rfl) pe_int (by rfl) (by first | exact .inl rfl | exact .inr rfl | assumption)) (@pss_cons _ _ _ _ _ (ps_for PassesOwn.never rfl (pi_range1 rfl T.z_range (@pa_cons _ _ _ _ _ pe_int pa_nil (by rfl))) (pg_name (i := 3) sc_law_stream.nd rfl (Or.inl rfl))
    (@pss_one _ _ _ (@ps_set _ _ 4 _ _ _ _ sc_law_stream.nd rfl (Or.inl rfl) (@pe_op _ _ _ _ _ _ _ _ op_add (@pe_op _ _ _ _ _ _ _ _ op_mul (pv 4) pe_int) (pe_call G_law_mixed (hr.mono (by first | decide | lia)) rfl D_law_mixed.m D_law_mixed.F.kp D_law_mixed.b .nil pass0 (@pa_cons _ _ _ _ _ (@pe_op _ _ _ _ _ _ _ _ op_add (@pe_op _ _ _ _ _ _ _ _ op_add (pv 2) (@pe_op _ _ _ _ _ _ _ _ op_mul pe_int (pv 1))) (pe_callB (call_len_seqN (K := K) rfl) rfl T.z_len PySem.boot_len (@pa_cons _ _ _ _ _ (pv 0) pa_nil (by rfl)))) (@pa_cons _ _ _ _ _ (pv 3) pa_nil (by rfl)) (by rfl)))) (by rfl) (by first | exact .inl rfl | exact .inr rfl | assumption)))) (@pss_one _ _ _ (@ps_ret _ _ _ _ (@pe_lst _ _ _ _ (@pa_cons _ _ _ _ _ (@pe_op _ _ _ _ _ _ _ _ op_fdivB (pv 4) pe_int) pa_nil (by rfl)))))))))),?_⟩
 have hlen : (ns.map V.int).length = ns.length := List.length_map _
 have hn : rngN k ns.length 9 ≤ 63 := by
  have := rngN_le (a := k) (b := ns.length) (c := 9) (by decide)
  split at this <;> lia
 refine ⟨_,rfl,_,rfl,a,_,rfl,.inl hS,_,_,_,rfl,⟨h0,by lia,by lia,by rw [hlen]; lia,by decide,by decide⟩,?_⟩
 rw [hlen]
 refine for_range3 (lo := k) (c := 9) (n := rngN k ns.length 9) (fun i σ H' => H' = H ∧ ∃ x v,Builtin.Int.intBits x ≤ 1 + 402 * i ∧ σ = [some (.ref a),some (.int k),some (.int x),v,none]) ⟨rfl,0,none,by decide,rfl⟩ ?_ ?_
 ·rintro i σ H' hi ⟨rfl,x,v,hx,rfl⟩
  have hlt := rngN_lt (a := k) (b := ns.length) (c := 9) (by decide) hi
  have hk : (k + i * 9).toNat < ns.length := by lia
  have ek : (((k + i * 9).toNat : Nat) : Int) = k + i * 9 := by lia
  have e : atI (ns.map V.int) (((k + i * 9).toNat : Nat) : Int) = some (.int ns[(k + i * 9).toNat]) := atI_nat (by simp [hk])
  rw [ek] at e
  refine ⟨_,rfl,_,_,rfl,rfl,⟨by decide,by decide,by decide⟩,_,_,rfl,rfl,mulOk_of_bits (m := 1 + 402 * i) (n := 200) hx bits60' (by lia),?_⟩
  refine ⟨_,rfl,_,rfl,a,_,_,_,rfl,rfl,hS,e,_,_,rfl,rfl,⟨by decide,by decide,by decide⟩,_,_,rfl,rfl,(by show (0 : Int) < 10 ^ (60 : Int).toNat; decide +kernel),_,_,rfl,rfl,?_⟩
  refine ⟨rfl,_,_,?_,rfl⟩
  refine Nat.le_trans (intBits_add_le (intBits_mul_le hx bits60') (bits60 _)) ?_
  lia
 ·rintro σ H' ⟨rfl,x,v,hx,rfl⟩
  refine ⟨_,rfl,_,_,rfl,rfl,⟨by decide,by decide,by decide⟩,_,_,rfl,rfl,_,rfl,?_⟩
  refine ite2 (fun c1 => ?_) (fun c1 => ?_)
  ·exact ⟨_,rfl,(by show 1 ≤ sizeLine; decide),fun r hr' => q r x _ hr' (same_new hr' _) upd_same⟩
  refine ⟨9,rfl,by decide,by decide,for_range (lo := 0) (n := (9 : Int).toNat) (fun i σ H1 => H1 = H' ∧ ∃ y v,σ = [some (.ref a),some (.int k),some (.int x),v,some (.int y)]) ⟨rfl,0,_,rfl⟩ ?_ ?_⟩
  ·rintro i σ H1 hi ⟨rfl,y,v,rfl⟩
   refine ⟨_,rfl,_,_,rfl,rfl,.inr ⟨by decide,by decide⟩,?_⟩
   refine ⟨_,rfl,_,rfl,_,_,rfl,rfl,.inl ⟨by decide,by decide⟩,_,_,rfl,rfl,_,rfl,a,_,rfl,.inl hS,_,_,rfl,rfl,_,rfl,_,_,rfl,fun m => ?_⟩
   exact ⟨_,_,rfl,rfl,rfl,_,_,rfl⟩
  ·rintro σ H1 ⟨rfl,y,v,rfl⟩
   exact ⟨_,rfl,_,_,rfl,rfl,⟨by decide,by decide⟩,(by show 1 ≤ sizeLine; decide),fun r hr' => q r _ _ hr' (same_new hr' _) upd_same⟩
noncomputable def Gen (K : PySem.W.Frag) (r : Addr) (H : Hp) (n : Nat) (Q : VK) : Prop := ∀ v d n' H',But r H H' → H' r = some (.lst [.int n']) → IsP K H' d v → GK n d → Q v H'
noncomputable def sp_law_leaf (K : PySem.W.Frag) : Sp := fun vs H Q _ => ∃ (r : Addr) (c : Int),vs = [.ref r] ∧ H r = some (.lst [.int c]) ∧ ∀ v d n' H',But r H H' → H' r = some (.lst [.int n']) → IsP K H' d v → (∀ m,GK m d) → Q v H'
noncomputable def skind (K : PySem.W.Frag) (n : Nat) : Sp := fun vs H Q _ => ∃ (r : Addr) (c : Int) (m : Nat),n = m + 1 ∧ vs = [.ref r,.int m] ∧ H r = some (.lst [.int c]) ∧ Gen K r H m Q
noncomputable def srecord (K : PySem.W.Frag) (n : Nat) : Sp := fun vs H Q _ => ∃ (r a : Addr) (c : Int) (zs : List Str) (m : Nat),n = m + 1 ∧ vs = [.ref r,.int (m + 1 : Nat),.ref a] ∧ H r = some (.lst [.int c]) ∧ H a = some (.lst (zs.map V.str)) ∧ zs.length ≤ 5 ∧
 ∀ (v : V) (fs : List (Str × Dt)) (n' : Int) (H' : Hp),But r H H' → H' r = some (.lst [.int n']) → IsP K H' (.tup [.str "record",.tup (fs.map prD)]) v → (fs.map (·.1)).Sublist zs → (∀ f ∈ fs,GK m f.2) → Q v H'
noncomputable def srows (K : PySem.W.Frag) (n : Nat) : Sp := fun vs H Q _ => ∃ (r : Addr) (c : Int) (m : Nat),n = m + 2 ∧ vs = [.ref r,.int (m + 2 : Nat)] ∧ H r = some (.lst [.int c]) ∧ Gen K r H (m + 2) Q
theorem pickI {ns : List Int} {d : Int} (h0 : 0 ≤ d) (h1 : d < (ns.length : Int)) : ∃ i : Int,i ∈ ns ∧ atI (ns.map V.int) d = some (.int i) := by
 obtain ⟨v,hv,e⟩ := pick (xs := ns.map V.int) h0 (by rw [List.length_map]; exact h1)
 obtain ⟨i,hi,rfl⟩ := List.mem_map.mp hv
 exact ⟨i,hi,e⟩
theorem ten30 : (10 : Int) ^ (30 : Int).toNat = 1000000000000000000000000000000 := by decide +kernel
theorem mid_le {i j : Int} (h : i ≤ 1000000000000000000000000000000) (hj : 0 ≤ j) : i ≤ if i + j < 10 ^ (30 : Int).toNat then i + j else 10 ^ (30 : Int).toNat := by
 rw [ten30]
 split <;> lia
theorem min_le (x : Int) : (if x < 10 ^ (30 : Int).toNat then x else 10 ^ (30 : Int).toNat) ≤ 1000000000000000000000000000000 := by
 rw [ten30]
 split <;> lia
theorem in_text : ∀ i ∈ ([0,1,3,5,60] : List Int),0 ≤ i ∧ i ≤ 60 := by decide
theorem in_low : ∀ i ∈ ([0,0,-7,10,3,-(10 ^ (30 : Int).toNat)] : List Int),-1000000000000000000000000000000 ≤ i ∧ i ≤ 1000000000000000000000000000000 := by decide +kernel
theorem in_add : ∀ i ∈ ([9,0,30,99,20,10 ^ (30 : Int).toNat] : List Int),0 ≤ i := by decide +kernel
theorem in_cut : ∀ k : Fin 3,∃ ws : List Str,1 ≤ ws.length ∧ ws.length ≤ 8 ∧ cutD [.str "b",.str "a",.str "no",.str "yes"] (some (k.val : Int)) none = ws.map Dt.str
 | 0 => ⟨["b","a","no","yes"],by decide,by decide,by rfl⟩
 | 1 => ⟨["a","no","yes"],by decide,by decide,by rfl⟩
 | 2 => ⟨["no","yes"],by decide,by decide,by rfl⟩
theorem in_cutI (c : Int) : ∃ ws : List Str,1 ≤ ws.length ∧ ws.length ≤ 8 ∧ cutD [.str "b",.str "a",.str "no",.str "yes"] (some (c % 3)) none = ws.map Dt.str := by
 obtain ⟨h0,h1⟩ := mod_lt c (m := 3) (by decide)
 obtain ⟨ws,a,b,e⟩ := in_cut ⟨(c % 3).toNat,by lia⟩
 refine ⟨ws,a,b,?_⟩
 rw [← e]
 show cutD _ (some (c % 3)) none = cutD _ (some (((c % 3).toNat : Nat) : Int)) none
 rw [show (((c % 3).toNat : Nat) : Int) = c % 3 by lia]
theorem ok_law_leaf (T : Tx K mg) {f : Addr} {fd : FuncData} (F : Gn K mg "_law_leaf" s_law_leaf ["row"] f fd) : FnOk P w K mg base CX0 2 f fd ["row"] (sp_law_leaf K) := by
 obtain ⟨f_law_digit,fd_law_digit,D_law_digit⟩ := T.law_digit
 have G_law_digit := ok_law_digit (P := P) (w := w) (base := base) T D_law_digit
 refine F.F.ok sc_law_leaf (fun vs H Q E h => ?_) (fun cdv A outer s H vs Q E hr h => ?_)
 ·obtain ⟨r,c,rfl,_⟩ := h
  rfl
 obtain ⟨r,c,rfl,hr0,q⟩ := h
 refine ⟨_,(@pss_cons _ _ _ _ _ (@ps_set _ _ 1 _ _ _ _ sc_law_leaf.nd rfl (Or.inl rfl) (pe_call G_law_digit (hr.mono (by first | decide | lia)) rfl D_law_digit.m D_law_digit.F.kp D_law_digit.b .nil pass0 (@pa_cons _ _ _ _ _ (pv 0) (@pa_cons _ _ _ _ _ pe_int pa_nil (by rfl)) (by rfl))) (by rfl) (by first | exact .inl rfl | exact .inr rfl | assumption)) (@pss_cons _ _ _ _ _ (@ps_if _ _ _ _ _ _ _ _ (pt_cmpR op_eq (pv 1) pe_int (nomark _)) (@pss_one _ _ _ (@ps_ret _ _ _ _ (@pe_tupP _ _ _ _ _ (@pa_cons _ _ _ _ _ pe_str (@pa_cons _ _ _ _ _ (@pe_ix _ _ _ _ _ _ _ ix_list (@pe_lst _ _ _ _ (@pa_cons _ _ _ _ _ pe_int (@pa_cons _ _ _ _ _ pe_int (@pa_cons _ _ _ _ _ pe_int (@pa_cons _ _ _ _ _ pe_int (@pa_cons _ _ _ _ _ pe_int pa_nil (by rfl)) (by rfl)) (by rfl)) (by rfl)) (by rfl))) (pe_call G_law_digit (hr.mono (by first | decide | lia)) rfl D_law_digit.m D_law_digit.F.kp D_law_digit.b .nil pass0 (@pa_cons _ _ _ _ _ (pv 0) (@pa_cons _ _ _ _ _ pe_int pa_nil (by rfl)) (by rfl))) (fun _ _ => rfl)) pa_nil (by rfl)) (by rfl))))) pss_nil) (@pss_cons _ _ _ _ _ (@ps_if _ _ _ _ _ _ _ _ (pt_cmpR op_eq (pv 1) pe_int (nomark _)) (@pss_one _ _ _ (@ps_ret _ _ _ _ (@pe_tupP _ _ _ _ _ (@pa_cons _ _ _ _ _ pe_str (@pa_cons _ _ _ _ _ (pe_slice (sl_tupPN (K := K) rfl) (@pe_tupP _ _ _ _ _ (@pa_cons _ _ _ _ _ pe_str (@pa_cons _ _ _ _ _ pe_str (@pa_cons _ _ _ _ _ pe_str (@pa_cons _ _ _ _ _ pe_str pa_nil (by rfl)) (by rfl)) (by rfl)) (by rfl))) (po_some (pe_call G_law_digit (hr.mono (by first | decide | lia)) rfl D_law_digit.m D_law_digit.F.kp D_law_digit.b .nil pass0 (@pa_cons _ _ _ _ _ (pv 0) (@pa_cons _ _ _ _ _ pe_int pa_nil (by rfl)) (by rfl)))) po_none) pa_nil (by rfl)) (by rfl))))) pss_nil) (@pss_cons _ _ _ _ _ (@ps_set _ _ 2 _ _ _ _ sc_law_leaf.nd rfl (Or.inl rfl) (@pe_ix _ _ _ _ _ _ _ ix_list (@pe_lst _ _ _ _ (@pa_cons _ _ _ _ _ pe_int (@pa_cons _ _ _ _ _ pe_int (@pa_cons _ _ _ _ _ (@pe_un _ _ _ _ _ _ un_neg pe_int) (@pa_cons _ _ _ _ _ pe_int (@pa_cons _ _ _ _ _ pe_int (@pa_cons _ _ _ _ _ (@pe_un _ _ _ _ _ _ un_neg (@pe_op _ _ _ _ _ _ _ _ op_pow pe_int pe_int)) pa_nil (by rfl)) (by rfl)) (by rfl)) (by rfl)) (by rfl)) (by rfl))) (pe_call G_law_digit (hr.mono (by first | decide | lia)) rfl D_law_digit.m D_law_digit.F.kp D_law_digit.b .nil pass0 (@pa_cons _ _ _ _ _ (pv 0) (@pa_cons _ _ _ _ _ pe_int pa_nil (by rfl)) (by rfl))) (fun _ _ => rfl)) (by rfl) (by first | exact .inl rfl | exact .inr rfl | assumption)) (@pss_one _ _ _ (@ps_ret _ _ _ _ (@pe_tupP _ _ _ _ _ (@pa_cons _ _ _ _ _ pe_str (@pa_cons _ _ _ _ _ (pv 2) (@pa_cons _ _ _ _ _ (pe_callB (call_min2 rfl) rfl T.z_min boot_min (@pa_cons _ _ _ _ _ (@pe_op _ _ _ _ _ _ _ _ op_pow pe_int pe_int) (@pa_cons _ _ _ _ _ (@pe_op _ _ _ _ _ _ _ _ op_add (pv 2) (@pe_ix _ _ _ _ _ _ _ ix_list (@pe_lst _ _ _ _ (@pa_cons _ _ _ _ _ pe_int (@pa_cons _ _ _ _ _ pe_int (@pa_cons _ _ _ _ _ pe_int (@pa_cons _ _ _ _ _ pe_int (@pa_cons _ _ _ _ _ pe_int (@pa_cons _ _ _ _ _ (@pe_op _ _ _ _ _ _ _ _ op_pow pe_int pe_int) pa_nil (by rfl)) (by rfl)) (by rfl)) (by rfl)) (by rfl)) (by rfl))) (pe_call G_law_digit (hr.mono (by first | decide | lia)) rfl D_law_digit.m D_law_digit.F.kp D_law_digit.b .nil pass0 (@pa_cons _ _ _ _ _ (pv 0) (@pa_cons _ _ _ _ _ pe_int pa_nil (by rfl)) (by rfl))) (fun _ _ => rfl))) pa_nil (by rfl)) (by rfl))) pa_nil (by rfl)) (by rfl)) (by rfl))))))))),?_⟩
 refine ⟨_,rfl,r,c,4,rfl,hr0,by decide,by decide,?_⟩
 refine ⟨_,rfl,rfl,_,rfl,?_⟩
 refine ite2 (fun c1 => ?_) (fun c1 => ?_)
 ·refine ⟨(by show 5 ≤ sizeLine; decide),fun p hp => ?_⟩
  have nrp : r ≠ p := ne_of_none upd_same hp
  obtain ⟨d0,d1⟩ := mod_lt (c / 4) (m := 5) (by decide)
  obtain ⟨i,mi,ei⟩ := pickI (ns := [0,1,3,5,60]) d0 d1
  refine ⟨_,rfl,r,c / 4,5,rfl,(by rw [upd_ne nrp]; exact upd_same),by decide,by decide,p,_,_,_,rfl,rfl,SqL.of (by rw [upd_ne nrp.symm]; exact upd_same),ei,?_⟩
  refine ⟨[.str "text",.int i],.cons .str (.cons .int .nil),(by show 2 ≤ sizeLine; decide),fun v H' g hv => ?_⟩
  exact q v _ _ H' (((But.put.trans (But.same (same_new hp _))).trans But.put).trans (But.same g)) (g _ _ upd_same) hv fun m => .text m i (in_text i mi).1 (in_text i mi).2
 refine ⟨_,rfl,rfl,_,rfl,?_⟩
 refine ite2 (fun c2 => ?_) (fun c2 => ?_)
 ·refine ⟨[.str "b",.str "a",.str "no",.str "yes"],.cons .str (.cons .str (.cons .str (.cons .str .nil))),(by show 4 ≤ sizeLine; decide),fun v1 H1 g1 hv1 => ?_⟩
  have e1 := g1 _ _ (upd_same (H := H) (a := r) (o := .lst [.int (c / 4)]))
  refine ⟨_,rfl,r,c / 4,3,rfl,e1,by decide,by decide,_,rfl,?_⟩
  have hv2 := hv1.but e1 (But.put (o := .lst [.int (c / 4 / 3)]))
  refine ⟨_,hv2,fun v3 H3 g3 hv3 => ?_⟩
  refine ⟨[.str "choice",_],.cons .str (.cons hv3 .nil),(by show 2 ≤ sizeLine; decide),fun v H' g hv => ?_⟩
  refine q v _ _ H' ((((But.put.trans (But.same g1)).trans But.put).trans (But.same g3)).trans (But.same g)) (g _ _ (g3 _ _ upd_same)) hv fun m => ?_
  obtain ⟨ws,l1,l2,ew⟩ := in_cutI (c / 4)
  rw [ew]
  exact .choice m ws l1 l2
 refine ⟨_,rfl,_,_,rfl,rfl,⟨by decide,by decide,by decide⟩,_,rfl,(by show 6 ≤ sizeLine; decide),fun p hp => ?_⟩
 have nrp : r ≠ p := ne_of_none upd_same hp
 obtain ⟨d0,d1⟩ := mod_lt (c / 4) (m := 6) (by decide)
 obtain ⟨i,mi,ei⟩ := pickI (ns := [0,0,-7,10,3,-(10 ^ (30 : Int).toNat)]) d0 d1
 refine ⟨_,rfl,r,c / 4,6,rfl,(by rw [upd_ne nrp]; exact upd_same),by decide,by decide,p,_,_,_,rfl,rfl,SqL.of (by rw [upd_ne nrp.symm]; exact upd_same),ei,?_⟩
 refine ⟨_,rfl,_,_,rfl,rfl,⟨by decide,by decide,by decide⟩,_,rfl,_,_,rfl,rfl,⟨by decide,by decide,by decide⟩,(by show 6 ≤ sizeLine; decide),fun p2 hp2 => ?_⟩
 have nrp2 : r ≠ p2 := ne_of_none upd_same hp2
 obtain ⟨g0,g1⟩ := mod_lt (c / 4 / 6) (m := 6) (by decide)
 obtain ⟨j,mj,ej⟩ := pickI (ns := [9,0,30,99,20,10 ^ (30 : Int).toNat]) g0 g1
 refine ⟨_,rfl,r,c / 4 / 6,6,rfl,(by rw [upd_ne nrp2]; exact upd_same),by decide,by decide,p2,_,_,_,rfl,rfl,SqL.of (by rw [upd_ne nrp2.symm]; exact upd_same),ej,_,_,rfl,rfl,_,_,rfl,?_⟩
 refine ⟨[.str "number",.int _,.int _],.cons .str (.cons .int (.cons .int .nil)),(by show 3 ≤ sizeLine; decide),fun v H' g hv => ?_⟩
 exact q v _ _ H' (((((But.put.trans (But.same (same_new hp _))).trans But.put).trans (But.same (same_new hp2 _))).trans But.put).trans (But.same g)) (g _ _ upd_same) hv fun m => .number m _ _ (in_low i mi).1 (mid_le (in_low i mi).2 (in_add j mj)) (min_le _)
theorem ok_law_record (T : Tx K mg) {f fk : Addr} {fd fdk : FuncData} (n : Nat) (F : Gn K mg "_law_record" s_law_record ["row","deep","names"] f fd) (D_law_kind : Gn K mg "_law_kind" s_law_kind ["row","deep"] fk fdk)
  (G_law_kind : FnOk P w K mg base CX0 (3 * n + 3) fk fdk ["row","deep"] (skind K n)) : FnOk P w K mg base CX0 (3 * n + 3 + 1) f fd ["row","deep","names"] (srecord K n) := by
 obtain ⟨f_law_digit,fd_law_digit,D_law_digit⟩ := T.law_digit
 have G_law_digit := ok_law_digit (P := P) (w := w) (base := base) T D_law_digit
 refine F.F.ok sc_law_record (fun vs H Q E h => ?_) (fun cdv A outer s H vs Q E hr h => ?_)
 ·obtain ⟨r,a,c,zs,m,_,rfl,_⟩ := h
  rfl
 obtain ⟨r,a,c,zs,m,rfl,rfl,hr0,ha,hz,q⟩ := h
 refine ⟨_,(@pss_cons _ _ _ _ _ (@ps_set _ _ 3 _ _ _ _ sc_law_record.nd rfl (Or.inl rfl) (@pe_lst _ _ _ _ pa_nil) (by rfl) (by first | exact .inl rfl | exact .inr rfl | assumption)) (@pss_cons _ _ _ _ _ (ps_for PassesOwn.never rfl (pi_list (pv 2)) (pg_name (i := 4) sc_law_record.nd rfl (Or.inl rfl))
    (@pss_one _ _ _ (@ps_if _ _ _ _ _ _ _ _ (pt_cmpR op_gt (pe_call G_law_digit (hr.mono (by first | decide | lia)) rfl D_law_digit.m D_law_digit.F.kp D_law_digit.b .nil pass0 (@pa_cons _ _ _ _ _ (pv 0) (@pa_cons _ _ _ _ _ pe_int pa_nil (by rfl)) (by rfl))) pe_int (nomark _)) (@pss_one _ _ _ (@ps_expr _ _ _ _ (pe_bm PySem.F.plainAttrs_list PySem.F.slot_list_append PySem.F.type_list_append mt_append (pv 3) (@pa_cons _ _ _ _ _ (@pe_tupP _ _ _ _ _ (@pa_cons _ _ _ _ _ (pv 4) (@pa_cons _ _ _ _ _ (pe_call G_law_kind (hr.mono (by first | decide | lia)) rfl D_law_kind.m D_law_kind.F.kp D_law_kind.b .nil pass0 (@pa_cons _ _ _ _ _ (pv 0) (@pa_cons _ _ _ _ _ (@pe_op _ _ _ _ _ _ _ _ op_sub (pv 1) pe_int) pa_nil (by rfl)) (by rfl))) pa_nil (by rfl)) (by rfl))) pa_nil (by rfl))) (by rfl))) pss_nil))) (@pss_one _ _ _ (@ps_ret _ _ _ _ (@pe_tupP _ _ _ _ _ (@pa_cons _ _ _ _ _ pe_str (@pa_cons _ _ _ _ _ (pe_callTy call_tupleP rfl T.z_tuple boot_tuple (@pa_cons _ _ _ _ _ (pv 3) pa_nil (by rfl))) pa_nil (by rfl)) (by rfl))))))),?_⟩
 have nar : a ≠ r := ne_of ha hr0 (by
  intro e
  injection e with e
  cases zs with
  | nil => cases e
  | cons z zs => cases e)
 refine ⟨(by show 0 ≤ sizeLine; decide),fun l hl => ?_⟩
 have nlr : r ≠ l := ne_of_none hr0 hl
 have nla : a ≠ l := ne_of_none ha hl
 refine ⟨_,rfl,a,rfl,⟨_,SqL.of (by rw [upd_ne nla]; exact ha)⟩,for_list (xs := zs.map V.str) (fun i σ H' => ∃ ys fs c' v4,But r H H' ∧ H' r = some (.lst [.int c']) ∧ H' l = some (.lst ys) ∧ IsPs K H' (List.map prD fs) ys ∧ ys.length ≤ i ∧ (fs.map (·.1)).Sublist (zs.take i) ∧ (∀ f ∈ fs,GK m f.2) ∧ σ = [some (.ref r),some (.int (m + 1 : Nat)),some (.ref a),some (.ref l),v4])
  ⟨[],[],c,none,But.same (same_new hl _),(by rw [upd_ne nlr]; exact hr0),upd_same,.nil,Nat.le_refl _,List.Sublist.slnil,(by intro f hf; cases hf),rfl⟩ (fun i σ H' _ p => by
   obtain ⟨ys,fs,c',v4,b,_⟩ := p
   exact SqL.of (b _ _ nar ha)) ?_ ?_⟩
 ·rintro i y σ H1 hy ⟨ys,fs,c',v4,b1,e1,e2,hp,hle,sub,gk,rfl⟩
  rw [List.getElem?_map] at hy
  obtain ⟨z,hzi,rfl⟩ := Option.map_eq_some_iff.mp hy
  have hi : i < zs.length := (List.getElem?_eq_some_iff.mp hzi).1
  have tk : zs.take (i + 1) = zs.take i ++ [z] := by rw [List.take_add_one,hzi]; rfl
  refine ⟨_,rfl,r,c',3,rfl,e1,by decide,by decide,_,_,rfl,rfl,_,rfl,?_⟩
  have b2 : But r H1 (upd H1 r (.lst [.int (c' / 3)])) := But.put
  have f2 : upd H1 r (.lst [.int (c' / 3)]) l = some (.lst ys) := by rw [upd_ne nlr.symm]; exact e2
  refine ite2 (fun c1 => ?_) (fun c1 => ?_)
  ·refine ⟨_,rfl,.inl ⟨rfl,_,SqL.of f2⟩,_,rfl,_,rfl,_,rfl,_,_,rfl,rfl,r,c' / 3,m,rfl,(by rw [Int.natCast_add]; simp),upd_same,fun v d n' H3 b3 e3 hv gd => ?_⟩
   have f3 := b3 _ _ nlr.symm f2
   have hp3 : IsPs K H3 (List.map prD fs) ys := (hp.but e1 b2).but upd_same b3
   refine ⟨[.str z,d],.cons .str (.cons hv .nil),(by show 2 ≤ sizeLine; decide),fun v4 H4 g4 hv4 => ?_⟩
   have f4 := g4 _ _ f3
   refine ⟨l,ys,_,rfl,rfl,f4,small1000 (by lia),?_⟩
   have b5 : But l H4 (upd H4 l (.lst (ys ++ [v4]))) := But.put
   refine ⟨ys ++ [v4],fs ++ [(z,d)],n',_,fun x o nx ex => ?_,?_,upd_same,?_,?_,?_,fun f hf => ?_,rfl⟩
   ·rw [upd_ne (ne_of_none ex hl)]
    exact g4 _ _ (b3 x o nx (b2 x o nx (b1 x o nx ex)))
   ·rw [upd_ne nlr]
    exact g4 _ _ e3
   ·rw [List.map_append]
    exact ((hp3.same g4).but f4 b5).append (.cons (hv4.but f4 b5) .nil)
   ·rw [List.length_append]; simp only [List.length_cons,List.length_nil]; lia
   ·rw [tk,List.map_append]
    exact sub.append (List.Sublist.refl _)
   ·rcases List.mem_append.mp hf with h1 | h1
    ·exact gk f h1
    ·obtain rfl := List.mem_singleton.mp h1
     exact gd
  ·refine ⟨ys,fs,c' / 3,_,fun x o nx ex => b2 x o nx (b1 x o nx ex),upd_same,f2,hp.but e1 b2,by lia,?_,gk,rfl⟩
   rw [tk]
   exact sub.trans (List.sublist_append_left _ _)
 ·rintro σ H1 ⟨ys,fs,c',v4,b1,e1,e2,hp,hle,sub,gk,rfl⟩
  refine ⟨_,rfl,l,ys,_,rfl,SqL.of e2,hp,fun v2 H2 g2 hv2 => ?_⟩
  refine ⟨[.str "record",.tup (List.map prD fs)],.cons .str (.cons hv2 .nil),(by show 2 ≤ sizeLine; decide),fun v H3 g3 hv => ?_⟩
  refine q v fs c' H3 ((b1.trans (But.same g2)).trans (But.same g3)) (g3 _ _ (g2 _ _ e1)) hv ?_ gk
  rw [List.length_map,List.take_length] at sub
  exact sub
noncomputable def nameP (z : Str) : Prop := z ≠ "each" ∧ z.length ≤ 8
noncomputable instance (z : Str) : Decidable (nameP z) := inferInstanceAs (Decidable (_ ∧ _))
theorem nm_ab : ∀ z ∈ (["a","b"] : List Str),nameP z := by decide +kernel
theorem nm_abid : (["a","b","id"] : List Str).Nodup := by decide +kernel
theorem look_last {z : Str} {d : Dt} : ∀ {fs : List (Str × Dt)},(∀ f ∈ fs,f.1 ≠ z) → lookS (fs ++ [(z,d)]) z = some d
 | [],_ => by simp [lookS]
 | f :: fs,h => by
  have r := look_last (d := d) (fs := fs) fun g hg => h g (List.mem_cons_of_mem _ hg)
  rw [← r]
  simp [lookS,h f List.mem_cons_self]
theorem gk_rcd {m : Nat} {fs : List (Str × Dt)} {zs : List Str} (sub : (fs.map (·.1)).Sublist zs) (nd : zs.Nodup) (nm : ∀ z ∈ zs,nameP z) (hz : zs.length ≤ 8) (g : ∀ f ∈ fs,GK m f.2) : GK (m + 1) (.tup [.str "record",.tup (fs.map prD)]) :=
 .rcd g (List.Nodup.sublist sub nd) (fun f hf => nm _ (sub.subset (List.mem_map.mpr ⟨f,hf,rfl⟩))) (by have := sub.length_le; rw [List.length_map] at this; lia)
theorem ok_law_rows (T : Tx K mg) {f fk : Addr} {fd fdk : FuncData} (n k : Nat) (hk : k ≤ 3 * n + 3) (F : Gn K mg "_law_rows" s_law_rows ["row","deep"] f fd) (D_law_record : Gn K mg "_law_record" s_law_record ["row","deep","names"] fk fdk)
  (G_law_record : FnOk P w K mg base CX0 k fk fdk ["row","deep","names"] (srecord K (n - 1))) : FnOk P w K mg base CX0 (3 * n + 3 + 1) f fd ["row","deep"] (srows K n) := by
 obtain ⟨f_law_digit,fd_law_digit,D_law_digit⟩ := T.law_digit
 have G_law_digit := ok_law_digit (P := P) (w := w) (base := base) T D_law_digit
 refine F.F.ok sc_law_rows (fun vs H Q E h => ?_) (fun cdv A outer s H vs Q E hr h => ?_)
 ·obtain ⟨r,c,m,_,rfl,_⟩ := h
  rfl
 obtain ⟨r,c,m,rfl,rfl,hr0,q⟩ := h
 refine ⟨_,(@pss_cons _ _ _ _ _ (@ps_set _ _ 2 _ _ _ _ sc_law_rows.nd rfl (Or.inl rfl) (pe_call G_law_record (hr.mono (by first | decide | lia)) rfl D_law_record.m D_law_record.F.kp D_law_record.b .nil pass0 (@pa_cons _ _ _ _ _ (pv 0) (@pa_cons _ _ _ _ _ (@pe_op _ _ _ _ _ _ _ _ op_sub (pv 1) pe_int) (@pa_cons _ _ _ _ _ (@pe_lst _ _ _ _ (@pa_cons _ _ _ _ _ pe_str (@pa_cons _ _ _ _ _ pe_str pa_nil (by rfl)) (by rfl))) pa_nil (by rfl)) (by rfl)) (by rfl))) (by rfl) (by first | exact .inl rfl | exact .inr rfl | assumption)) (@pss_cons _ _ _ _ _ (@ps_set _ _ 3 _ _ _ _ sc_law_rows.nd rfl (Or.inl rfl) (@pe_ix _ _ _ _ _ _ _ ix_list (@pe_lst _ _ _ _ (@pa_cons _ _ _ _ _ (@pe_tupP _ _ _ _ _ (@pa_cons _ _ _ _ _ pe_str (@pa_cons _ _ _ _ _ (@pe_un _ _ _ _ _ _ un_neg pe_int) (@pa_cons _ _ _ _ _ pe_int pa_nil (by rfl)) (by rfl)) (by rfl))) (@pa_cons _ _ _ _ _ (@pe_tupP _ _ _ _ _ (@pa_cons _ _ _ _ _ pe_str (@pa_cons _ _ _ _ _ pe_int pa_nil (by rfl)) (by rfl))) pa_nil (by rfl)) (by rfl))) (pe_call G_law_digit (hr.mono (by first | decide | lia)) rfl D_law_digit.m D_law_digit.F.kp D_law_digit.b .nil pass0 (@pa_cons _ _ _ _ _ (pv 0) (@pa_cons _ _ _ _ _ pe_int pa_nil (by rfl)) (by rfl))) (fun _ _ => rfl)) (by rfl) (by first | exact .inl rfl | exact .inr rfl | assumption)) (@pss_cons _ _ _ _ _ (@ps_set _ _ 4 _ _ _ _ sc_law_rows.nd rfl (Or.inl rfl) (@pe_ix _ _ _ _ _ _ _ ix_list (@pe_lst _ _ _ _ (@pa_cons _ _ _ _ _ pe_int (@pa_cons _ _ _ _ _ pe_int (@pa_cons _ _ _ _ _ pe_int (@pa_cons _ _ _ _ _ pe_int (@pa_cons _ _ _ _ _ pe_int pa_nil (by rfl)) (by rfl)) (by rfl)) (by rfl)) (by rfl))) (pe_call G_law_digit (hr.mono (by first | decide | lia)) rfl D_law_digit.m D_law_digit.F.kp D_law_digit.b .nil pass0 (@pa_cons _ _ _ _ _ (pv 0) (@pa_cons _ _ _ _ _ pe_int pa_nil (by rfl)) (by rfl))) (fun _ _ => rfl)) (by rfl) (by first | exact .inl rfl | exact .inr rfl | assumption)) (@pss_one _ _ _ (@ps_ret _ _ _ _ (@pe_tupP _ _ _ _ _ (@pa_cons _ _ _ _ _ pe_str (@pa_cons _ _ _ _ _ pe_str (@pa_cons _ _ _ _ _ (@pe_tupP _ _ _ _ _ (@pa_cons _ _ _ _ _ pe_str (@pa_cons _ _ _ _ _ (@pe_op _ _ _ _ _ _ _ _ op_catP (@pe_ix _ _ _ _ _ _ _ ix_tupP (pv 2) pe_int (fun _ _ => rfl)) (@pe_tupP _ _ _ _ _ (@pa_cons _ _ _ _ _ (@pe_tupP _ _ _ _ _ (@pa_cons _ _ _ _ _ pe_str (@pa_cons _ _ _ _ _ (pv 3) pa_nil (by rfl)) (by rfl))) pa_nil (by rfl)))) pa_nil (by rfl)) (by rfl))) (@pa_cons _ _ _ _ _ (pv 4) pa_nil (by rfl)) (by rfl)) (by rfl)) (by rfl)))))))),?_⟩
 have e1 : (((m + 2 : Nat) : Int)) - 1 = ((m + 1 : Nat) : Int) := by lia
 refine ⟨_,rfl,_,rfl,_,_,rfl,rfl,(by show 2 ≤ sizeLine; decide),fun p hp => ?_⟩
 have nrp : r ≠ p := ne_of_none hr0 hp
 refine ⟨r,p,c,["a","b"],m,rfl,(by show [V.ref r,V.int (((m + 2 : Nat) : Int) - 1),V.ref p] = _; rw [e1]),(by rw [upd_ne nrp]; exact hr0),upd_same,by decide,fun v2 fs c2 H2 b2 r2 hv2 sub gk => ?_⟩
 have B2 : But r H H2 := (But.same (same_new hp _)).trans b2
 refine ⟨_,rfl,[.str "number",.int _,.int 40],.cons .str (.cons .int (.cons .int .nil)),(by show 3 ≤ sizeLine; decide),fun v3 H3 g3 hv3 => ?_⟩
 refine ⟨[.str "text",.int 3],.cons .str (.cons .int .nil),(by show 2 ≤ sizeLine; decide),fun v4 H4 g4 hv4 => ?_⟩
 refine ⟨(by show 2 ≤ sizeLine; decide),fun p5 hp5 => ?_⟩
 have g5 := same_new hp5 (.lst [v3,v4])
 have r5 := g5 _ _ (g4 _ _ (g3 _ _ r2))
 obtain ⟨d0,d1⟩ := mod_lt c2 (m := 2) (by decide)
 obtain ⟨vk,hvk,ek⟩ := pick (xs := [v3,v4]) d0 d1
 have nrp5 : r ≠ p5 := ne_of_none (g4 _ _ (g3 _ _ r2)) hp5
 have B5 : But r H (upd H4 p5 (.lst [v3,v4])) := (((B2.trans (But.same g3)).trans (But.same g4)).trans (But.same g5))
 have key : ∃ kd,IsP K (upd H4 p5 (.lst [v3,v4])) kd vk ∧ KeyK kd ∧ ∀ m,GK m kd := by
  rcases List.mem_cons.mp hvk with rfl | h
  ·exact ⟨_,(hv3.same g4).same g5,.inl ⟨_,_,rfl⟩,fun m => .number m _ _ (by decide) (by decide) (by decide)⟩
  ·obtain rfl := List.mem_singleton.mp h
   exact ⟨_,hv4.same g5,.inr ⟨_,rfl⟩,fun m => .text m _ (by decide) (by decide)⟩
 obtain ⟨kd,hkd,kk,gkd⟩ := key
 refine ⟨_,rfl,r,c2,2,rfl,r5,by decide,by decide,p5,_,_,_,rfl,rfl,SqL.of (by rw [upd_ne nrp5.symm]; exact upd_same),ek,?_⟩
 have b6 : But r (upd H4 p5 (.lst [v3,v4])) (upd (upd H4 p5 (.lst [v3,v4])) r (.lst [.int (c2 / 2)])) := But.put
 refine ⟨(by show 5 ≤ sizeLine; decide),fun p7 hp7 => ?_⟩
 have nrp7 : r ≠ p7 := ne_of_none upd_same hp7
 have g7 := same_new hp7 (.lst [.int 0,.int 1,.int 2,.int 3,.int 8])
 obtain ⟨g0,g1⟩ := mod_lt (c2 / 2) (m := 5) (by decide)
 obtain ⟨i,mi,ei⟩ := pickI (ns := [0,1,2,3,8]) g0 g1
 have bi : 0 ≤ i ∧ i ≤ 8 := (by decide : ∀ i ∈ ([0,1,2,3,8] : List Int),0 ≤ i ∧ i ≤ 8) i mi
 refine ⟨_,rfl,r,c2 / 2,5,rfl,g7 _ _ upd_same,by decide,by decide,p7,_,_,_,rfl,rfl,SqL.of (by rw [upd_ne nrp7.symm]; exact upd_same),ei,?_⟩
 have b8 : But r (upd H4 p5 (.lst [v3,v4])) (upd (upd (upd (upd H4 p5 (.lst [v3,v4])) r (.lst [.int (c2 / 2)])) p7 (.lst [.int 0,.int 1,.int 2,.int 3,.int 8])) r (.lst [.int (c2 / 2 / 5)])) := (b6.trans (But.same g7)).trans But.put
 have hin := (((hv2.same g3).same g4).same g5).but r5 b8
 have hke := hkd.but r5 b8
 have r8 : (upd (upd (upd (upd H4 p5 (.lst [v3,v4])) r (.lst [.int (c2 / 2)])) p7 (.lst [.int 0,.int 1,.int 2,.int 3,.int 8])) r (.lst [.int (c2 / 2 / 5)])) r = some (.lst [.int (c2 / 2 / 5)]) := upd_same
 refine ⟨_,rfl,_,_,_,hin,rfl,rfl,fun v9 hv9 => ?_⟩
 refine ⟨_,rfl,[.str "id",kd],.cons .str (.cons hke .nil),(by show 2 ≤ sizeLine; decide),fun v10 H10 g10 hv10 => ?_⟩
 refine ⟨[prD ("id",kd)],.cons hv10 .nil,(by show 1 ≤ sizeLine; decide),fun v11 H11 g11 hv11 => ?_⟩
 have lf : fs.length ≤ 2 := by have := sub.length_le; rw [List.length_map] at this; exact this
 refine ⟨_,_,(hv9.same g10).same g11,hv11,(by rw [List.length_map]; exact Nat.le_of_lt (small1000 (by simp only [List.length_cons,List.length_nil]; lia))),fun v12 H12 g12 hv12 => ?_⟩
 refine ⟨[.str "record",_],.cons .str (.cons hv12 .nil),(by show 2 ≤ sizeLine; decide),fun v13 H13 g13 hv13 => ?_⟩
 refine ⟨_,rfl,[.str "rows",.str "id",_,.int i],.cons .str (.cons .str (.cons hv13 (.cons .int .nil))),(by show 4 ≤ sizeLine; decide),fun v14 H14 g14 hv14 => ?_⟩
 refine q v14 _ _ H14 (((((B5.trans b8).trans (But.same g10)).trans (But.same g11)).trans (But.same g12)).trans ((But.same g13).trans (But.same g14))) (g14 _ _ (g13 _ _ (g12 _ _ (g11 _ _ (g10 _ _ r8))))) hv14 ?_
 have e : fs.map prD ++ [prD ("id",kd)] = (fs ++ [(("id" : Str),kd)]).map prD := by rw [List.map_append]; rfl
 rw [e]
 refine .rows ?_ (look_last fun f hf c => ?_) kk bi.1 bi.2
 rotate_left
 ·have := sub.subset (List.mem_map.mpr ⟨f,hf,rfl⟩)
  rw [c] at this
  exact absurd this (by decide +kernel)
 refine gk_rcd (zs := ["a","b","id"]) ?_ nm_abid (by decide +kernel) (by decide) fun f hf => ?_
 ·rw [List.map_append]
  exact sub.append (List.Sublist.refl [("id" : Str)])
 ·rcases List.mem_append.mp hf with h1 | h1
  ·exact gk f h1
  ·obtain rfl := List.mem_singleton.mp h1
   exact gkd m
theorem ok_law_kind (T : Tx K mg) {f fr fw : Addr} {fd fdr fdw : FuncData} (n : Nat) (D_law_kind : Gn K mg "_law_kind" s_law_kind ["row","deep"] f fd) (D_law_record : Gn K mg "_law_record" s_law_record ["row","deep","names"] fr fdr) (D_law_rows : Gn K mg "_law_rows" s_law_rows ["row","deep"] fw fdw)
  (G_law_kind : FnOk P w K mg base CX0 (3 * n + 3) f fd ["row","deep"] (skind K n)) (G_law_record : FnOk P w K mg base CX0 (3 * n + 4) fr fdr ["row","deep","names"] (srecord K n)) (G_law_rows : FnOk P w K mg base CX0 (3 * n + 4) fw fdw ["row","deep"] (srows K n)) :
  FnOk P w K mg base CX0 (3 * n + 5 + 1) f fd ["row","deep"] (skind K (n + 1)) := by
 obtain ⟨f_law_digit,fd_law_digit,D_law_digit⟩ := T.law_digit
 have G_law_digit := ok_law_digit (P := P) (w := w) (base := base) T D_law_digit
 obtain ⟨f_law_leaf,fd_law_leaf,D_law_leaf⟩ := T.law_leaf
 have G_law_leaf := ok_law_leaf (P := P) (w := w) (base := base) T D_law_leaf
 refine D_law_kind.F.ok sc_law_kind (fun vs H Q E h => ?_) (fun cdv A outer s H vs Q E hr h => ?_)
 ·obtain ⟨r,c,m,_,rfl,_⟩ := h
  rfl
 obtain ⟨r,c,m,e0,rfl,hr0,q⟩ := h
 obtain rfl : n = m := Nat.succ.inj e0
 refine ⟨_,(@pss_cons _ _ _ _ _ (@ps_set _ _ 2 _ _ _ _ sc_law_kind.nd rfl (Or.inl rfl) (pe_call G_law_digit (hr.mono (by first | decide | lia)) rfl D_law_digit.m D_law_digit.F.kp D_law_digit.b .nil pass0 (@pa_cons _ _ _ _ _ (pv 0) (@pa_cons _ _ _ _ _ pe_int pa_nil (by rfl)) (by rfl))) (by rfl) (by first | exact .inl rfl | exact .inr rfl | assumption)) (@pss_cons _ _ _ _ _ (@ps_if _ _ _ _ _ _ _ _ (PW.pt (@pw_or _ _ _ _ _ _ _ (pt_cmpR op_le (pv 1) pe_int (nomark _)) (@pw_or1 _ _ _ _ (pt_cmpR op_lt (pv 2) pe_int (nomark _))))) (@pss_one _ _ _ (@ps_ret _ _ _ _ (pe_call G_law_leaf (hr.mono (by first | decide | lia)) rfl D_law_leaf.m D_law_leaf.F.kp D_law_leaf.b .nil pass0 (@pa_cons _ _ _ _ _ (pv 0) pa_nil (by rfl))))) pss_nil) (@pss_cons _ _ _ _ _ (@ps_if _ _ _ _ _ _ _ _ (pt_cmpR op_eq (pv 2) pe_int (nomark _)) (@pss_one _ _ _ (@ps_ret _ _ _ _ (@pe_tupP _ _ _ _ _ (@pa_cons _ _ _ _ _ pe_str (@pa_cons _ _ _ _ _ (pe_call G_law_kind (hr.mono (by first | decide | lia)) rfl D_law_kind.m D_law_kind.F.kp D_law_kind.b .nil pass0 (@pa_cons _ _ _ _ _ (pv 0) (@pa_cons _ _ _ _ _ (@pe_op _ _ _ _ _ _ _ _ op_sub (pv 1) pe_int) pa_nil (by rfl)) (by rfl))) (@pa_cons _ _ _ _ _ (@pe_ix _ _ _ _ _ _ _ ix_list (@pe_lst _ _ _ _ (@pa_cons _ _ _ _ _ pe_int (@pa_cons _ _ _ _ _ pe_int (@pa_cons _ _ _ _ _ pe_int (@pa_cons _ _ _ _ _ pe_int pa_nil (by rfl)) (by rfl)) (by rfl)) (by rfl))) (pe_call G_law_digit (hr.mono (by first | decide | lia)) rfl D_law_digit.m D_law_digit.F.kp D_law_digit.b .nil pass0 (@pa_cons _ _ _ _ _ (pv 0) (@pa_cons _ _ _ _ _ pe_int pa_nil (by rfl)) (by rfl))) (fun _ _ => rfl)) pa_nil (by rfl)) (by rfl)) (by rfl))))) pss_nil) (@pss_cons _ _ _ _ _ (@ps_if _ _ _ _ _ _ _ _ (PW.pt (@pw_and _ _ _ _ _ _ _ (pt_cmpR op_eq (pv 2) pe_int (nomark _)) (@pw_and1 _ _ _ _ (pt_cmpR op_gt (pv 1) pe_int (nomark _))))) (@pss_one _ _ _ (@ps_ret _ _ _ _ (pe_call G_law_rows (hr.mono (by first | decide | lia)) rfl D_law_rows.m D_law_rows.F.kp D_law_rows.b .nil pass0 (@pa_cons _ _ _ _ _ (pv 0) (@pa_cons _ _ _ _ _ (pv 1) pa_nil (by rfl)) (by rfl))))) pss_nil) (@pss_one _ _ _ (@ps_ret _ _ _ _ (pe_call G_law_record (hr.mono (by first | decide | lia)) rfl D_law_record.m D_law_record.F.kp D_law_record.b .nil pass0 (@pa_cons _ _ _ _ _ (pv 0) (@pa_cons _ _ _ _ _ (pv 1) (@pa_cons _ _ _ _ _ (@pe_lst _ _ _ _ (@pa_cons _ _ _ _ _ pe_str (@pa_cons _ _ _ _ _ pe_str pa_nil (by rfl)) (by rfl))) pa_nil (by rfl)) (by rfl)) (by rfl))))))))),?_⟩
 refine ⟨_,rfl,r,c,8,rfl,hr0,by decide,by decide,?_⟩
 have leafy : ∀ v d n' H',But r (upd H r (.lst [.int (c / 8)])) H' → H' r = some (.lst [.int n']) → IsP K H' d v → (∀ m,GK m d) → Q v H' := fun v d n' H' b e hv g => q v d n' H' (But.put.trans b) e hv (g n)
 refine ⟨_,rfl,_,_,rfl,rfl,_,rfl,?_⟩
 refine ite2 (fun c1 => ⟨_,rfl,r,_,rfl,upd_same,leafy⟩) (fun c1 => ?_)
 have hn : 0 < n := by
  have : ¬ ((n : Int) ≤ 0) := fun z => c1 (decide_eq_true z)
  lia
 obtain ⟨m,rfl⟩ : ∃ m,n = m + 1 := ⟨n - 1,by lia⟩
 refine ⟨_,rfl,_,_,rfl,rfl,_,rfl,?_⟩
 refine ite2 (fun c2 => ⟨_,rfl,r,_,rfl,upd_same,leafy⟩) (fun c2 => ?_)
 refine ⟨_,rfl,rfl,_,rfl,?_⟩
 refine ite2 (fun c3 => ?_) (fun c3 => ?_)
 ·have e1 : (((m + 1 : Nat) : Int)) - 1 = (m : Int) := by lia
  refine ⟨_,rfl,_,rfl,_,_,rfl,rfl,r,_,m,rfl,(by show [V.ref r,V.int (((m + 1 : Nat) : Int) - 1)] = _; rw [e1]),upd_same,fun v2 d2 c2 H2 b2 r2 hv2 gk2 => ?_⟩
  refine ⟨(by show 4 ≤ sizeLine; decide),fun p hp => ?_⟩
  have nrp : r ≠ p := ne_of_none r2 hp
  have g3 := same_new hp (.lst [.int 0,.int 1,.int 2,.int 8])
  obtain ⟨g0,g1⟩ := mod_lt c2 (m := 4) (by decide)
  obtain ⟨i,mi,ei⟩ := pickI (ns := [0,1,2,8]) g0 g1
  have bi : 0 ≤ i ∧ i ≤ 8 := (by decide : ∀ i ∈ ([0,1,2,8] : List Int),0 ≤ i ∧ i ≤ 8) i mi
  refine ⟨_,rfl,r,c2,4,rfl,g3 _ _ r2,by decide,by decide,p,_,_,_,rfl,rfl,SqL.of (by rw [upd_ne nrp.symm]; exact upd_same),ei,?_⟩
  have hv4 := (hv2.same g3).but (g3 _ _ r2) (But.put (o := .lst [.int (c2 / 4)]))
  refine ⟨[.str "list",d2,.int i],.cons .str (.cons hv4 (.cons .int .nil)),(by show 3 ≤ sizeLine; decide),fun v5 H5 g5 hv5 => ?_⟩
  exact q v5 _ _ H5 (((((But.put.trans b2).trans (But.same g3)).trans But.put)).trans (But.same g5)) (g5 _ _ upd_same) hv5 (.list gk2 bi.1 bi.2)
 refine ⟨_,rfl,rfl,_,rfl,?_⟩
 have recd : (tRet (tCall (srecord K (m + 1)) [] E0 (tCons (tVar 0) (tCons (tVar 1) (tCons (tLst (tCons (tC (V.str "a")) (tCons (tC (V.str "b")) tNil))) tNil))))) { nx := fun _ H' => Q .non H',rt := Q } [some (.ref r),some (.int (m + 1 : Nat)),some (.int (c % 8))] (upd H r (.lst [.int (c / 8)])) := by
  refine ⟨_,rfl,_,rfl,(by show 2 ≤ sizeLine; decide),fun p hp => ?_⟩
  have nrp : r ≠ p := ne_of_none upd_same hp
  have g3 := same_new hp (.lst [.str "a",.str "b"])
  exact ⟨r,p,_,["a","b"],m,rfl,rfl,g3 _ _ upd_same,upd_same,by decide,fun v2 fs c2 H2 b2 r2 hv2 sub gk => q v2 _ _ H2 ((But.put.trans (But.same g3)).trans b2) r2 hv2 (gk_rcd sub (by decide +kernel) nm_ab (by decide) gk)⟩
 refine ite2 (fun c4 => ?_) (fun c4 => recd)
 refine ⟨_,rfl,_,_,rfl,rfl,_,rfl,?_⟩
 refine ite2 (fun c5 => ?_) (fun c5 => recd)
 have hm : 0 < m := by
  have : (1 : Int) < ((m + 1 : Nat) : Int) := of_decide_eq_true c5
  lia
 obtain ⟨j,rfl⟩ : ∃ j,m = j + 1 := ⟨m - 1,by lia⟩
 exact ⟨_,rfl,_,rfl,r,_,j,rfl,rfl,upd_same,fun v2 d2 c2 H2 b2 r2 hv2 gk2 => q v2 d2 c2 H2 (But.put.trans b2) r2 hv2 gk2⟩
theorem rec3 (T : Tx K mg) {fr fk fw : Addr} {fdr fdk fdw : FuncData} (R : Gn K mg "_law_record" s_law_record ["row","deep","names"] fr fdr) (D : Gn K mg "_law_kind" s_law_kind ["row","deep"] fk fdk) (W : Gn K mg "_law_rows" s_law_rows ["row","deep"] fw fdw) :
  FnOk P w K mg base CX0 13 fr fdr ["row","deep","names"] (srecord K 3) := by
 have k0 : FnOk P w K mg base CX0 (3 * 0 + 3) fk fdk ["row","deep"] (skind K 0) := fn_none fun vs H Q E z => by obtain ⟨_,_,m,e,_⟩ := z; cases e
 have r0 : FnOk P w K mg base CX0 (3 * 0 + 3 + 1) fr fdr ["row","deep","names"] (srecord K 0) := fn_none fun vs H Q E z => by obtain ⟨_,_,_,_,m,e,_⟩ := z; cases e
 have w0 := ok_law_rows (P := P) (w := w) (base := base) T 0 0 (by decide) W R (fn_none fun vs H Q E z => by obtain ⟨_,_,_,_,m,e,_⟩ := z; cases e)
 have k1 := ok_law_kind T 0 D R W k0 r0 w0
 have r1 := ok_law_record T 1 R D k1
 have w1 := ok_law_rows T 1 (3 * 0 + 3 + 1) (by decide) W R r0
 have k2 := ok_law_kind T 1 D R W k1 r1 w1
 have r2 := ok_law_record T 2 R D k2
 have w2 := ok_law_rows T 2 (3 * 1 + 3 + 1) (by decide) W R r1
 have k3 := ok_law_kind T 2 D R W k2 r2 w2
 exact ok_law_record T 3 R D k3
noncomputable def sp_law_shape (K : PySem.W.Frag) : Sp := fun vs H Q _ => ∃ (r : Addr) (c : Int),vs = [.ref r] ∧ H r = some (.lst [.int c]) ∧ Gen K r H 3 Q
theorem nm7 : ∀ z ∈ (["a","b","box","n","t","u","w"] : List Str),nameP z := by decide +kernel
theorem nm5 : ∀ z ∈ (["a","b","box","n","t"] : List Str),nameP z := by decide +kernel
theorem ok_law_shape (T : Tx K mg) {f : Addr} {fd : FuncData} (F : Gn K mg "_law_shape" s_law_shape ["row"] f fd) : FnOk P w K mg base CX0 14 f fd ["row"] (sp_law_shape K) := by
 obtain ⟨f_law_leaf,fd_law_leaf,D_law_leaf⟩ := T.law_leaf
 have G_law_leaf := ok_law_leaf (P := P) (w := w) (base := base) T D_law_leaf
 obtain ⟨f_law_record,fd_law_record,D_law_record⟩ := T.law_record
 obtain ⟨fk,fdk,Dk⟩ := T.law_kind
 obtain ⟨fw,fdw,Dw⟩ := T.law_rows
 have G_law_record := rec3 (P := P) (w := w) (base := base) T D_law_record Dk Dw
 refine F.F.ok sc_law_shape (fun vs H Q E h => ?_) (fun cdv A outer s H vs Q E hr h => ?_)
 ·obtain ⟨r,c,rfl,_⟩ := h
  rfl
 obtain ⟨r,c,rfl,hr0,q⟩ := h
 refine ⟨_,(@pss_cons _ _ _ _ _ (@ps_set _ _ 1 _ _ _ _ sc_law_shape.nd rfl (Or.inl rfl) (pe_call G_law_record (hr.mono (by first | decide | lia)) rfl D_law_record.m D_law_record.F.kp D_law_record.b .nil pass0 (@pa_cons _ _ _ _ _ (pv 0) (@pa_cons _ _ _ _ _ pe_int (@pa_cons _ _ _ _ _ (@pe_lst _ _ _ _ (@pa_cons _ _ _ _ _ pe_str (@pa_cons _ _ _ _ _ pe_str (@pa_cons _ _ _ _ _ pe_str (@pa_cons _ _ _ _ _ pe_str (@pa_cons _ _ _ _ _ pe_str pa_nil (by rfl)) (by rfl)) (by rfl)) (by rfl)) (by rfl))) pa_nil (by rfl)) (by rfl)) (by rfl))) (by rfl) (by first | exact .inl rfl | exact .inr rfl | assumption)) (@pss_cons _ _ _ _ _ (@ps_if _ _ _ _ _ _ _ _ (pt_cmpR op_eq (@pe_op _ _ _ _ _ _ _ _ op_mod (@pe_ix _ _ _ _ _ _ _ ix_list (pv 0) pe_int (fun _ _ => rfl)) pe_int) pe_int (nomark _)) (@pss_one _ _ _ (@ps_set _ _ 1 _ _ _ _ sc_law_shape.nd rfl (Or.inl rfl) (@pe_tupP _ _ _ _ _ (@pa_cons _ _ _ _ _ pe_str (@pa_cons _ _ _ _ _ (@pe_op _ _ _ _ _ _ _ _ op_catP (@pe_ix _ _ _ _ _ _ _ ix_tupP (pv 1) pe_int (fun _ _ => rfl)) (@pe_tupP _ _ _ _ _ (@pa_cons _ _ _ _ _ (@pe_tupP _ _ _ _ _ (@pa_cons _ _ _ _ _ pe_str (@pa_cons _ _ _ _ _ (pe_call G_law_leaf (hr.mono (by first | decide | lia)) rfl D_law_leaf.m D_law_leaf.F.kp D_law_leaf.b .nil pass0 (@pa_cons _ _ _ _ _ (pv 0) pa_nil (by rfl))) pa_nil (by rfl)) (by rfl))) (@pa_cons _ _ _ _ _ (@pe_tupP _ _ _ _ _ (@pa_cons _ _ _ _ _ pe_str (@pa_cons _ _ _ _ _ (pe_call G_law_leaf (hr.mono (by first | decide | lia)) rfl D_law_leaf.m D_law_leaf.F.kp D_law_leaf.b .nil pass0 (@pa_cons _ _ _ _ _ (pv 0) pa_nil (by rfl))) pa_nil (by rfl)) (by rfl))) pa_nil (by rfl)) (by rfl)))) pa_nil (by rfl)) (by rfl))) (by rfl) (by first | exact .inl rfl | exact .inr rfl | assumption))) pss_nil) (@pss_one _ _ _ (@ps_ret _ _ _ _ (pv 1))))),?_⟩
 refine ⟨_,rfl,(by show 5 ≤ sizeLine; decide),fun p hp => ?_⟩
 have nrp : r ≠ p := ne_of_none hr0 hp
 have g1 := same_new hp (.lst [.str "a",.str "b",.str "box",.str "n",.str "t"])
 refine ⟨r,p,c,["a","b","box","n","t"],2,rfl,rfl,g1 _ _ hr0,upd_same,by decide,fun v2 fs c2 H2 b2 r2 hv2 sub gk => ?_⟩
 have B2 : But r H H2 := (But.same g1).trans b2
 have ei : atI [V.int c2] 0 = some (.int c2) := rfl
 refine ⟨_,rfl,r,_,_,_,rfl,rfl,SqL.of r2,ei,_,_,rfl,rfl,(by show (0 : Int) < 8; decide),rfl,_,rfl,?_⟩
 refine ite2 (fun c1 => ?_) (fun c1 => ?_)
 ·refine ⟨_,rfl,_,_,_,hv2,rfl,rfl,fun v3 hv3 => ?_⟩
  refine ⟨_,rfl,r,c2,rfl,r2,fun v4 d4 c4 H4 b4 r4 hv4 g4 => ?_⟩
  refine ⟨[.str "u",d4],.cons .str (.cons hv4 .nil),(by show 2 ≤ sizeLine; decide),fun v5 H5 g5 hv5 => ?_⟩
  refine ⟨_,rfl,r,c4,rfl,g5 _ _ r4,fun v6 d6 c6 H6 b6 r6 hv6 g6 => ?_⟩
  refine ⟨[.str "w",d6],.cons .str (.cons hv6 .nil),(by show 2 ≤ sizeLine; decide),fun v7 H7 g7 hv7 => ?_⟩
  have hv5' := (hv5.but (g5 _ _ r4) b6).same g7
  refine ⟨[prD ("u",d4),prD ("w",d6)],.cons hv5' (.cons hv7 .nil),(by show 2 ≤ sizeLine; decide),fun v8 H8 g8 hv8 => ?_⟩
  have hv3' := ((((hv3.but r2 b4).same g5).but (g5 _ _ r4) b6).same g7).same g8
  have lf : fs.length ≤ 5 := by have := sub.length_le; rw [List.length_map] at this; exact this
  refine ⟨_,_,hv3',hv8,(by rw [List.length_map]; exact Nat.le_of_lt (small1000 (by simp only [List.length_cons,List.length_nil]; lia))),fun v9 H9 g9 hv9 => ?_⟩
  refine ⟨[.str "record",_],.cons .str (.cons hv9 .nil),(by show 2 ≤ sizeLine; decide),fun v10 H10 g10 hv10 => ?_⟩
  refine ⟨_,rfl,q v10 _ c6 H10 ((((((B2.trans b4).trans (But.same g5)).trans b6).trans (But.same g7)).trans (But.same g8)).trans ((But.same g9).trans (But.same g10))) (g10 _ _ (g9 _ _ (g8 _ _ (g7 _ _ r6)))) hv10 ?_⟩
  have e : fs.map prD ++ [prD ("u",d4),prD ("w",d6)] = (fs ++ [(("u" : Str),d4),(("w" : Str),d6)]).map prD := by rw [List.map_append]; rfl
  rw [e]
  refine gk_rcd (zs := ["a","b","box","n","t","u","w"]) ?_ (by decide +kernel) nm7 (by decide) fun f hf => ?_
  ·rw [List.map_append]
   exact sub.append (List.Sublist.refl [("u" : Str),"w"])
  ·rcases List.mem_append.mp hf with h1 | h1
   ·exact gk f h1
   ·rcases List.mem_cons.mp h1 with rfl | h1
    ·exact g4 2
    ·obtain rfl := List.mem_singleton.mp h1
     exact g6 2
 ·exact ⟨_,rfl,q v2 _ c2 H2 B2 r2 hv2 (gk_rcd sub (by decide +kernel) nm5 (by decide) gk)⟩
noncomputable def dn (w : Str) (q : List Str × Dt) : List Str × Dt := (w :: q.1,q.2)
noncomputable def wl : Nat → Dt → List (List Str × Dt)
 | 0,_ => []
 | n + 1,d => ([],d) :: match d with
  | .tup [.str w,.tup l] => if w = "record" then l.flatMap fun f => match f with
    | .tup [.str z,k] => (wl n k).map (dn z)
    | _ => []
   else []
  | .tup [.str w,k,_] => if w = "list" then (wl n k).map (dn "each") else []
  | .tup [.str w,_,k,_] => if w = "rows" then (wl n k).map (dn "each") else []
  | _ => []
noncomputable def wRec (n : Nat) (fs : List (Str × Dt)) : List (List Str × Dt) := fs.flatMap fun f => (wl n f.2).map (dn f.1)
theorem wl_rcd (n : Nat) (fs : List (Str × Dt)) : wl (n + 1) (.tup [.str "record",.tup (fs.map prD)]) = ([],.tup [.str "record",.tup (fs.map prD)]) :: wRec n fs := by
 simp only [wl,if_true]
 congr 1
 rw [List.flatMap_map]
 rfl
theorem wl_list (n : Nat) (k : Dt) (i : Int) : wl (n + 1) (.tup [.str "list",k,.int i]) = ([],.tup [.str "list",k,.int i]) :: (wl n k).map (dn "each") := by
 simp [wl]
theorem wl_rows (n : Nat) (z : Str) (k : Dt) (i : Int) : wl (n + 1) (.tup [.str "rows",.str z,k,.int i]) = ([],.tup [.str "rows",.str z,k,.int i]) :: (wl n k).map (dn "each") := by
 simp [wl]
theorem wl_text (n : Nat) (i : Int) : wl (n + 1) (.tup [.str "text",.int i]) = [([],.tup [.str "text",.int i])] := by simp [wl]
theorem wl_choice (n : Nat) (l : List Dt) : wl (n + 1) (.tup [.str "choice",.tup l]) = [([],.tup [.str "choice",.tup l])] := by simp [wl]; exact fun c => absurd c (by decide)
theorem wl_number (n : Nat) (i j : Int) : wl (n + 1) (.tup [.str "number",.int i,.int j]) = [([],.tup [.str "number",.int i,.int j])] := by simp [wl]; exact fun c => absurd c (by decide)
noncomputable def wayD (p : List Str) (q : List Str × Dt) : Dt := .tup [sD (p ++ q.1),q.2]
theorem way_dn (p : List Str) (z : Str) (l : List (List Str × Dt)) : (l.map (dn z)).map (wayD p) = l.map (wayD (p ++ [z])) := by
 rw [List.map_map]
 refine List.map_congr_left fun q _ => ?_
 simp [wayD,dn]
noncomputable def sways (K : PySem.W.Frag) (n : Nat) : Sp := fun vs H Q _ => ∃ (m : Nat) (d : Dt) (p : List Str) (x y : V),n = m + 1 ∧ m ≤ 3 ∧ vs = [x,y] ∧ IsP K H d x ∧ GK m d ∧ IsP K H (sD p) y ∧ p.length + m ≤ 10 ∧
 ∀ (r : Addr) (ys : List V) (H' : Hp),Same H H' → H' r = some (.lst ys) → ys.length ≤ 9 ^ m → IsPs K H' ((wl n d).map (wayD p)) ys → Q (.ref r) H'
theorem step_list {k : Dt} {i : Int} : stepD (.tup [.str "list",k,.int i]) "each" = some k := by simp [stepD,itemD]
theorem step_rows {z : Str} {k : Dt} {i : Int} : stepD (.tup [.str "rows",.str z,k,.int i]) "each" = some k := by simp [stepD,itemD]
theorem sD_snoc (p : List Str) (w : Str) : Dt.tup (p.map Dt.str ++ [.str w]) = sD (p ++ [w]) := by rw [sD,List.map_append]; rfl
theorem ok_law_ways (T : Tx K mg) {f : Addr} {fd : FuncData} (n : Nat) (D_law_ways : Gn K mg "_law_ways" s_law_ways ["kind","path"] f fd) (G_law_ways : FnOk P w K mg base CX0 n f fd ["kind","path"] (sways K n)) : FnOk P w K mg base CX0 (n + 1) f fd ["kind","path"] (sways K (n + 1)) := by
 refine D_law_ways.F.ok sc_law_ways (fun vs H Q E h => ?_) (fun cdv A outer s H vs Q E hr h => ?_)
 ·obtain ⟨m,d,p,x,y,_,_,rfl,_⟩ := h
  rfl
 obtain ⟨m,d,p,x,y,e0,h3,rfl,hd,gk,hy,hl,q⟩ := h
 obtain rfl : n = m := Nat.succ.inj e0
 refine ⟨_,(@pss_cons _ _ _ _ _ (@ps_set _ _ 2 _ _ _ _ sc_law_ways.nd rfl (Or.inl rfl) (@pe_lst _ _ _ _ (@pa_cons _ _ _ _ _ (@pe_tupP _ _ _ _ _ (@pa_cons _ _ _ _ _ (pv 1) (@pa_cons _ _ _ _ _ (pv 0) pa_nil (by rfl)) (by rfl))) pa_nil (by rfl))) (by rfl) (by first | exact .inl rfl | exact .inr rfl | assumption)) (@pss_cons _ _ _ _ _ (@ps_if _ _ _ _ _ _ _ _ (pt_cmpR op_eq (@pe_ix _ _ _ _ _ _ _ ix_tupP (pv 0) pe_int (fun _ _ => rfl)) pe_str (nomark _)) (@pss_one _ _ _ (ps_for PassesOwn.never rfl (pi_tup (@pe_ix _ _ _ _ _ _ _ ix_tupP (pv 0) pe_int (fun _ _ => rfl))) (pg_tup rfl (pgs_cons (pg_name (i := 3) sc_law_ways.nd rfl (Or.inl rfl)) (pgs_cons (pg_name (i := 4) sc_law_ways.nd rfl (Or.inl rfl)) pgs_nil)))
    (@pss_one _ _ _ (@ps_set _ _ 2 _ _ _ _ sc_law_ways.nd rfl (Or.inl rfl) (@pe_op _ _ _ _ _ _ _ _ (op_catSN (K := K) rfl) (pv 2) (pe_call G_law_ways (hr.mono (by first | decide | lia)) rfl D_law_ways.m D_law_ways.F.kp D_law_ways.b .nil pass0 (@pa_cons _ _ _ _ _ (pv 4) (@pa_cons _ _ _ _ _ (@pe_op _ _ _ _ _ _ _ _ op_catP (pv 1) (@pe_tupP _ _ _ _ _ (@pa_cons _ _ _ _ _ (pv 3) pa_nil (by rfl)))) pa_nil (by rfl)) (by rfl)))) (by rfl) (by first | exact .inl rfl | exact .inr rfl | assumption))))) pss_nil) (@pss_cons _ _ _ _ _ (@ps_if _ _ _ _ _ _ _ _ (pt_cmpR op_eq (@pe_ix _ _ _ _ _ _ _ ix_tupP (pv 0) pe_int (fun _ _ => rfl)) pe_str (nomark _)) (@pss_one _ _ _ (@ps_set _ _ 2 _ _ _ _ sc_law_ways.nd rfl (Or.inl rfl) (@pe_op _ _ _ _ _ _ _ _ (op_catSN (K := K) rfl) (pv 2) (pe_call G_law_ways (hr.mono (by first | decide | lia)) rfl D_law_ways.m D_law_ways.F.kp D_law_ways.b .nil pass0 (@pa_cons _ _ _ _ _ (@pe_ix _ _ _ _ _ _ _ ix_tupP (pv 0) pe_int (fun _ _ => rfl)) (@pa_cons _ _ _ _ _ (@pe_op _ _ _ _ _ _ _ _ op_catP (pv 1) (@pe_tupP _ _ _ _ _ (@pa_cons _ _ _ _ _ pe_str pa_nil (by rfl)))) pa_nil (by rfl)) (by rfl)))) (by rfl) (by first | exact .inl rfl | exact .inr rfl | assumption))) pss_nil) (@pss_cons _ _ _ _ _ (@ps_if _ _ _ _ _ _ _ _ (pt_cmpR op_eq (@pe_ix _ _ _ _ _ _ _ ix_tupP (pv 0) pe_int (fun _ _ => rfl)) pe_str (nomark _)) (@pss_one _ _ _ (@ps_set _ _ 2 _ _ _ _ sc_law_ways.nd rfl (Or.inl rfl) (@pe_op _ _ _ _ _ _ _ _ (op_catSN (K := K) rfl) (pv 2) (pe_call G_law_ways (hr.mono (by first | decide | lia)) rfl D_law_ways.m D_law_ways.F.kp D_law_ways.b .nil pass0 (@pa_cons _ _ _ _ _ (@pe_ix _ _ _ _ _ _ _ ix_tupP (pv 0) pe_int (fun _ _ => rfl)) (@pa_cons _ _ _ _ _ (@pe_op _ _ _ _ _ _ _ _ op_catP (pv 1) (@pe_tupP _ _ _ _ _ (@pa_cons _ _ _ _ _ pe_str pa_nil (by rfl)))) pa_nil (by rfl)) (by rfl)))) (by rfl) (by first | exact .inl rfl | exact .inr rfl | assumption))) pss_nil) (@pss_one _ _ _ (@ps_ret _ _ _ _ (pv 2))))))),?_⟩
 refine ⟨_,rfl,_,rfl,[sD p,d],.cons hy (.cons hd .nil),(by show 2 ≤ sizeLine; decide),fun v1 H1 g1 hv1 => ⟨(by show 1 ≤ sizeLine; decide),fun l hln => ?_⟩⟩
 have g2 := same_new hln (.lst [v1])
 have S2 : Same H (upd H1 l (.lst [v1])) := g1.trans g2
 have w0 : IsPs K (upd H1 l (.lst [v1])) [wayD p ([],d)] [v1] := .cons (by
  show IsP _ _ (.tup [sD (p ++ []),d]) _
  rw [List.append_nil]
  exact hv1.same g2) .nil
 have hd2 := hd.same S2
 have hy2 := hy.same S2
 have p1 : 1 ≤ 9 ^ n := Nat.one_le_pow _ _ (by decide)
 have small9 : ∀ k,k ≤ 3 → 9 ^ k ≤ 729 := fun k hk => Nat.pow_le_pow_right (by decide) hk
 cases gk with
 | @rcd m' fs gf nd nm hf8 =>
  refine ⟨_,rfl,_,_,_,hd2,rfl,rfl,fun v hv => ?_⟩
  obtain rfl := isStrV hv
  refine ⟨rfl,_,rfl,iteY ⟨_,rfl,_,_,_,hd2,rfl,rfl,fun v hv => ?_⟩⟩
  obtain ⟨a,xs,rfl,ha,pa,ra⟩ := hv.unref
  have el := ra.length
  rw [List.length_map] at el
  have le9 := small9 m' (by lia)
  refine ⟨a,rfl,⟨xs,ha⟩,for_tup (xs := xs) (fun i σ H' => ∃ l' ys v3 v4,Same (upd H1 l (.lst [v1])) H' ∧ H' l' = some (.lst ys) ∧ ys.length ≤ 1 + i * 9 ^ m' ∧ IsPs K H' ((([],Dt.tup [.str "record",.tup (fs.map prD)]) :: wRec (m' + 1) (fs.take i)).map (wayD p)) ys ∧ σ = [some x,some y,some (.ref l'),v3,v4])
   ⟨l,[v1],none,none,Same.refl _,upd_same,by simp,w0,rfl⟩ (fun i σ H' _ r => by obtain ⟨_,_,_,_,g,_⟩ := r; exact g.tup ha) ?_ ?_⟩
  ·rintro i u σ H3 hu ⟨l',ys,v3,v4,g3,e3,hlen,way,rfl⟩
   have hi : i < fs.length := by
    rw [el]
    exact (List.getElem?_eq_some_iff.mp hu).1
   obtain ⟨e,he,hp⟩ := ra.get' hu
   rw [List.getElem?_map] at he
   obtain ⟨⟨w',e'⟩,hf,rfl⟩ := Option.map_eq_some_iff.mp he
   obtain ⟨b,zs,rfl,hb,pb,rb⟩ := hp.unref
   cases rb with
   | cons r1 rb =>
    cases rb with
    | @cons _ _ y2 _ r2 rb =>
     cases rb
     obtain rfl := isStrV r1
     refine ⟨b,_,rfl,g3.tup hb,rfl,_,_,rfl,_,_,rfl,rfl,?_⟩
     refine ⟨_,rfl,_,rfl,_,rfl,_,rfl,[.str w'],.cons .str .nil,(by show 1 ≤ sizeLine; decide),fun v5 H5 g5 hv5 => ?_⟩
     refine ⟨_,_,(hy2.same g3).same g5,hv5,(by rw [List.length_map]; exact Nat.le_of_lt (small1000 (by simp only [List.length_cons,List.length_nil]; lia))),fun v6 H6 g6 hv6 => ?_⟩
     rw [sD_snoc] at hv6
     refine ⟨m',e',p ++ [w'],y2,v6,rfl,by lia,rfl,((r2.same g3).same g5).same g6,gf _ (List.mem_of_getElem? hf),hv6,(by rw [List.length_append]; simp only [List.length_cons,List.length_nil]; lia),fun l7 ys7 H7 g7 e7 len7 way7 => ?_⟩
     have tot : ys.length + ys7.length ≤ 1 + (i + 1) * 9 ^ m' := by rw [Nat.succ_mul]; lia
     have cap : (i + 1) * 9 ^ m' ≤ 8 * 729 := Nat.mul_le_mul (by lia) le9
     refine ⟨l',l7,ys,ys7,rfl,rfl,SqL.of (g7 _ _ (g6 _ _ (g5 _ _ e3))),SqL.of e7,Nat.le_trans tot (Nat.le_trans (Nat.add_le_add_left cap 1) (by decide)),fun l8 h8 => ?_⟩
     have g8 := same_new h8 (.lst (ys ++ ys7))
     refine ⟨l8,ys ++ ys7,_,_,((g3.trans g5).trans (g6.trans g7)).trans g8,upd_same,by rw [List.length_append]; exact tot,?_,rfl⟩
     have e9 : ((([],Dt.tup [.str "record",.tup (fs.map prD)]) :: wRec (m' + 1) (fs.take (i + 1))).map (wayD p)) = ((([],Dt.tup [.str "record",.tup (fs.map prD)]) :: wRec (m' + 1) (fs.take i)).map (wayD p)) ++ (wl (m' + 1) e').map (wayD (p ++ [w'])) := by
      rw [List.take_add_one,hf,wRec,List.flatMap_append,List.map_cons,List.map_append,List.map_cons,List.cons_append,← way_dn]
      simp [wRec]
     rw [e9]
     exact (((way.same g5).same g6).same g7).same g8 |>.append (way7.same g8)
  ·rintro σ H3 ⟨l',ys,v3,v4,g3,e3,hlen,way,rfl⟩
   have hd3 := hd2.same g3
   refine ⟨_,rfl,_,_,_,hd3,rfl,rfl,fun v hv => ?_⟩
   obtain rfl := isStrV hv
   refine ⟨rfl,_,rfl,iteN (strNe (by decide)) ⟨_,rfl,_,_,_,hd3,rfl,rfl,fun v hv => ?_⟩⟩
   obtain rfl := isStrV hv
   rw [← el,List.take_length] at way
   refine ⟨rfl,_,rfl,iteN (strNe (by decide)) ⟨_,rfl,q l' ys H3 (S2.trans g3) e3 ?_ (by rw [wl_rcd]; exact way)⟩⟩
   have : xs.length * 9 ^ m' ≤ 8 * 9 ^ m' := Nat.mul_le_mul_right _ (by lia)
   rw [Nat.pow_succ]
   have o1 : 1 ≤ 9 ^ m' := Nat.one_le_pow _ _ (by decide)
   lia
 | @list m' k i g _ _ =>
  refine ⟨_,rfl,_,_,_,hd2,rfl,rfl,fun v hv => ?_⟩
  obtain rfl := isStrV hv
  refine ⟨rfl,_,rfl,iteN (strNe (by decide)) ⟨_,rfl,_,_,_,hd2,rfl,rfl,fun v hv => ?_⟩⟩
  obtain rfl := isStrV hv
  refine ⟨rfl,_,rfl,iteY ⟨_,rfl,_,rfl,_,_,_,hd2,rfl,rfl,fun v5 hv5 => ?_⟩⟩
  refine ⟨_,rfl,[.str "each"],.cons .str .nil,(by show 1 ≤ sizeLine; decide),fun v6 H6 g6 hv6 => ?_⟩
  refine ⟨_,_,hy2.same g6,hv6,(by rw [List.length_map]; exact Nat.le_of_lt (small1000 (by simp only [List.length_cons,List.length_nil]; lia))),fun v7 H7 g7 hv7 => ?_⟩
  rw [sD_snoc] at hv7
  refine ⟨m',k,p ++ [("each" : Str)],v5,v7,rfl,by lia,rfl,(hv5.same g6).same g7,g,hv7,(by rw [List.length_append]; simp only [List.length_cons,List.length_nil]; lia),fun l8 ys8 H8 g8 e8 len8 way8 => ?_⟩
  have le9 := small9 m' (by lia)
  refine ⟨l,l8,[v1],ys8,rfl,rfl,SqL.of (g8 _ _ (g7 _ _ (g6 _ _ upd_same))),SqL.of e8,Nat.le_of_lt (small1000 (by simp only [List.length_cons,List.length_nil]; lia)),fun l9 h9 => ?_⟩
  have g9 := same_new h9 (.lst ([v1] ++ ys8))
  have S9 := ((g6.trans g7).trans g8).trans g9
  have hd9 := hd2.same S9
  refine ⟨_,rfl,_,_,_,hd9,rfl,rfl,fun v hv => ?_⟩
  obtain rfl := isStrV hv
  refine ⟨rfl,_,rfl,iteN (strNe (by decide)) ⟨_,rfl,q l9 _ _ (S2.trans S9) upd_same ?_ ?_⟩⟩
  ·rw [List.length_append,Nat.pow_succ]
   have o1 : 1 ≤ 9 ^ m' := Nat.one_le_pow _ _ (by decide)
   simp only [List.length_cons,List.length_nil]
   lia
  ·rw [wl_list,List.map_cons,way_dn]
   exact (w0.same S9).append (way8.same g9)
 | @rows m' z' fs kk i g _ _ _ _ =>
  refine ⟨_,rfl,_,_,_,hd2,rfl,rfl,fun v hv => ?_⟩
  obtain rfl := isStrV hv
  refine ⟨rfl,_,rfl,iteN (strNe (by decide)) ⟨_,rfl,_,_,_,hd2,rfl,rfl,fun v hv => ?_⟩⟩
  obtain rfl := isStrV hv
  refine ⟨rfl,_,rfl,iteN (strNe (by decide)) ⟨_,rfl,_,_,_,hd2,rfl,rfl,fun v hv => ?_⟩⟩
  obtain rfl := isStrV hv
  refine ⟨rfl,_,rfl,iteY ⟨_,rfl,_,rfl,_,_,_,hd2,rfl,rfl,fun v5 hv5 => ?_⟩⟩
  refine ⟨_,rfl,[.str "each"],.cons .str .nil,(by show 1 ≤ sizeLine; decide),fun v6 H6 g6 hv6 => ?_⟩
  refine ⟨_,_,hy2.same g6,hv6,(by rw [List.length_map]; exact Nat.le_of_lt (small1000 (by simp only [List.length_cons,List.length_nil]; lia))),fun v7 H7 g7 hv7 => ?_⟩
  rw [sD_snoc] at hv7
  refine ⟨m',.tup [.str "record",.tup (fs.map prD)],p ++ [("each" : Str)],v5,v7,rfl,by lia,rfl,(hv5.same g6).same g7,g,hv7,(by rw [List.length_append]; simp only [List.length_cons,List.length_nil]; lia),fun l8 ys8 H8 g8 e8 len8 way8 => ?_⟩
  have le9 := small9 m' (by lia)
  refine ⟨l,l8,[v1],ys8,rfl,rfl,SqL.of (g8 _ _ (g7 _ _ (g6 _ _ upd_same))),SqL.of e8,Nat.le_of_lt (small1000 (by simp only [List.length_cons,List.length_nil]; lia)),fun l9 h9 => ?_⟩
  have g9 := same_new h9 (.lst ([v1] ++ ys8))
  have S9 := ((g6.trans g7).trans g8).trans g9
  refine ⟨_,rfl,q l9 _ _ (S2.trans S9) upd_same ?_ ?_⟩
  ·rw [List.length_append,Nat.pow_succ]
   have o1 : 1 ≤ 9 ^ m' := Nat.one_le_pow _ _ (by decide)
   simp only [List.length_cons,List.length_nil]
   lia
  ·rw [wl_rows,List.map_cons,way_dn]
   exact (w0.same S9).append (way8.same g9)
 | text =>
  refine ⟨_,rfl,_,_,_,hd2,rfl,rfl,fun v hv => ?_⟩
  obtain rfl := isStrV hv
  refine ⟨rfl,_,rfl,iteN (strNe (by decide)) ⟨_,rfl,_,_,_,hd2,rfl,rfl,fun v hv => ?_⟩⟩
  obtain rfl := isStrV hv
  refine ⟨rfl,_,rfl,iteN (strNe (by decide)) ⟨_,rfl,_,_,_,hd2,rfl,rfl,fun v hv => ?_⟩⟩
  obtain rfl := isStrV hv
  exact ⟨rfl,_,rfl,iteN (strNe (by decide)) ⟨_,rfl,q l _ _ S2 upd_same p1 (by rw [wl_text]; exact w0)⟩⟩
 | choice =>
  refine ⟨_,rfl,_,_,_,hd2,rfl,rfl,fun v hv => ?_⟩
  obtain rfl := isStrV hv
  refine ⟨rfl,_,rfl,iteN (strNe (by decide)) ⟨_,rfl,_,_,_,hd2,rfl,rfl,fun v hv => ?_⟩⟩
  obtain rfl := isStrV hv
  refine ⟨rfl,_,rfl,iteN (strNe (by decide)) ⟨_,rfl,_,_,_,hd2,rfl,rfl,fun v hv => ?_⟩⟩
  obtain rfl := isStrV hv
  exact ⟨rfl,_,rfl,iteN (strNe (by decide)) ⟨_,rfl,q l _ _ S2 upd_same p1 (by rw [wl_choice]; exact w0)⟩⟩
 | number =>
  refine ⟨_,rfl,_,_,_,hd2,rfl,rfl,fun v hv => ?_⟩
  obtain rfl := isStrV hv
  refine ⟨rfl,_,rfl,iteN (strNe (by decide)) ⟨_,rfl,_,_,_,hd2,rfl,rfl,fun v hv => ?_⟩⟩
  obtain rfl := isStrV hv
  refine ⟨rfl,_,rfl,iteN (strNe (by decide)) ⟨_,rfl,_,_,_,hd2,rfl,rfl,fun v hv => ?_⟩⟩
  obtain rfl := isStrV hv
  exact ⟨rfl,_,rfl,iteN (strNe (by decide)) ⟨_,rfl,q l _ _ S2 upd_same p1 (by rw [wl_number]; exact w0)⟩⟩
noncomputable def keyD (v : Dt) (z : Str) : Dt := match v with
 | .tup [_,.tup l] => (lookD l z).getD .non
 | _ => .non
inductive GV : Dt → Dt → Prop
 | number {i j x : Int} : i ≤ x → x ≤ j → GV (.tup [.str "number",.int i,.int j]) (.int x)
 | text {i : Int} {z : Str} : z.length ≤ 60 → GV (.tup [.str "text",.int i]) (.str z)
 | choice {ws : List Str} {z : Str} : z ∈ ws → GV (.tup [.str "choice",.tup (ws.map Dt.str)]) (.str z)
 | list {k : Dt} {i : Int} {vs : List Dt} : (∀ v ∈ vs,GV k v) → vs.length ≤ 8 → GV (.tup [.str "list",k,.int i]) (.tup [.str "list",.tup vs])
 | rows {k : Dt} {z : Str} {i : Int} {vs : List Dt} : (∀ v ∈ vs,GV k v) → vs.length ≤ 8 → (vs.map fun v => keyD v z).Nodup → GV (.tup [.str "rows",.str z,k,.int i]) (.tup [.str "rows",.tup vs])
 | rcd {fs gs : List (Str × Dt)} : gs.map (·.1) = fs.map (·.1) → (∀ (i : Nat) (f g : Str × Dt),fs[i]? = some f → gs[i]? = some g → GV f.2 g.2) → GV (.tup [.str "record",.tup (fs.map prD)]) (.tup [.str "record",.tup (gs.map prD)])
noncomputable def sp_field_of (K : PySem.W.Frag) : Sp := fun vs H Q _ => ∃ (gs : List (Str × Dt)) (z : Str) (x : V),vs = [x,.str z] ∧ IsP K H (.tup [.str "record",.tup (gs.map prD)]) x ∧ RetO K H (lookS gs z) Q
noncomputable def sp_inner_kind (K : PySem.W.Frag) : Sp := fun vs H Q _ => ∃ (n : Nat) (d : Dt) (x y : V),vs = [x,y] ∧ IsP K H d x ∧ GK n d ∧ ((∃ fs z,d = .tup [.str "record",.tup fs] ∧ y = .str z ∧ RetO K H (fieldD d z) Q) ∨ ((∀ fs,d ≠ .tup [.str "record",.tup fs]) ∧ RetO K H (itemD d) Q))
noncomputable def sp_law_number (_ : PySem.W.Frag) : Sp := fun vs H Q _ => ∃ (r : Addr) (c i j : Int),vs = [.ref r,.int i,.int j] ∧ H r = some (.lst [.int c]) ∧ -1000000000000000000000000000000 ≤ i ∧ i ≤ j ∧ j ≤ 1000000000000000000000000000000 ∧ ∀ x c' H',But r H H' → H' r = some (.lst [.int c']) → i ≤ x → x ≤ j → Q (.int x) H'
noncomputable def sp_law_text (_ : PySem.W.Frag) : Sp := fun vs H Q _ => ∃ (r : Addr) (c i : Int),vs = [.ref r,.int i] ∧ H r = some (.lst [.int c]) ∧ 0 ≤ i ∧ i ≤ 60 ∧ ∀ z c' H',But r H H' → H' r = some (.lst [.int c']) → z.length ≤ 60 → Q (.str z) H'
theorem ok_law_number (T : Tx K mg) {f : Addr} {fd : FuncData} (F : Gn K mg "_law_number" s_law_number ["row","low","high"] f fd) : FnOk P w K mg base CX0 2 f fd ["row","low","high"] (sp_law_number K) := by
 obtain ⟨f_law_digit,fd_law_digit,D_law_digit⟩ := T.law_digit
 have G_law_digit := ok_law_digit (P := P) (w := w) (base := base) T D_law_digit
 refine F.F.ok sc_law_number (fun vs H Q E h => ?_) (fun cdv A outer s H vs Q E hr h => ?_)
 ·obtain ⟨r,c,i,j,rfl,_⟩ := h
  rfl
 obtain ⟨r,c,i,j,rfl,hr0,h1,h2,h3,q⟩ := h
 refine ⟨_,(@pss_cons _ _ _ _ _ (@ps_set _ _ 3 _ _ _ _ sc_law_number.nd rfl (Or.inl rfl) (pe_call G_law_digit (hr.mono (by first | decide | lia)) rfl D_law_digit.m D_law_digit.F.kp D_law_digit.b .nil pass0 (@pa_cons _ _ _ _ _ (pv 0) (@pa_cons _ _ _ _ _ pe_int pa_nil (by rfl)) (by rfl))) (by rfl) (by first | exact .inl rfl | exact .inr rfl | assumption)) (@pss_cons _ _ _ _ _ (@ps_if _ _ _ _ _ _ _ _ (pt_cmpR op_eq (pv 3) pe_int (nomark _)) (@pss_one _ _ _ (@ps_ret _ _ _ _ (pv 1))) pss_nil) (@pss_cons _ _ _ _ _ (@ps_if _ _ _ _ _ _ _ _ (pt_cmpR op_eq (pv 3) pe_int (nomark _)) (@pss_one _ _ _ (@ps_ret _ _ _ _ (pv 2))) pss_nil) (@pss_one _ _ _ (@ps_ret _ _ _ _ (@pe_op _ _ _ _ _ _ _ _ op_add (pv 1) (pe_call G_law_digit (hr.mono (by first | decide | lia)) rfl D_law_digit.m D_law_digit.F.kp D_law_digit.b .nil pass0 (@pa_cons _ _ _ _ _ (pv 0) (@pa_cons _ _ _ _ _ (@pe_op _ _ _ _ _ _ _ _ op_add (@pe_op _ _ _ _ _ _ _ _ op_sub (pv 2) (pv 1)) pe_int) pa_nil (by rfl)) (by rfl))))))))),?_⟩
 refine ⟨_,rfl,r,c,6,rfl,hr0,by decide,by decide,?_⟩
 refine ⟨_,rfl,rfl,_,rfl,?_⟩
 refine ite2 (fun c1 => ⟨_,rfl,q i _ _ But.put upd_same (Int.le_refl _) h2⟩) (fun c1 => ?_)
 refine ⟨_,rfl,rfl,_,rfl,?_⟩
 refine ite2 (fun c2 => ⟨_,rfl,q j _ _ But.put upd_same h2 (Int.le_refl _)⟩) (fun c2 => ?_)
 obtain ⟨d0,d1⟩ := mod_lt (c / 6) (m := j - i + 1) (by lia)
 refine ⟨_,rfl,_,rfl,_,rfl,_,rfl,_,_,rfl,rfl,_,_,rfl,rfl,r,_,_,rfl,upd_same,by lia,by lia,_,_,rfl,rfl,?_⟩
 exact q _ _ _ (But.put.trans But.put) upd_same (by lia) (by lia)
theorem ok_field_of (T : Tx K mg) {f : Addr} {fd : FuncData} (F : Gn K mg "field_of" s_field_of ["record","name"] f fd) : FnOk P w K mg base CX0 1 f fd ["record","name"] (sp_field_of K) := by
 refine F.F.ok sc_field_of (fun vs H Q E h => ?_) (fun cdv A outer s H vs Q E hr h => ?_)
 ·obtain ⟨gs,z,x,rfl,_⟩ := h
  rfl
 obtain ⟨gs,z,x,rfl,hd,q⟩ := h
 refine ⟨_,(@pss_cons _ _ _ _ _ (ps_for PassesOwn.never rfl (pi_tup (@pe_ix _ _ _ _ _ _ _ ix_tupP (pv 0) pe_int (fun _ _ => rfl))) (pg_tup rfl (pgs_cons (pg_name (i := 2) sc_field_of.nd rfl (Or.inl rfl)) (pgs_cons (pg_name (i := 3) sc_field_of.nd rfl (Or.inl rfl)) pgs_nil)))
    (@pss_one _ _ _ (@ps_if _ _ _ _ _ _ _ _ (pt_cmpR op_eq (pv 2) (pv 1) (nomark _)) (@pss_one _ _ _ (@ps_ret _ _ _ _ (pv 3))) pss_nil))) (@pss_one _ _ _ (@ps_ret _ _ _ _ pe_non))),?_⟩
 refine ⟨_,rfl,_,_,_,hd,rfl,rfl,fun v hv => ?_⟩
 obtain ⟨a,xs,rfl,ha,pa,ra⟩ := hv.unref
 have el := ra.length
 rw [List.length_map] at el
 refine ⟨a,rfl,⟨xs,ha⟩,for_tup (xs := xs) (fun i σ H' => H' = H ∧ (∀ j f,j < i → gs[j]? = some f → f.1 ≠ z) ∧ ∃ v1 v2,σ = [some x,some (.str z),v1,v2]) ⟨rfl,fun j f hj => absurd hj (Nat.not_lt_zero _),_,_,rfl⟩ (fun i σ H' _ p => p.1 ▸ ha) ?_ ?_⟩
 ·rintro i y σ H' hy ⟨rfl,pre,v1,v2,rfl⟩
  obtain ⟨e,he,hp⟩ := ra.get' hy
  rw [List.getElem?_map] at he
  obtain ⟨⟨w,e'⟩,hf,rfl⟩ := Option.map_eq_some_iff.mp he
  obtain ⟨b,ys,rfl,hb,pb,rb⟩ := hp.unref
  cases rb with
  | cons r1 rb =>
   cases rb with
   | @cons _ _ y2 _ r2 rb =>
    cases rb
    obtain rfl := isStrV r1
    refine ⟨b,_,rfl,hb,rfl,_,_,rfl,_,_,rfl,rfl,?_⟩
    refine ⟨_,rfl,_,rfl,rfl,_,rfl,?_⟩
    by_cases hz : w = z
    ·subst hz
     refine iteY ⟨_,rfl,?_⟩
     rw [look_at hf pre] at q
     exact q _ r2
    ·refine iteN (strNe hz) ⟨rfl,fun j f hj hjf => ?_,_,_,rfl⟩
     rcases Nat.lt_succ_iff_lt_or_eq.mp hj with h1 | h1
     ·exact pre j f h1 hjf
     ·subst h1
      rw [hf] at hjf
      obtain rfl := Option.some.inj hjf
      exact hz
 ·rintro σ H' ⟨rfl,pre,v1,v2,rfl⟩
  rw [look_none (fun f hf => by
   obtain ⟨j,hj,e⟩ := List.mem_iff_getElem.mp hf
   exact pre j f (by lia) (by rw [List.getElem?_eq_getElem hj,e]))] at q
  exact q
theorem ok_inner_kind (T : Tx K mg) {f : Addr} {fd : FuncData} (F : Gn K mg "inner_kind" s_inner_kind ["kind","entry"] f fd) : FnOk P w K mg base CX0 2 f fd ["kind","entry"] (sp_inner_kind K) := by
 obtain ⟨f_field_kind,fd_field_kind,D_field_kind⟩ := T.field_kind
 have G_field_kind := ok_field_kind (P := P) (w := w) (base := base) T D_field_kind
 obtain ⟨f_item_kind,fd_item_kind,D_item_kind⟩ := T.item_kind
 have G_item_kind := ok_item_kind (P := P) (w := w) (base := base) T D_item_kind
 refine F.F.ok sc_inner_kind (fun vs H Q E h => ?_) (fun cdv A outer s H vs Q E hr h => ?_)
 ·obtain ⟨n,d,x,y,rfl,_⟩ := h
  rfl
 obtain ⟨n,d,x,y,rfl,hd,gk,q⟩ := h
 refine ⟨_,(@pss_cons _ _ _ _ _ (@ps_if _ _ _ _ _ _ _ _ (pt_cmpR op_eq (@pe_ix _ _ _ _ _ _ _ ix_tupP (pv 0) pe_int (fun _ _ => rfl)) pe_str (nomark _)) (@pss_one _ _ _ (@ps_ret _ _ _ _ (pe_call G_field_kind (hr.mono (by first | decide | lia)) rfl D_field_kind.m D_field_kind.F.kp D_field_kind.b .nil pass0 (@pa_cons _ _ _ _ _ (pv 0) (@pa_cons _ _ _ _ _ (pv 1) pa_nil (by rfl)) (by rfl))))) pss_nil) (@pss_one _ _ _ (@ps_ret _ _ _ _ (pe_call G_item_kind (hr.mono (by first | decide | lia)) rfl D_item_kind.m D_item_kind.F.kp D_item_kind.b .nil pass0 (@pa_cons _ _ _ _ _ (pv 0) pa_nil (by rfl)))))),?_⟩
 cases gk with
 | @rcd _ fs g nd nm hl =>
  refine ⟨_,rfl,_,_,_,hd,rfl,rfl,fun v hv => ?_⟩
  obtain rfl := isStrV hv
  refine ⟨rfl,_,rfl,iteY ?_⟩
  rcases q with ⟨fs',z,e,rfl,q⟩ | ⟨n,_⟩
  ·exact ⟨_,rfl,_,rfl,_,_,z,x,rfl,hd,.rcd g nd nm hl,q⟩
  ·exact absurd rfl (n _)
 | list g b1 b2 =>
  refine ⟨_,rfl,_,_,_,hd,rfl,rfl,fun v hv => ?_⟩
  obtain rfl := isStrV hv
  refine ⟨rfl,_,rfl,iteN (strNe (by decide)) ?_⟩
  rcases q with ⟨fs',z,e,_⟩ | ⟨_,q⟩
  ·cases e
  ·exact ⟨_,rfl,_,_,x,rfl,hd,.list g b1 b2,q⟩
 | rows g b1 b2 b3 b4 =>
  refine ⟨_,rfl,_,_,_,hd,rfl,rfl,fun v hv => ?_⟩
  obtain rfl := isStrV hv
  refine ⟨rfl,_,rfl,iteN (strNe (by decide)) ?_⟩
  rcases q with ⟨fs',z,e,_⟩ | ⟨_,q⟩
  ·cases e
  ·exact ⟨_,rfl,_,_,x,rfl,hd,.rows g b1 b2 b3 b4,q⟩
 | text n i b1 b2 =>
  refine ⟨_,rfl,_,_,_,hd,rfl,rfl,fun v hv => ?_⟩
  obtain rfl := isStrV hv
  refine ⟨rfl,_,rfl,iteN (strNe (by decide)) ?_⟩
  rcases q with ⟨fs',z,e,_⟩ | ⟨_,q⟩
  ·cases e
  ·exact ⟨_,rfl,_,_,x,rfl,hd,.text n i b1 b2,q⟩
 | choice n ws b1 b2 =>
  refine ⟨_,rfl,_,_,_,hd,rfl,rfl,fun v hv => ?_⟩
  obtain rfl := isStrV hv
  refine ⟨rfl,_,rfl,iteN (strNe (by decide)) ?_⟩
  rcases q with ⟨fs',z,e,_⟩ | ⟨_,q⟩
  ·simp at e
   exact absurd e.1 (by decide)
  ·exact ⟨_,rfl,_,_,x,rfl,hd,.choice n ws b1 b2,q⟩
 | number n i j b1 b2 b3 =>
  refine ⟨_,rfl,_,_,_,hd,rfl,rfl,fun v hv => ?_⟩
  obtain rfl := isStrV hv
  refine ⟨rfl,_,rfl,iteN (strNe (by decide)) ?_⟩
  rcases q with ⟨fs',z,e,_⟩ | ⟨_,q⟩
  ·cases e
  ·exact ⟨_,rfl,_,_,x,rfl,hd,.number n i j b1 b2 b3,q⟩
theorem one_len (c : Nat) : (⟨#[c]⟩ : Str).length = 1 := rfl
theorem min6 (i c : Int) (h1 : 0 ≤ i) (h2 : i ≤ 60) : (0 : Int) ≤ (if c % 6 < i then c % 6 else i) ∧ (if c % 6 < i then c % 6 else i) ≤ 5 := by
 have := mod_lt c (m := 6) (by decide)
 split <;> lia
theorem ok_law_text (T : Tx K mg) {f : Addr} {fd : FuncData} (F : Gn K mg "_law_text" s_law_text ["row","most"] f fd) : FnOk P w K mg base CX0 2 f fd ["row","most"] (sp_law_text K) := by
 obtain ⟨f_law_digit,fd_law_digit,D_law_digit⟩ := T.law_digit
 have G_law_digit := ok_law_digit (P := P) (w := w) (base := base) T D_law_digit
 refine F.F.ok sc_law_text (fun vs H Q E h => ?_) (fun cdv A outer s H vs Q E hr h => ?_)
 ·obtain ⟨r,c,i,rfl,_⟩ := h
  rfl
 obtain ⟨r,c,i,rfl,hr0,h1,h2,q⟩ := h
 refine ⟨_,(@pss_cons _ _ _ _ _ (@ps_set _ _ 2 _ _ _ _ sc_law_text.nd rfl (Or.inl rfl) pe_str (by rfl) (by first | exact .inl rfl | exact .inr rfl | assumption)) (@pss_cons _ _ _ _ _ (ps_for PassesOwn.never rfl (pi_range1 rfl T.z_range (@pa_cons _ _ _ _ _ (pe_callB (call_min2 rfl) rfl T.z_min boot_min (@pa_cons _ _ _ _ _ (pv 1) (@pa_cons _ _ _ _ _ (pe_call G_law_digit (hr.mono (by first | decide | lia)) rfl D_law_digit.m D_law_digit.F.kp D_law_digit.b .nil pass0 (@pa_cons _ _ _ _ _ (pv 0) (@pa_cons _ _ _ _ _ pe_int pa_nil (by rfl)) (by rfl))) pa_nil (by rfl)) (by rfl))) pa_nil (by rfl))) (pg_name (i := 3) sc_law_text.nd rfl (Or.inl rfl))
    (@pss_one _ _ _ (@ps_set _ _ 2 _ _ _ _ sc_law_text.nd rfl (Or.inl rfl) (@pe_op _ _ _ _ _ _ _ _ op_add_str (pv 2) (@pe_ix _ _ _ _ _ _ _ ix_str pe_str (pe_call G_law_digit (hr.mono (by first | decide | lia)) rfl D_law_digit.m D_law_digit.F.kp D_law_digit.b .nil pass0 (@pa_cons _ _ _ _ _ (pv 0) (@pa_cons _ _ _ _ _ pe_int pa_nil (by rfl)) (by rfl))) (fun _ _ => rfl))) (by rfl) (by first | exact .inl rfl | exact .inr rfl | assumption)))) (@pss_one _ _ _ (@ps_ret _ _ _ _ (pv 2))))),?_⟩
 obtain ⟨k0,k1⟩ := min6 i c h1 h2
 refine ⟨_,rfl,_,rfl,r,c,6,rfl,hr0,by decide,by decide,_,_,rfl,_,rfl,by lia,by lia,for_range (lo := 0) (n := (if c % 6 < i then c % 6 else i).toNat) (fun k σ H' => ∃ z n' v,σ = [some (.ref r),some (.int i),some (.str z),v] ∧ z.length ≤ k ∧ But r H H' ∧ H' r = some (.lst [.int n'])) ⟨"",_,_,rfl,by decide,But.put,upd_same⟩ ?_ ?_⟩
 ·rintro k σ H' hk ⟨z,n',v,rfl,hz,b,e⟩
  obtain ⟨g0,g1⟩ := mod_lt n' (m := 8) (by decide)
  obtain ⟨ch,hc⟩ := pickStr (z := "a-|170 b") (d := n' % 8) g0 (by exact g1)
  refine ⟨_,rfl,_,rfl,r,n',8,rfl,e,by decide,by decide,_,_,_,rfl,rfl,(by decide +kernel),hc,_,_,rfl,rfl,?_,?_⟩
  ·rw [one_len]
   exact small (by lia)
  ·refine ⟨_,_,_,rfl,?_,b.trans But.put,upd_same⟩
   rw [Str.length_append,one_len]
   lia
 ·rintro σ H' ⟨z,n',v,rfl,hz,b,e⟩
  exact ⟨_,rfl,q z n' H' b e (by lia)⟩
noncomputable def svalue (K : PySem.W.Frag) (n : Nat) : Sp := fun vs H Q _ => ∃ (r : Addr) (c : Int) (m : Nat) (d : Dt) (x : V),m < n ∧ vs = [.ref r,x] ∧ H r = some (.lst [.int c]) ∧ IsP K H d x ∧ GK m d ∧ ∀ (v : V) (e : Dt) (c' : Int) (H' : Hp),But r H H' → H' r = some (.lst [.int c']) → IsP K H' e v → GV d e → Q v H'
noncomputable def spairs (K : PySem.W.Frag) (n : Nat) : Sp := fun vs H Q _ => ∃ (r : Addr) (c : Int) (m : Nat) (fs : List (Str × Dt)) (x : V),m < n ∧ vs = [.ref r,x] ∧ H r = some (.lst [.int c]) ∧ IsP K H (.tup [.str "record",.tup (fs.map prD)]) x ∧ (∀ f ∈ fs,GK m f.2) ∧ fs.length ≤ 8 ∧
 ∀ (v : V) (gs : List (Str × Dt)) (c' : Int) (H' : Hp),But r H H' → H' r = some (.lst [.int c']) → IsP K H' (.tup [.str "record",.tup (gs.map prD)]) v → gs.map (·.1) = fs.map (·.1) → (∀ (i : Nat) (f g : Str × Dt),fs[i]? = some f → gs[i]? = some g → GV f.2 g.2) → Q v H'
theorem ok_law_pairs (T : Tx K mg) {f fk : Addr} {fd fdk : FuncData} (n : Nat) (F : Gn K mg "_law_pairs" s_law_pairs ["row","kind"] f fd) (D_law_value : Gn K mg "_law_value" s_law_value ["row","kind"] fk fdk)
  (G_law_value : FnOk P w K mg base CX0 (2 * n + 3) fk fdk ["row","kind"] (svalue K n)) : FnOk P w K mg base CX0 (2 * n + 3 + 1) f fd ["row","kind"] (spairs K n) := by
 refine F.F.ok sc_law_pairs (fun vs H Q E h => ?_) (fun cdv A outer s H vs Q E hr h => ?_)
 ·obtain ⟨r,c,m,fs,x,_,rfl,_⟩ := h
  rfl
 obtain ⟨r,c,m,fs,x,hm,rfl,hr0,hd,gk,hl,q⟩ := h
 refine ⟨_,(@pss_one _ _ _ (@ps_ret _ _ _ _ (@pe_tupP _ _ _ _ _ (@pa_cons _ _ _ _ _ pe_str (@pa_cons _ _ _ _ _ (pe_callTy call_tupleP rfl T.z_tuple boot_tuple (@pa_cons _ _ _ _ _ (pe_comp rfl (csR (sc := defScope s_law_pairs) (NL := ["name","one"]) (N := ["row","kind"]) (ρ := [0]) (N' := ["name","one","row"]) rfl rfl rfl (by decide +kernel) (by decide +kernel) (by decide +kernel) rfl (by decide +kernel)) (pi_tup (@pe_ix _ _ _ _ _ _ _ ix_tupP (pv 1) pe_int (fun _ _ => rfl))) (fun _ _ _ _ => (pg_tupK (K := K) (n := 2) rfl rfl (pgs_cons (pg_name (i := 0) (show List.Nodup (α := Str) ["name","one","row"] by decide +kernel) rfl (Or.inl rfl)) (pgs_cons (pg_name (i := 1) (show List.Nodup (α := Str) ["name","one","row"] by decide +kernel) rfl (Or.inl rfl)) pgs_nil)))) (fun _ _ _ _ => (pe_tupPK (K := K) rfl (@pa_cons _ _ _ _ _ (pv 0) (@pa_cons _ _ _ _ _ (pe_call G_law_value (hr.mono (by first | decide | lia)) rfl D_law_value.m D_law_value.F.kp D_law_value.b .nil pass0 (@pa_cons _ _ _ _ _ (pv 2) (@pa_cons _ _ _ _ _ (pv 1) pa_nil (by rfl)) (by rfl))) pa_nil (by rfl)) (by rfl))))) pa_nil (by rfl))) pa_nil (by rfl)) (by rfl))))),?_⟩
 refine ⟨_,rfl,_,_,_,hd,rfl,rfl,fun v hv => ?_⟩
 obtain ⟨a,xs,rfl,ha,pa,ra⟩ := hv.unref
 have el := ra.length
 rw [List.length_map] at el
 have nar : a ≠ r := by
  obtain ⟨o,u,e,_⟩ := pa
  exact ne_of e hr0 (by intro c; cases c)
 refine ⟨a,rfl,⟨xs,ha⟩,fun l hln => ?_⟩
 have nlr : r ≠ l := ne_of_none hr0 hln
 refine comp_tupR (K := K) (xs := xs) (fun i ys σ H' => ∃ (gs : List (Str × Dt)) (c' : Int),But r H H' ∧ H' r = some (.lst [.int c']) ∧ H' l = some (.lst ys) ∧ IsPs K H' (gs.map prD) ys ∧ gs.map (·.1) = (fs.take i).map (·.1) ∧ (∀ (i : Nat) (f g : Str × Dt),fs[i]? = some f → gs[i]? = some g → GV f.2 g.2) ∧ ∃ v1 v2,σ = [v1,v2,some (.ref r)])
  ⟨[],c,But.same (same_new hln _),(by rw [upd_ne nlr]; exact hr0),upd_same,.nil,rfl,(by intro i f g _ e; simp at e),none,none,rfl⟩ (fun i ys σ H' _ p => by
   obtain ⟨_,_,b,_⟩ := p
   exact b.tup nar ha) ?_ ?_
 ·rintro i u ys σ H1 N hu ⟨gs,c',b1,e1,e2,hp,en,gv,v1,v2,rfl⟩ next
  have hi : i < fs.length := by
   rw [el]
   exact (List.getElem?_eq_some_iff.mp hu).1
  obtain ⟨e,he,hx⟩ := ra.get' hu
  rw [List.getElem?_map] at he
  obtain ⟨⟨w',d'⟩,hf,rfl⟩ := Option.map_eq_some_iff.mp he
  have lg : gs.length = i := by
   have := congrArg List.length en
   simp only [List.length_map,List.length_take] at this
   lia
  have ly : ys.length = i := by rw [← hp.length,List.length_map,lg]
  obtain ⟨b,zs,rfl,hb,pb,rb⟩ := hx.unref
  have nbr : b ≠ r := by
   obtain ⟨o,u,e,_⟩ := pb
   exact ne_of e hr0 (by intro c; cases c)
  cases rb with
  | cons r1 rb =>
   cases rb with
   | @cons _ _ y2 _ r2 rb =>
    cases rb
    obtain rfl := isStrV r1
    refine ⟨b,_,rfl,b1.tup nbr hb,rfl,_,_,rfl,_,_,rfl,rfl,?_⟩
    refine ⟨_,rfl,_,rfl,_,rfl,r,c',m,d',y2,hm,rfl,e1,r2.but hr0 b1,gk _ (List.mem_of_getElem? hf),fun v e c2 H2 b2 e3 hv2 g2 => ?_⟩
    refine ⟨[.str w',e],.cons .str (.cons hv2 .nil),(by show 2 ≤ sizeLine; decide),fun v4 H4 g4 hv4 => ?_⟩
    have f2 := b2 _ _ nlr.symm e2
    have f4 := g4 _ _ f2
    have b5 : But l H4 (upd H4 l (.lst (ys ++ [v4]))) := But.put
    refine ⟨f4,small1000 (by lia),next _ _ _ ⟨gs ++ [(w',e)],c2,fun x o nx ex => ?_,?_,upd_same,?_,?_,fun j f g hjf hjg => ?_,_,_,rfl⟩⟩
    ·rw [upd_ne (ne_of_none ex hln)]
     exact g4 _ _ (b2 x o nx (b1 x o nx ex))
    ·rw [upd_ne nlr]
     exact g4 _ _ e3
    ·rw [List.map_append]
     exact (((hp.but e1 b2).same g4).but f4 b5).append (.cons (hv4.but f4 b5) .nil)
    ·rw [List.map_append,en,List.take_add_one,hf,List.map_append]
     rfl
    ·by_cases hj : j < gs.length
     ·rw [List.getElem?_append_left hj] at hjg
      exact gv j f g hjf hjg
     ·rw [List.getElem?_append_right (by lia)] at hjg
      have hj2 : j = i := by
       have := (List.getElem?_eq_some_iff.mp hjg).1
       simp only [List.length_cons,List.length_nil] at this
       lia
      subst hj2
      rw [lg,Nat.sub_self] at hjg
      obtain rfl : (w',e) = g := by simpa using hjg
      rw [hf] at hjf
      obtain rfl := Option.some.inj hjf
      exact g2
 ·rintro ys σ H1 ⟨gs,c',b1,e1,e2,hp,en,gv,v1,v2,rfl⟩
  refine ⟨l,ys,_,rfl,SqL.of e2,hp,fun v2 H2 g2 hv2 => ?_⟩
  refine ⟨[.str "record",.tup (List.map prD gs)],.cons .str (.cons hv2 .nil),(by show 2 ≤ sizeLine; decide),fun v H3 g3 hv => ?_⟩
  refine q v gs c' H3 ((b1.trans (But.same g2)).trans (But.same g3)) (g3 _ _ (g2 _ _ e1)) hv ?_ gv
  rw [en,← el,List.take_length]
theorem isIntV {K : PySem.W.Frag} {H : Hp} {i : Int} {v : V} (h : IsP K H (.int i) v) : v = .int i := by cases h; rfl
theorem keys_put {kvs : List (Key × V)} {k : Key} {v : V} : (putK kvs k v).map (·.1) = kvs.map (·.1) ∨ (putK kvs k v).map (·.1) = kvs.map (·.1) ++ [k] := by
 unfold putK
 split
 ·refine .inl ?_
  rw [List.map_map]
  refine List.map_congr_left fun p _ => ?_
  show (if p.1 = k then (p.1,v) else p).1 = p.1
  split <;> rfl
 ·exact .inr (by rw [List.map_append]; rfl)
theorem val_of_mem {k : Key} : ∀ {kvs : List (Key × V)},k ∈ kvs.map (·.1) → ∃ v,valV kvs k = some v
 | [],h => by cases h
 | p :: r,h => by
  by_cases e : p.1 = k
  ·exact ⟨_,valV_pos e⟩
  ·rw [valV_neg e]
   refine val_of_mem ?_
   rcases List.mem_cons.mp (show k ∈ p.1 :: r.map (·.1) from h) with h | h
   ·exact absurd h.symm e
   ·exact h
theorem look_par {z : Str} {kk : Dt} : ∀ {fs gs : List (Str × Dt)},gs.map (·.1) = fs.map (·.1) → (∀ (i : Nat) (f g : Str × Dt),fs[i]? = some f → gs[i]? = some g → GV f.2 g.2) → lookS fs z = some kk → ∃ e,lookS gs z = some e ∧ GV kk e
 | [],_,_,_,h => by simp [lookS] at h
 | f :: fs,[],e,_,_ => by simp at e
 | f :: fs,g :: gs,e,gv,h => by
  have e1 : g.1 = f.1 := (List.cons.inj (show g.1 :: gs.map (·.1) = f.1 :: fs.map (·.1) from e)).1
  have e2 : gs.map (·.1) = fs.map (·.1) := (List.cons.inj (show g.1 :: gs.map (·.1) = f.1 :: fs.map (·.1) from e)).2
  by_cases hz : f.1 = z
  ·have h' : lookS (f :: fs) z = some f.2 := by simp [lookS,hz]
   rw [h'] at h
   obtain rfl := Option.some.inj h
   exact ⟨g.2,by simp [lookS,e1,hz],gv 0 f g rfl rfl⟩
  ·have h' : lookS (f :: fs) z = lookS fs z := by simp [lookS,hz]
   rw [h'] at h
   obtain ⟨d,h1,h2⟩ := look_par e2 (fun i a b ha hb => gv (i + 1) a b (by simpa using ha) (by simpa using hb)) h
   refine ⟨d,?_,h2⟩
   rw [← h1]
   simp [lookS,e1,hz]
theorem keyV {d e : Dt} (h : GV d e) : KeyK d → ((∃ i j : Int,d = .tup [.str "number",.int i,.int j]) ∧ ∃ x,e = .int x) ∨ ((∃ i : Int,d = .tup [.str "text",.int i]) ∧ ∃ z,e = .str z) := by
 cases h with
 | number _ _ => exact fun _ => .inl ⟨⟨_,_,rfl⟩,_,rfl⟩
 | text _ => exact fun _ => .inr ⟨⟨_,rfl⟩,_,rfl⟩
 | list _ _ =>
  rintro (⟨i,j,e⟩ | ⟨i,e⟩)
  ·simp at e
   exact absurd e.1 (by decide)
  ·simp at e
 | choice _ => rintro (⟨i,j,e⟩ | ⟨i,e⟩) <;> simp at e
 | rows _ _ _ => rintro (⟨i,j,e⟩ | ⟨i,e⟩) <;> simp at e
 | rcd _ _ => rintro (⟨i,j,e⟩ | ⟨i,e⟩) <;> simp at e
mutual
theorem isP_butD {K : PySem.W.Frag} {H H' : Hp} {p : Addr} {kvs : List (Key × V)} (hp : H p = some (.dK kvs)) (g : But p H H') : ∀ {d : Dt} {v : V},IsP K H d v → IsP K H' d v
 | _,_,.non => .non
 | _,_,.bl => .bl
 | _,_,.int => .int
 | _,_,.str => .str
 | _,_,.tup h pl q => .tup (g.tup (by obtain ⟨o,u,e,dn⟩ := pl; exact ne_of e hp (by intro c; cases c)) h) (by
   obtain ⟨o,u,e,dn⟩ := pl
   exact ⟨o,u,g _ _ (ne_of e hp (by intro c; cases c)) e,dn⟩) (isPs_butD hp g q)
theorem isPs_butD {K : PySem.W.Frag} {H H' : Hp} {p : Addr} {kvs : List (Key × V)} (hp : H p = some (.dK kvs)) (g : But p H H') : ∀ {l : List Dt} {xs : List V},IsPs K H l xs → IsPs K H' l xs
 | _,_,.nil => .nil
 | _,_,.cons h q => .cons (isP_butD hp g h) (isPs_butD hp g q)
end
noncomputable def KeysOf (kk : Dt) (ks : List Key) : Prop := ((∃ i j : Int,kk = .tup [.str "number",.int i,.int j]) ∧ ∃ ns : List Int,ks = ns.map Sum.inl) ∨ ((∃ i : Int,kk = .tup [.str "text",.int i]) ∧ ∃ ss : List Str,ks = ss.map Sum.inr)
theorem KeysOf.nil {kk : Dt} (h : KeyK kk) : KeysOf kk [] := by
 rcases h with h | h
 ·exact .inl ⟨h,[],rfl⟩
 ·exact .inr ⟨h,[],rfl⟩
noncomputable def kD : Key → Dt
 | .inl i => .int i
 | .inr z => .str z
theorem key_of {kk e : Dt} (h : GV kk e) (hk : KeyK kk) : ∃ k : Key,(∀ (K : PySem.W.Frag) (H : Hp) (v : V),IsP K H e v → v = kV k) ∧ (∀ ks,KeysOf kk ks → KeysOf kk (ks ++ [k])) ∧ e = kD k := by
 rcases keyV h hk with ⟨a,x,rfl⟩ | ⟨a,z,rfl⟩
 ·refine ⟨.inl x,fun K H v h => isIntV h,fun ks k => ?_,rfl⟩
  rcases k with ⟨_,ns,rfl⟩ | ⟨⟨i,b⟩,_⟩
  ·exact .inl ⟨a,ns ++ [x],by rw [List.map_append]; rfl⟩
  ·obtain ⟨i',j',a⟩ := a
   rw [a] at b
   simp at b
 ·refine ⟨.inr z,fun K H v h => isStrV h,fun ks k => ?_,rfl⟩
  rcases k with ⟨⟨i,j,b⟩,_⟩ | ⟨_,ss,rfl⟩
  ·obtain ⟨i',a⟩ := a
   rw [a] at b
   simp at b
  ·exact .inr ⟨a,ss ++ [z],by rw [List.map_append]; rfl⟩
theorem prD_inj : ∀ {fs gs : List (Str × Dt)},fs.map prD = gs.map prD → fs = gs
 | [],[],_ => rfl
 | [],g :: gs,h => by simp at h
 | f :: fs,[],h => by simp at h
 | (a,b) :: fs,(c,d) :: gs,h => by
  have h' := List.cons.inj (show prD (a,b) :: fs.map prD = prD (c,d) :: gs.map prD from h)
  have h1 := h'.1
  simp only [prD,Dt.tup.injEq,List.cons.injEq,Dt.str.injEq,and_true] at h1
  rw [prD_inj h'.2,h1.1,h1.2]
theorem rcd_of' {n : Nat} {d : Dt} (h : GK n d) : ∀ fs : List (Str × Dt),d = .tup [.str "record",.tup (fs.map prD)] → ∃ m,n = m + 1 ∧ (∀ f ∈ fs,GK m f.2) ∧ (fs.map (·.1)).Nodup ∧ fs.length ≤ 8 := by
 cases h with
 | @rcd m fs' g nd nm hl =>
  intro fs e
  have e' : fs'.map prD = fs.map prD := by simpa using e
  obtain rfl := prD_inj e'
  exact ⟨m,rfl,g,nd,hl⟩
 | _ =>
  intro fs e
  simp at e <;> first | exact absurd e.1 (by decide) | exact absurd e (by decide)
theorem rcd_of {n : Nat} {fs : List (Str × Dt)} (h : GK n (.tup [.str "record",.tup (fs.map prD)])) : ∃ m,n = m + 1 ∧ (∀ f ∈ fs,GK m f.2) ∧ (fs.map (·.1)).Nodup ∧ fs.length ≤ 8 := rcd_of' h fs rfl
theorem nodup_put {kvs : List (Key × V)} {k : Key} {v : V} (h : (kvs.map (·.1)).Nodup) : ((putK kvs k v).map (·.1)).Nodup := by
 unfold putK
 split
 ·rw [List.map_map]
  have : (kvs.map ((fun x : Key × V => x.1) ∘ fun kv => if kv.1 = k then (kv.1,v) else kv)) = kvs.map (·.1) := List.map_congr_left fun p _ => by
   show (if p.1 = k then (p.1,v) else p).1 = p.1
   split <;> rfl
  rw [this]
  exact h
 ·rename_i a
  rw [List.map_append]
  refine List.nodup_append.mpr ⟨h,by simp,fun x hx y hy => ?_⟩
  obtain rfl : y = k := by simpa using hy
  rintro rfl
  obtain ⟨p,hp,rfl⟩ := List.mem_map.mp hx
  exact a (List.any_eq_true.mpr ⟨p,hp,decide_eq_true rfl⟩)
theorem nodup_map_inj {α β : Type} {f : α → β} (hf : ∀ a b,f a = f b → a = b) : ∀ {l : List α},l.Nodup → (l.map f).Nodup
 | [],_ => List.nodup_nil
 | a :: l,h => by
  have h' := List.nodup_cons.mp h
  refine List.nodup_cons.mpr ⟨fun c => ?_,nodup_map_inj hf h'.2⟩
  obtain ⟨b,hb,e⟩ := List.mem_map.mp c
  obtain rfl := hf _ _ e
  exact h'.1 hb
theorem ok_law_value (T : Tx K mg) {f fk : Addr} {fd fdk : FuncData} (n : Nat) (D_law_value : Gn K mg "_law_value" s_law_value ["row","kind"] f fd) (D_law_pairs : Gn K mg "_law_pairs" s_law_pairs ["row","kind"] fk fdk)
  (G_law_value : FnOk P w K mg base CX0 (2 * n + 3) f fd ["row","kind"] (svalue K n)) (G_law_pairs : FnOk P w K mg base CX0 (2 * n + 4) fk fdk ["row","kind"] (spairs K n)) : FnOk P w K mg base CX0 (2 * n + 4 + 1) f fd ["row","kind"] (svalue K (n + 1)) := by
 obtain ⟨f_law_digit,fd_law_digit,D_law_digit⟩ := T.law_digit
 have G_law_digit := ok_law_digit (P := P) (w := w) (base := base) T D_law_digit
 obtain ⟨f_law_number,fd_law_number,D_law_number⟩ := T.law_number
 have G_law_number := ok_law_number (P := P) (w := w) (base := base) T D_law_number
 obtain ⟨f_law_text,fd_law_text,D_law_text⟩ := T.law_text
 have G_law_text := ok_law_text (P := P) (w := w) (base := base) T D_law_text
 refine D_law_value.F.ok sc_law_value (fun vs H Q E h => ?_) (fun cdv A outer s H vs Q E hr h => ?_)
 ·obtain ⟨r,c,m,d,x,_,rfl,_⟩ := h
  rfl
 obtain ⟨r,c,m,d,x,hm,rfl,hr0,hd,gk,q⟩ := h
 refine ⟨_,(@pss_cons _ _ _ _ _ (@ps_if _ _ _ _ _ _ _ _ (pt_cmpR op_eq (@pe_ix _ _ _ _ _ _ _ ix_tupP (pv 1) pe_int (fun _ _ => rfl)) pe_str (nomark _)) (@pss_one _ _ _ (@ps_ret _ _ _ _ (pe_call G_law_number (hr.mono (by first | decide | lia)) rfl D_law_number.m D_law_number.F.kp D_law_number.b .nil pass0 (@pa_cons _ _ _ _ _ (pv 0) (@pa_cons _ _ _ _ _ (@pe_ix _ _ _ _ _ _ _ ix_tupP (pv 1) pe_int (fun _ _ => rfl)) (@pa_cons _ _ _ _ _ (@pe_ix _ _ _ _ _ _ _ ix_tupP (pv 1) pe_int (fun _ _ => rfl)) pa_nil (by rfl)) (by rfl)) (by rfl))))) pss_nil) (@pss_cons _ _ _ _ _ (@ps_if _ _ _ _ _ _ _ _ (pt_cmpR op_eq (@pe_ix _ _ _ _ _ _ _ ix_tupP (pv 1) pe_int (fun _ _ => rfl)) pe_str (nomark _)) (@pss_one _ _ _ (@ps_ret _ _ _ _ (pe_call G_law_text (hr.mono (by first | decide | lia)) rfl D_law_text.m D_law_text.F.kp D_law_text.b .nil pass0 (@pa_cons _ _ _ _ _ (pv 0) (@pa_cons _ _ _ _ _ (@pe_ix _ _ _ _ _ _ _ ix_tupP (pv 1) pe_int (fun _ _ => rfl)) pa_nil (by rfl)) (by rfl))))) pss_nil) (@pss_cons _ _ _ _ _ (@ps_if _ _ _ _ _ _ _ _ (pt_cmpR op_eq (@pe_ix _ _ _ _ _ _ _ ix_tupP (pv 1) pe_int (fun _ _ => rfl)) pe_str (nomark _)) (@pss_one _ _ _ (@ps_ret _ _ _ _ (@pe_ix _ _ _ _ _ _ _ ix_tupP (@pe_ix _ _ _ _ _ _ _ ix_tupP (pv 1) pe_int (fun _ _ => rfl)) (pe_call G_law_digit (hr.mono (by first | decide | lia)) rfl D_law_digit.m D_law_digit.F.kp D_law_digit.b .nil pass0 (@pa_cons _ _ _ _ _ (pv 0) (@pa_cons _ _ _ _ _ (pe_callB call_lenD rfl T.z_len PySem.boot_len (@pa_cons _ _ _ _ _ (@pe_ix _ _ _ _ _ _ _ ix_tupP (pv 1) pe_int (fun _ _ => rfl)) pa_nil (by rfl))) pa_nil (by rfl)) (by rfl))) (fun _ _ => rfl)))) pss_nil) (@pss_cons _ _ _ _ _ (@ps_if _ _ _ _ _ _ _ _ (pt_cmpR op_eq (@pe_ix _ _ _ _ _ _ _ ix_tupP (pv 1) pe_int (fun _ _ => rfl)) pe_str (nomark _)) (@pss_one _ _ _ (@ps_ret _ _ _ _ (pe_call G_law_pairs (hr.mono (by first | decide | lia)) rfl D_law_pairs.m D_law_pairs.F.kp D_law_pairs.b .nil pass0 (@pa_cons _ _ _ _ _ (pv 0) (@pa_cons _ _ _ _ _ (pv 1) pa_nil (by rfl)) (by rfl))))) pss_nil) (@pss_cons _ _ _ _ _ (@ps_if _ _ _ _ _ _ _ _ (pt_cmpR op_eq (@pe_ix _ _ _ _ _ _ _ ix_tupP (pv 1) pe_int (fun _ _ => rfl)) pe_str (nomark _)) (@pss_one _ _ _ (@ps_ret _ _ _ _ (@pe_tupP _ _ _ _ _ (@pa_cons _ _ _ _ _ pe_str (@pa_cons _ _ _ _ _ (pe_callTy call_tupleP rfl T.z_tuple boot_tuple (@pa_cons _ _ _ _ _ (pe_comp rfl (csR (sc := defScope s_law_value) (NL := ["k"]) (N := ["row","kind","items","k","item"]) (ρ := [0,1]) (N' := ["k","row","kind"]) rfl rfl rfl (by decide +kernel) (by decide +kernel) (by decide +kernel) rfl (by decide +kernel)) (pi_range1 rfl T.z_range (@pa_cons _ _ _ _ _ (pe_call G_law_digit (hr.mono (by first | decide | lia)) rfl D_law_digit.m D_law_digit.F.kp D_law_digit.b .nil pass0 (@pa_cons _ _ _ _ _ (pv 0) (@pa_cons _ _ _ _ _ (@pe_op _ _ _ _ _ _ _ _ op_add (@pe_ix _ _ _ _ _ _ _ ix_tupP (pv 1) pe_int (fun _ _ => rfl)) pe_int) pa_nil (by rfl)) (by rfl))) pa_nil (by rfl))) (fun _ _ _ _ => (pg_name (i := 0) (show List.Nodup (α := Str) ["k","row","kind"] by decide +kernel) rfl (Or.inl rfl))) (fun _ _ _ _ => (pe_call G_law_value (hr.mono (by first | decide | lia)) rfl D_law_value.m D_law_value.F.kp D_law_value.b .nil pass0 (@pa_cons _ _ _ _ _ (pv 1) (@pa_cons _ _ _ _ _ (@pe_ix _ _ _ _ _ _ _ (ix_tupPK (K := K) rfl) (pv 2) pe_int (fun _ _ => rfl)) pa_nil (by rfl)) (by rfl))))) pa_nil (by rfl))) pa_nil (by rfl)) (by rfl))))) pss_nil) (@pss_cons _ _ _ _ _ (@ps_set _ _ 2 _ _ _ _ sc_law_value.nd rfl (Or.inr rfl) pe_dnewK (by rfl) (by first | exact .inl rfl | exact .inr rfl | assumption)) (@pss_cons _ _ _ _ _ (ps_for PassesOwn.never rfl (pi_range1 rfl T.z_range (@pa_cons _ _ _ _ _ (pe_call G_law_digit (hr.mono (by first | decide | lia)) rfl D_law_digit.m D_law_digit.F.kp D_law_digit.b .nil pass0 (@pa_cons _ _ _ _ _ (pv 0) (@pa_cons _ _ _ _ _ (@pe_op _ _ _ _ _ _ _ _ op_add (@pe_ix _ _ _ _ _ _ _ ix_tupP (pv 1) pe_int (fun _ _ => rfl)) pe_int) pa_nil (by rfl)) (by rfl))) pa_nil (by rfl))) (pg_name (i := 3) sc_law_value.nd rfl (Or.inl rfl))
    (@pss_cons _ _ _ _ _ (@ps_set _ _ 4 _ _ _ _ sc_law_value.nd rfl (Or.inl rfl) (pe_call G_law_pairs (hr.mono (by first | decide | lia)) rfl D_law_pairs.m D_law_pairs.F.kp D_law_pairs.b .nil pass0 (@pa_cons _ _ _ _ _ (pv 0) (@pa_cons _ _ _ _ _ (@pe_ix _ _ _ _ _ _ _ ix_tupP (pv 1) pe_int (fun _ _ => rfl)) pa_nil (by rfl)) (by rfl))) (by rfl) (by first | exact .inl rfl | exact .inr rfl | assumption)) (@pss_one _ _ _ (ps_dput (u1 hr.units) (pv 2) (pe_dget (u1 hr.units) (pe_callTy (call_dictP rfl) rfl T.z_dict boot_dict (@pa_cons _ _ _ _ _ (@pe_ix _ _ _ _ _ _ _ ix_tupP (pv 4) pe_int (fun _ _ => rfl)) pa_nil (by rfl))) (@pe_ix _ _ _ _ _ _ _ ix_tupP (pv 1) pe_int (fun _ _ => rfl)) (fun _ _ => rfl)) (pv 4) rfl)))) (@pss_one _ _ _ (@ps_ret _ _ _ _ (@pe_tupP _ _ _ _ _ (@pa_cons _ _ _ _ _ pe_str (@pa_cons _ _ _ _ _ (pe_callTy call_tupleP rfl T.z_tuple boot_tuple (@pa_cons _ _ _ _ _ (pe_comp rfl (csR (sc := defScope s_law_value) (NL := ["key"]) (N := ["row","kind","items","k","item"]) (ρ := [2]) (N' := ["key","items"]) rfl rfl rfl (by decide +kernel) (by decide +kernel) (by decide +kernel) rfl (by decide +kernel)) (pi_list (pe_callB (call_sortDB rfl) rfl T.z_sorted boot_sorted (@pa_cons _ _ _ _ _ (pv 2) pa_nil (by rfl)))) (fun _ _ _ _ => (pg_name (i := 0) (show List.Nodup (α := Str) ["key","items"] by decide +kernel) rfl (Or.inl rfl))) (fun _ _ _ _ => (pe_dget (u1 hr.units) (pv 1) (pv 0) (fun _ _ => rfl)))) pa_nil (by rfl))) pa_nil (by rfl)) (by rfl)))))))))))),?_⟩
 cases gk with
 | number n' i j b1 b2 b3 =>
  refine ⟨_,rfl,_,_,_,hd,rfl,rfl,fun v hv => ?_⟩
  obtain rfl := isStrV hv
  refine ⟨rfl,_,rfl,iteY ?_⟩
  refine ⟨_,rfl,_,rfl,_,_,_,hd,rfl,rfl,fun v hv => ?_⟩
  obtain rfl := isIntV hv
  refine ⟨_,rfl,_,_,_,hd,rfl,rfl,fun v hv => ?_⟩
  obtain rfl := isIntV hv
  exact ⟨r,c,i,j,rfl,hr0,b1,b2,b3,fun x c' H' b e h1 h2 => q _ _ c' H' b e .int (.number h1 h2)⟩
 | text n' i b1 b2 =>
  refine ⟨_,rfl,_,_,_,hd,rfl,rfl,fun v hv => ?_⟩
  obtain rfl := isStrV hv
  refine ⟨rfl,_,rfl,iteN (strNe (by decide)) ?_⟩
  refine ⟨_,rfl,_,_,_,hd,rfl,rfl,fun v hv => ?_⟩
  obtain rfl := isStrV hv
  refine ⟨rfl,_,rfl,iteY ?_⟩
  refine ⟨_,rfl,_,rfl,_,_,_,hd,rfl,rfl,fun v hv => ?_⟩
  obtain rfl := isIntV hv
  exact ⟨r,c,i,rfl,hr0,b1,b2,fun z c' H' b e h1 => q _ _ c' H' b e .str (.text h1)⟩
 | choice n' ws b1 b2 =>
  refine ⟨_,rfl,_,_,_,hd,rfl,rfl,fun v hv => ?_⟩
  obtain rfl := isStrV hv
  refine ⟨rfl,_,rfl,iteN (strNe (by decide)) ?_⟩
  refine ⟨_,rfl,_,_,_,hd,rfl,rfl,fun v hv => ?_⟩
  obtain rfl := isStrV hv
  refine ⟨rfl,_,rfl,iteN (strNe (by decide)) ?_⟩
  refine ⟨_,rfl,_,_,_,hd,rfl,rfl,fun v hv => ?_⟩
  obtain rfl := isStrV hv
  refine ⟨rfl,_,rfl,iteY ?_⟩
  refine ⟨_,rfl,_,_,_,hd,rfl,rfl,fun v1 hv1 => ?_⟩
  refine ⟨_,rfl,_,rfl,_,_,_,hd,rfl,rfl,fun v2 hv2 => ?_⟩
  obtain ⟨d0,d1⟩ := mod_lt c (m := ((ws.map Dt.str).length : Int)) (by rw [List.length_map]; lia)
  obtain ⟨e,me,ee⟩ := pick (xs := ws.map Dt.str) d0 d1
  obtain ⟨z,hz,rfl⟩ := List.mem_map.mp me
  exact ⟨v2,_,rfl,hv2.d,r,c,_,rfl,hr0,by rw [List.length_map]; lia,by rw [List.length_map]; lia,_,_,_,hv1.but hr0 But.put,rfl,ee,fun v hv => q v _ _ _ But.put upd_same hv (.choice hz)⟩
 | @rcd n' fs g nd nm hl =>
  refine ⟨_,rfl,_,_,_,hd,rfl,rfl,fun v hv => ?_⟩
  obtain rfl := isStrV hv
  refine ⟨rfl,_,rfl,iteN (strNe (by decide)) ?_⟩
  refine ⟨_,rfl,_,_,_,hd,rfl,rfl,fun v hv => ?_⟩
  obtain rfl := isStrV hv
  refine ⟨rfl,_,rfl,iteN (strNe (by decide)) ?_⟩
  refine ⟨_,rfl,_,_,_,hd,rfl,rfl,fun v hv => ?_⟩
  obtain rfl := isStrV hv
  refine ⟨rfl,_,rfl,iteN (strNe (by decide)) ?_⟩
  refine ⟨_,rfl,_,_,_,hd,rfl,rfl,fun v hv => ?_⟩
  obtain rfl := isStrV hv
  refine ⟨rfl,_,rfl,iteY ?_⟩
  exact ⟨_,rfl,_,rfl,r,c,n',fs,x,by lia,rfl,hr0,hd,g,hl,fun v gs c' H' b e hv en gv => q v _ c' H' b e hv (.rcd en gv)⟩
 | @list n' k i g b1 b2 =>
  refine ⟨_,rfl,_,_,_,hd,rfl,rfl,fun v hv => ?_⟩
  obtain rfl := isStrV hv
  refine ⟨rfl,_,rfl,iteN (strNe (by decide)) ?_⟩
  refine ⟨_,rfl,_,_,_,hd,rfl,rfl,fun v hv => ?_⟩
  obtain rfl := isStrV hv
  refine ⟨rfl,_,rfl,iteN (strNe (by decide)) ?_⟩
  refine ⟨_,rfl,_,_,_,hd,rfl,rfl,fun v hv => ?_⟩
  obtain rfl := isStrV hv
  refine ⟨rfl,_,rfl,iteN (strNe (by decide)) ?_⟩
  refine ⟨_,rfl,_,_,_,hd,rfl,rfl,fun v hv => ?_⟩
  obtain rfl := isStrV hv
  refine ⟨rfl,_,rfl,iteN (strNe (by decide)) ?_⟩
  refine ⟨_,rfl,_,_,_,hd,rfl,rfl,fun v hv => ?_⟩
  obtain rfl := isStrV hv
  refine ⟨rfl,_,rfl,iteY ?_⟩
  refine ⟨_,rfl,_,rfl,_,_,_,hd,rfl,rfl,fun v hv => ?_⟩
  obtain rfl := isIntV hv
  obtain ⟨d0,d1⟩ := mod_lt c (m := i + 1) (by lia)
  refine ⟨_,_,rfl,rfl,r,c,_,rfl,hr0,by lia,by lia,_,rfl,by lia,by lia,fun l hln => ?_⟩
  have b0 : But r H (upd H r (.lst [.int (c / (i + 1))])) := But.put
  have nlr : r ≠ l := ne_of_none upd_same hln
  refine comp_rangeR (lo := 0) (n := (c % (i + 1)).toNat) (fun j ys σ H' => ∃ (es : List Dt) (c' : Int),But r H H' ∧ H' r = some (.lst [.int c']) ∧ H' l = some (.lst ys) ∧ IsPs K H' es ys ∧ ys.length ≤ j ∧ (∀ e ∈ es,GV k e) ∧ ∃ v1,σ = [v1,some (.ref r),some x])
   ⟨[],_,b0.trans (But.same (same_new hln _)),(by rw [upd_ne nlr]; exact upd_same),upd_same,.nil,Nat.le_refl _,(by intro e he; cases he),none,rfl⟩ ?_ ?_
  ·rintro j ys σ H1 N hj ⟨es,c',b1,e1,e2,hp,hle,gv,v1,rfl⟩ next
   have hd1 := hd.but hr0 b1
   refine ⟨_,rfl,_,rfl,_,_,_,hd1,rfl,rfl,fun v5 hv5 => ?_⟩
   refine ⟨r,c',n',k,v5,by lia,rfl,e1,hv5,g,fun v e c2 H2 b2 e3 hv2 g2 => ?_⟩
   have f2 := b2 _ _ nlr.symm e2
   have b5 : But l H2 (upd H2 l (.lst (ys ++ [v]))) := But.put
   refine ⟨f2,small1000 (by lia),next _ _ _ ⟨es ++ [e],c2,fun x o nx ex => ?_,?_,upd_same,?_,?_,fun e' he => ?_,_,rfl⟩⟩
   ·have n2 : x ≠ l := ne_of_none (b0 x o nx ex) hln
    rw [upd_ne n2]
    exact b2 x o nx (b1 x o nx ex)
   ·rw [upd_ne nlr]
    exact e3
   ·exact ((hp.but e1 b2).but f2 b5).append (.cons (hv2.but f2 b5) .nil)
   ·rw [List.length_append]; simp only [List.length_cons,List.length_nil]; lia
   ·rcases List.mem_append.mp he with h1 | h1
    ·exact gv e' h1
    ·obtain rfl := List.mem_singleton.mp h1
     exact g2
  ·rintro ys σ H1 ⟨es,c',b1,e1,e2,hp,hle,gv,v1,rfl⟩
   refine ⟨l,ys,_,rfl,SqL.of e2,hp,fun v2 H2 g2 hv2 => ?_⟩
   refine ⟨[.str "list",.tup es],.cons .str (.cons hv2 .nil),(by show 2 ≤ sizeLine; decide),fun v H3 g3 hv => ?_⟩
   refine q v _ c' H3 ((b1.trans (But.same g2)).trans (But.same g3)) (g3 _ _ (g2 _ _ e1)) hv (.list gv ?_)
   rw [hp.length]
   lia
 | @rows n' z fs kk i g lk kK b1 b2 =>
  refine ⟨_,rfl,_,_,_,hd,rfl,rfl,fun v hv => ?_⟩
  obtain rfl := isStrV hv
  refine ⟨rfl,_,rfl,iteN (strNe (by decide)) ?_⟩
  refine ⟨_,rfl,_,_,_,hd,rfl,rfl,fun v hv => ?_⟩
  obtain rfl := isStrV hv
  refine ⟨rfl,_,rfl,iteN (strNe (by decide)) ?_⟩
  refine ⟨_,rfl,_,_,_,hd,rfl,rfl,fun v hv => ?_⟩
  obtain rfl := isStrV hv
  refine ⟨rfl,_,rfl,iteN (strNe (by decide)) ?_⟩
  refine ⟨_,rfl,_,_,_,hd,rfl,rfl,fun v hv => ?_⟩
  obtain rfl := isStrV hv
  refine ⟨rfl,_,rfl,iteN (strNe (by decide)) ?_⟩
  refine ⟨_,rfl,_,_,_,hd,rfl,rfl,fun v hv => ?_⟩
  obtain rfl := isStrV hv
  refine ⟨rfl,_,rfl,iteN (strNe (by decide)) ?_⟩
  refine fun p hpn => ?_
  have nrp : r ≠ p := ne_of_none hr0 hpn
  have g0 := same_new hpn (.dK [])
  have r0 := g0 _ _ hr0
  have hd0 := hd.same g0
  refine ⟨_,rfl,_,rfl,_,_,_,hd0,rfl,rfl,fun v hv => ?_⟩
  obtain rfl := isIntV hv
  obtain ⟨d0,d1⟩ := mod_lt c (m := i + 1) (by lia)
  obtain ⟨m',em,gf,nd,hl8⟩ := rcd_of g
  have Bp : But r H (upd (upd H p (.dK [])) r (.lst [.int (c / (i + 1))])) := (But.same g0).trans But.put
  refine ⟨_,_,rfl,rfl,r,c,_,rfl,r0,by lia,by lia,_,rfl,by lia,by lia,for_range (lo := 0) (n := (c % (i + 1)).toNat) (fun j σ H' => ∃ (kvs : List (Key × V)) (c' : Int) (v3 v4 : Option V),But r H H' ∧ H' r = some (.lst [.int c']) ∧ H' p = some (.dK kvs) ∧ kvs.length ≤ j ∧ KeysOf kk (kvs.map (·.1)) ∧ (kvs.map (·.1)).Nodup ∧
    (∀ k v,valV kvs k = some v → ∃ e,IsP K H' e v ∧ GV (.tup [.str "record",.tup (fs.map prD)]) e ∧ keyD e z = kD k) ∧ σ = [some (.ref r),some x,some (.ref p),v3,v4])
   ⟨[],_,none,none,Bp,upd_same,(by rw [upd_ne nrp.symm]; exact upd_same),Nat.le_refl _,KeysOf.nil kK,List.nodup_nil,(by intro k v e; cases e),rfl⟩ ?_ ?_⟩
  ·rintro j σ H1 hj ⟨kvs,c',v3,v4,b1,e1,e2,hle,ko,ndk,vals,rfl⟩
   have hd1 := hd.but hr0 b1
   refine ⟨_,rfl,_,rfl,_,_,_,hd1,rfl,rfl,fun v5 hv5 => ?_⟩
   refine ⟨r,c',m',fs,v5,by lia,rfl,e1,hv5,gf,hl8,fun v gs c2 H2 b2 e3 hv2 en gv => ?_⟩
   have hd2 := hd1.but e1 b2
   have lg : gs.length = fs.length := by
    have := congrArg List.length en
    simpa using this
   refine ⟨_,rfl,_,rfl,_,rfl,_,_,_,hv2,rfl,rfl,fun v6 hv6 => ?_⟩
   refine ⟨v6,gs,rfl,hv6,by rw [en]; exact nd,by lia,fun p7 H7 g7 dp => ?_⟩
   refine ⟨_,rfl,_,_,_,hd2.same g7,rfl,rfl,fun v8 hv8 => ?_⟩
   obtain rfl := isStrV hv8
   obtain ⟨kvs7,ep,k7⟩ := dp
   obtain ⟨e9,l9,gv9⟩ := look_par en gv lk
   obtain ⟨v9,h9,hv9⟩ := (k7 z).2 e9 l9
   obtain ⟨k,kv,kadd,ekd⟩ := key_of gv9 kK
   obtain rfl := kv _ _ _ hv9
   have f7 := g7 _ _ (b2 _ _ nrp.symm e2)
   refine ⟨p7,_,rfl,.inl ⟨kvs7,Sum.inr z,.inl ep,rfl,h9.symm⟩,p,_,rfl,DPut.k f7 (small1000 (by lia)),?_⟩
   have b8 : But p H7 (upd H7 p (.dK (putK kvs k v))) := But.put
   refine ⟨putK kvs k v,c2,_,_,fun x o nx ex => ?_,?_,upd_same,Nat.le_trans (length_putK _ _ _) (by lia),?_,nodup_put ndk,fun k' v' hk' => ?_,rfl⟩
   ·rw [upd_ne (ne_of_none ex hpn)]
    exact g7 _ _ (b2 x o nx (b1 x o nx ex))
   ·rw [upd_ne nrp]
    exact g7 _ _ e3
   ·rcases keys_put (kvs := kvs) (k := k) (v := v) with h | h
    ·rw [h]; exact ko
    ·rw [h]; exact kadd _ ko
   ·rw [valV_put] at hk'
    split at hk'
    ·rename_i ekk
     subst ekk
     obtain rfl := Option.some.inj hk'
     refine ⟨_,isP_butD f7 b8 (hv2.same g7),.rcd en gv,?_⟩
     rw [← ekd]
     show (lookD (gs.map prD) z).getD .non = e9
     rw [lookD_map,l9]
     rfl
    ·obtain ⟨e',h1,h2,h4⟩ := vals k' v' hk'
     exact ⟨e',isP_butD f7 b8 ((h1.but e1 b2).same g7),h2,h4⟩
  ·rintro σ H1 ⟨kvs,c',v3,v4,b1,e1,e2,hle,ko,ndk,vals,rfl⟩
   have hz8 : kvs.length ≤ 8 := by lia
   have lks : (kvs.map (·.1)).length = kvs.length := List.length_map _
   rcases ko with ⟨_,ns,ek⟩ | ⟨_,ss,ek⟩
   ·rw [ek,List.length_map] at lks
    refine ⟨_,rfl,.inl ⟨p,kvs,ns,rfl,e2,ek,by lia,fun a ns' han perm srt => ?_⟩⟩
    have ga := same_new han (.lst (ns'.map V.int))
    refine ⟨a,rfl,⟨_,SqL.of upd_same⟩,fun l hln => ?_⟩
    refine comp_listR (K := K) (xs := ns'.map V.int) (fun j ys σ H' => ∃ es : List Dt,Same (upd H1 a (.lst (ns'.map V.int))) H' ∧ H' l = some (.lst ys) ∧ IsPs K H' es ys ∧ ys.length ≤ j ∧ (∀ e ∈ es,GV (.tup [.str "record",.tup (fs.map prD)]) e) ∧ (es.map fun e => keyD e z) = (ns'.take j).map Dt.int ∧ ∃ v1,σ = [v1,some (.ref p)])
     ⟨[],same_new hln _,upd_same,.nil,Nat.le_refl _,(by intro e he; cases he),rfl,none,rfl⟩ (fun j ys σ H' _ q => by
      obtain ⟨_,s1,_⟩ := q
      exact SqL.of (s1 _ _ upd_same)) ?_ ?_
    ·rintro j u ys σ H5 N hu ⟨es,s5,e5,hp5,hle5,gv5,ke5,v1,rfl⟩ next
     have hj : j < ns'.length := by
      have := (List.getElem?_eq_some_iff.mp hu).1
      rw [List.length_map] at this
      exact this
     have ln := perm.length_eq
     rw [List.getElem?_map] at hu
     obtain ⟨x0,hx0,rfl⟩ := Option.map_eq_some_iff.mp hu
     have mem : (Sum.inl x0 : Key) ∈ kvs.map (·.1) := by
      rw [ek]
      exact List.mem_map_of_mem (perm.mem_iff.mp (List.mem_of_getElem? hx0))
     obtain ⟨v0,hv0⟩ := val_of_mem mem
     obtain ⟨e0,he0,gv0,ek0⟩ := vals _ _ hv0
     have e2' := s5 _ _ (ga _ _ e2)
     have b6 : But l H5 (upd H5 l (.lst (ys ++ [v0]))) := But.put
     refine ⟨_,rfl,_,rfl,p,v0,rfl,.inl ⟨kvs,Sum.inl x0,.inl e2',rfl,hv0.symm⟩,e5,small1000 (by lia),next _ _ _ ⟨es ++ [e0],fun x o ex => ?_,upd_same,?_,?_,fun e' he => ?_,?_,_,rfl⟩⟩
     ·rw [upd_ne (ne_of_none ex hln)]
      exact s5 _ _ ex
     ·exact (hp5.but e5 b6).append (.cons (((he0.same ga).same s5).but e5 b6) .nil)
     ·rw [List.length_append]; simp only [List.length_cons,List.length_nil]; lia
     ·rcases List.mem_append.mp he with h1 | h1
      ·exact gv5 e' h1
      ·obtain rfl := List.mem_singleton.mp h1
       exact gv0
     ·rw [List.map_append,ke5,← take_next Dt.int hx0]
      show _ ++ [keyD e0 z] = _
      rw [ek0]
      rfl
    ·rintro ys σ H5 ⟨es,s5,e5,hp5,hle5,gv5,ke5,v1,rfl⟩
     have ln := perm.length_eq
     refine ⟨l,ys,_,rfl,SqL.of e5,hp5,fun v6 H6 g6 hv6 => ?_⟩
     refine ⟨[.str "rows",.tup es],.cons .str (.cons hv6 .nil),(by show 2 ≤ sizeLine; decide),fun v7 H7 g7 hv7 => ?_⟩
     refine q v7 _ c' H7 (((b1.trans (But.same ga)).trans (But.same s5)).trans ((But.same g6).trans (But.same g7))) (g7 _ _ (g6 _ _ (s5 _ _ (ga _ _ e1)))) hv7 (.rows gv5 ?_ ?_)
     ·rw [hp5.length]
      rw [List.length_map] at hle5
      lia
     ·rw [ke5,List.length_map,List.take_length]
      have nd2 : ns'.Nodup := perm.nodup_iff.mpr (by
       have := ndk
       rw [ek] at this
       exact List.Pairwise.of_map _ (fun a b h e => h (e ▸ rfl)) this)
      exact nodup_map_inj (fun a b e => by injection e) nd2
   ·rw [ek,List.length_map] at lks
    refine ⟨_,rfl,.inr ⟨p,kvs,ss,rfl,e2,ek,by lia,fun a ss' han perm srt => ?_⟩⟩
    have ga := same_new han (.lst (ss'.map V.str))
    refine ⟨a,rfl,⟨_,SqL.of upd_same⟩,fun l hln => ?_⟩
    refine comp_listR (K := K) (xs := ss'.map V.str) (fun j ys σ H' => ∃ es : List Dt,Same (upd H1 a (.lst (ss'.map V.str))) H' ∧ H' l = some (.lst ys) ∧ IsPs K H' es ys ∧ ys.length ≤ j ∧ (∀ e ∈ es,GV (.tup [.str "record",.tup (fs.map prD)]) e) ∧ (es.map fun e => keyD e z) = (ss'.take j).map Dt.str ∧ ∃ v1,σ = [v1,some (.ref p)])
     ⟨[],same_new hln _,upd_same,.nil,Nat.le_refl _,(by intro e he; cases he),rfl,none,rfl⟩ (fun j ys σ H' _ q => by
      obtain ⟨_,s1,_⟩ := q
      exact SqL.of (s1 _ _ upd_same)) ?_ ?_
    ·rintro j u ys σ H5 N hu ⟨es,s5,e5,hp5,hle5,gv5,ke5,v1,rfl⟩ next
     have hj : j < ss'.length := by
      have := (List.getElem?_eq_some_iff.mp hu).1
      rw [List.length_map] at this
      exact this
     have ln := perm.length_eq
     rw [List.getElem?_map] at hu
     obtain ⟨x0,hx0,rfl⟩ := Option.map_eq_some_iff.mp hu
     have mem : (Sum.inr x0 : Key) ∈ kvs.map (·.1) := by
      rw [ek]
      exact List.mem_map_of_mem (perm.mem_iff.mp (List.mem_of_getElem? hx0))
     obtain ⟨v0,hv0⟩ := val_of_mem mem
     obtain ⟨e0,he0,gv0,ek0⟩ := vals _ _ hv0
     have e2' := s5 _ _ (ga _ _ e2)
     have b6 : But l H5 (upd H5 l (.lst (ys ++ [v0]))) := But.put
     refine ⟨_,rfl,_,rfl,p,v0,rfl,.inl ⟨kvs,Sum.inr x0,.inl e2',rfl,hv0.symm⟩,e5,small1000 (by lia),next _ _ _ ⟨es ++ [e0],fun x o ex => ?_,upd_same,?_,?_,fun e' he => ?_,?_,_,rfl⟩⟩
     ·rw [upd_ne (ne_of_none ex hln)]
      exact s5 _ _ ex
     ·exact (hp5.but e5 b6).append (.cons (((he0.same ga).same s5).but e5 b6) .nil)
     ·rw [List.length_append]; simp only [List.length_cons,List.length_nil]; lia
     ·rcases List.mem_append.mp he with h1 | h1
      ·exact gv5 e' h1
      ·obtain rfl := List.mem_singleton.mp h1
       exact gv0
     ·rw [List.map_append,ke5,← take_next Dt.str hx0]
      show _ ++ [keyD e0 z] = _
      rw [ek0]
      rfl
    ·rintro ys σ H5 ⟨es,s5,e5,hp5,hle5,gv5,ke5,v1,rfl⟩
     have ln := perm.length_eq
     refine ⟨l,ys,_,rfl,SqL.of e5,hp5,fun v6 H6 g6 hv6 => ?_⟩
     refine ⟨[.str "rows",.tup es],.cons .str (.cons hv6 .nil),(by show 2 ≤ sizeLine; decide),fun v7 H7 g7 hv7 => ?_⟩
     refine q v7 _ c' H7 (((b1.trans (But.same ga)).trans (But.same s5)).trans ((But.same g6).trans (But.same g7))) (g7 _ _ (g6 _ _ (s5 _ _ (ga _ _ e1)))) hv7 (.rows gv5 ?_ ?_)
     ·rw [hp5.length]
      rw [List.length_map] at hle5
      lia
     ·rw [ke5,List.length_map,List.take_length]
      have nd2 : ss'.Nodup := perm.nodup_iff.mpr (by
       have := ndk
       rw [ek] at this
       exact List.Pairwise.of_map _ (fun a b h e => h (e ▸ rfl)) this)
      exact nodup_map_inj (fun a b e => by injection e) nd2
inductive Ents : Dt → Dt → List Dt → Prop
 | rcd {fs gs : List (Str × Dt)} : Ents (.tup [.str "record",.tup (fs.map prD)]) (.tup [.str "record",.tup (gs.map prD)]) (gs.map prD)
 | list {k : Dt} {i : Int} {vs : List Dt} : Ents (.tup [.str "list",k,.int i]) (.tup [.str "list",.tup vs]) (enD 0 vs)
 | rows {k : Dt} {z : Str} {i : Int} {vs : List Dt} : Ents (.tup [.str "rows",.str z,k,.int i]) (.tup [.str "rows",.tup vs]) (vs.map fun v => .tup [keyD v z,v])
noncomputable def entD (d e : Dt) : List Dt := match d,e with
 | .tup [.str w,.tup _],.tup [_,.tup gs] => if w = "record" then gs else []
 | .tup [.str w,_,_],.tup [_,.tup vs] => if w = "list" then enD 0 vs else []
 | .tup [.str w,.str z,_,_],.tup [_,.tup vs] => if w = "rows" then vs.map (fun v => .tup [keyD v z,v]) else []
 | _,_ => []
theorem entD_rcd (fs gs : List (Str × Dt)) : entD (.tup [.str "record",.tup (fs.map prD)]) (.tup [.str "record",.tup (gs.map prD)]) = gs.map prD := by simp [entD]
theorem entD_list (k : Dt) (i : Int) (vs : List Dt) : entD (.tup [.str "list",k,.int i]) (.tup [.str "list",.tup vs]) = enD 0 vs := by simp [entD]
theorem entD_rows (k : Dt) (z : Str) (i : Int) (vs : List Dt) : entD (.tup [.str "rows",.str z,k,.int i]) (.tup [.str "rows",.tup vs]) = vs.map (fun v => .tup [keyD v z,v]) := by simp [entD]
theorem entD_leaf {d e : Dt} (h : GV d e) (n1 : ∀ l,d ≠ .tup [.str "record",.tup l]) (n2 : ∀ k i,d ≠ .tup [.str "list",k,i]) (n3 : ∀ z k i,d ≠ .tup [.str "rows",z,k,i]) : entD d e = [] := by
 cases h with
 | number => rfl
 | text => rfl
 | choice => rfl
 | list => exact absurd rfl (n2 _ _)
 | rows => exact absurd rfl (n3 _ _ _)
 | rcd => exact absurd rfl (n1 _)
noncomputable def sp_entries (K : PySem.W.Frag) : Sp := fun vs H Q _ => ∃ (n : Nat) (d e : Dt) (x y : V),vs = [x,y] ∧ IsP K H d x ∧ IsP K H e y ∧ GK n d ∧ GV d e ∧ ∀ (r : Addr) (ys : List V) (H' : Hp),Same H H' → H r = none → H' r = some (.lst ys) → IsPs K H' (entD d e) ys → Q (.ref r) H'
theorem rec_of' {d e : Dt} (h : GV d e) : ∀ fs : List (Str × Dt),d = .tup [.str "record",.tup (fs.map prD)] → ∃ gs : List (Str × Dt),e = .tup [.str "record",.tup (gs.map prD)] ∧ gs.map (·.1) = fs.map (·.1) ∧ ∀ (i : Nat) (f g : Str × Dt),fs[i]? = some f → gs[i]? = some g → GV f.2 g.2 := by
 cases h with
 | @rcd fs' gs en gv =>
  intro fs e
  have e' : fs'.map prD = fs.map prD := by simpa using e
  obtain rfl := prD_inj e'
  exact ⟨gs,rfl,en,gv⟩
 | _ =>
  intro fs e
  simp at e <;> first | exact absurd e.1 (by decide) | exact absurd e (by decide)
theorem list_of' {d e : Dt} (h : GV d e) : ∀ (k : Dt) (i : Int),d = .tup [.str "list",k,.int i] → ∃ vs,e = .tup [.str "list",.tup vs] ∧ (∀ v ∈ vs,GV k v) ∧ vs.length ≤ 8 := by
 cases h with
 | list g l =>
  intro k i e
  simp at e
  obtain ⟨rfl,rfl⟩ := e
  exact ⟨_,rfl,g,l⟩
 | number _ _ =>
  intro k i e
  simp at e
  exact absurd e.1 (by decide)
 | _ =>
  intro k i e
  simp at e
theorem rows_of' {d e : Dt} (h : GV d e) : ∀ (k : Dt) (z : Str) (i : Int),d = .tup [.str "rows",.str z,k,.int i] → ∃ vs,e = .tup [.str "rows",.tup vs] ∧ (∀ v ∈ vs,GV k v) ∧ vs.length ≤ 8 ∧ (vs.map fun v => keyD v z).Nodup := by
 cases h with
 | rows g l nd =>
  intro k z i e
  simp at e
  obtain ⟨rfl,rfl,rfl⟩ := e
  exact ⟨_,rfl,g,l,nd⟩
 | _ =>
  intro k z i e
  simp at e
theorem ok_entries (T : Tx K mg) {f : Addr} {fd : FuncData} (F : Gn K mg "entries" s_entries ["kind","value"] f fd) : FnOk P w K mg base CX0 2 f fd ["kind","value"] (sp_entries K) := by
 obtain ⟨f_field_of,fd_field_of,D_field_of⟩ := T.field_of
 have G_field_of := ok_field_of (P := P) (w := w) (base := base) T D_field_of
 refine F.F.ok sc_entries (fun vs H Q E h => ?_) (fun cdv A outer s H vs Q E hr h => ?_)
 ·obtain ⟨n,d,e,x,y,rfl,_⟩ := h
  rfl
 obtain ⟨n,d,e,x,y,rfl,hd,he,gk,gv,q⟩ := h
 refine ⟨_,(@pss_cons _ _ _ _ _ (@ps_if _ _ _ _ _ _ _ _ (pt_cmpR op_eq (@pe_ix _ _ _ _ _ _ _ ix_tupP (pv 0) pe_int (fun _ _ => rfl)) pe_str (nomark _)) (@pss_one _ _ _ (@ps_ret _ _ _ _ (pe_callTy (call_list_ofN (K := K) rfl) rfl T.z_list boot_list (@pa_cons _ _ _ _ _ (@pe_ix _ _ _ _ _ _ _ ix_tupP (pv 1) pe_int (fun _ _ => rfl)) pa_nil (by rfl))))) pss_nil) (@pss_cons _ _ _ _ _ (@ps_if _ _ _ _ _ _ _ _ (pt_cmpR op_eq (@pe_ix _ _ _ _ _ _ _ ix_tupP (pv 0) pe_int (fun _ _ => rfl)) pe_str (nomark _)) (@pss_one _ _ _ (@ps_ret _ _ _ _ (pe_listEn rfl rfl T.z_list rfl T.z_enumerate (@pe_ix _ _ _ _ _ _ _ ix_tupP (pv 1) pe_int (fun _ _ => rfl))))) pss_nil) (@pss_cons _ _ _ _ _ (@ps_if _ _ _ _ _ _ _ _ (pt_cmpR op_eq (@pe_ix _ _ _ _ _ _ _ ix_tupP (pv 0) pe_int (fun _ _ => rfl)) pe_str (nomark _)) (@pss_one _ _ _ (@ps_ret _ _ _ _ (pe_comp rfl (csR (sc := defScope s_entries) (NL := ["item"]) (N := ["kind","value"]) (ρ := [0]) (N' := ["item","kind"]) rfl rfl rfl (by decide +kernel) (by decide +kernel) (by decide +kernel) rfl (by decide +kernel)) (pi_tup (@pe_ix _ _ _ _ _ _ _ ix_tupP (pv 1) pe_int (fun _ _ => rfl))) (fun _ _ _ _ => (pg_name (i := 0) (show List.Nodup (α := Str) ["item","kind"] by decide +kernel) rfl (Or.inl rfl))) (fun _ _ _ _ => (pe_tupPK (K := K) rfl (@pa_cons _ _ _ _ _ (pe_call G_field_of (hr.mono (by first | decide | lia)) rfl D_field_of.m D_field_of.F.kp D_field_of.b .nil pass0 (@pa_cons _ _ _ _ _ (pv 0) (@pa_cons _ _ _ _ _ (@pe_ix _ _ _ _ _ _ _ (ix_tupPK (K := K) rfl) (pv 1) pe_int (fun _ _ => rfl)) pa_nil (by rfl)) (by rfl))) (@pa_cons _ _ _ _ _ (pv 0) pa_nil (by rfl)) (by rfl))))))) pss_nil) (@pss_one _ _ _ (@ps_ret _ _ _ _ (@pe_lst _ _ _ _ pa_nil)))))),?_⟩
 cases gk with
 | @rcd n' fs g nd nm hl =>
  obtain ⟨gs,rfl,en,gg⟩ := rec_of' gv fs rfl
  refine ⟨_,rfl,_,_,_,hd,rfl,rfl,fun v hv => ?_⟩
  obtain rfl := isStrV hv
  refine ⟨rfl,_,rfl,iteY ?_⟩
  refine ⟨_,rfl,_,_,_,he,rfl,rfl,fun v hv => ?_⟩
  obtain ⟨a,xs,rfl,ha,pa,ra⟩ := hv.unref
  refine ⟨a,xs,rfl,.inr ha,fun l hln => ?_⟩
  exact q l xs _ (same_new hln _) hln upd_same (by rw [entD_rcd]; exact ra.same (same_new hln _))
 | @list n' k i g b1 b2 =>
  obtain ⟨vs,rfl,gg,hl⟩ := list_of' gv k i rfl
  refine ⟨_,rfl,_,_,_,hd,rfl,rfl,fun v hv => ?_⟩
  obtain rfl := isStrV hv
  refine ⟨rfl,_,rfl,iteN (strNe (by decide)) ?_⟩
  refine ⟨_,rfl,_,_,_,hd,rfl,rfl,fun v hv => ?_⟩
  obtain rfl := isStrV hv
  refine ⟨rfl,_,rfl,iteY ?_⟩
  refine ⟨_,rfl,_,_,_,he,rfl,rfl,fun v hv => ?_⟩
  obtain ⟨a,xs,rfl,ha,pa,ra⟩ := hv.unref
  exact ⟨a,xs,vs,rfl,ha,ra,fun p ys H' sm hpn hp hps => q p ys H' sm hpn hp (by rw [entD_list]; exact hps)⟩
 | @rows n' z fs kk i g lk kK b1 b2 =>
  obtain ⟨vs,rfl,gg,hl,ndk⟩ := rows_of' gv _ z i rfl
  refine ⟨_,rfl,_,_,_,hd,rfl,rfl,fun v hv => ?_⟩
  obtain rfl := isStrV hv
  refine ⟨rfl,_,rfl,iteN (strNe (by decide)) ?_⟩
  refine ⟨_,rfl,_,_,_,hd,rfl,rfl,fun v hv => ?_⟩
  obtain rfl := isStrV hv
  refine ⟨rfl,_,rfl,iteN (strNe (by decide)) ?_⟩
  refine ⟨_,rfl,_,_,_,hd,rfl,rfl,fun v hv => ?_⟩
  obtain rfl := isStrV hv
  refine ⟨rfl,_,rfl,iteY ?_⟩
  refine ⟨_,rfl,_,_,_,he,rfl,rfl,fun v hv => ?_⟩
  obtain ⟨a,xs,rfl,ha,pa,ra⟩ := hv.unref
  have el := ra.length
  refine ⟨a,rfl,⟨xs,ha⟩,fun l hln => ?_⟩
  refine comp_tupR (K := K) (xs := xs) (fun j ys σ H' => Same H H' ∧ H' l = some (.lst ys) ∧ IsPs K H' ((vs.take j).map fun v => .tup [keyD v z,v]) ys ∧ ∃ v1,σ = [v1,some x]) ⟨same_new hln _,upd_same,.nil,none,rfl⟩ (fun j ys σ H' _ p => p.1.tup ha) ?_ ?_
  ·rintro j u ys σ H1 N hu ⟨s1,e1,hp,v1,rfl⟩ next
   obtain ⟨d0,hv0,hx⟩ := ra.get' hu
   have hj : j < vs.length := (List.getElem?_eq_some_iff.mp hv0).1
   obtain ⟨gs,rfl,en,gg0⟩ := rec_of' (gg _ (List.mem_of_getElem? hv0)) fs rfl
   obtain ⟨e9,l9,gv9⟩ := look_par en gg0 lk
   have hx1 := hx.same s1
   have lp : ys.length < 9 := by
    rw [← hp.length,List.length_map,List.length_take]
    lia
   refine ⟨_,rfl,_,rfl,_,_,_,hd.same s1,rfl,rfl,fun v8 hv8 => ?_⟩
   obtain rfl := isStrV hv8
   refine ⟨gs,z,u,rfl,hx1,?_⟩
   rw [l9]
   intro v9 hv9
   refine ⟨_,rfl,[e9,_],.cons hv9 (.cons hx1 .nil),(by show 2 ≤ sizeLine; decide),fun v4 H4 g4 hv4 => ?_⟩
   have f4 := g4 _ _ e1
   have b5 : But l H4 (upd H4 l (.lst (ys ++ [v4]))) := But.put
   refine ⟨f4,small1000 (by lia),next _ _ _ ⟨fun x o ex => ?_,upd_same,?_,_,rfl⟩⟩
   ·rw [upd_ne (ne_of_none ex hln)]
    exact g4 _ _ (s1 _ _ ex)
   ·rw [← take_next (fun v => Dt.tup [keyD v z,v]) hv0]
    refine ((hp.same g4).but f4 b5).append (.cons ?_ .nil)
    have ek : keyD (.tup [.str "record",.tup (gs.map prD)]) z = e9 := by
     show (lookD (gs.map prD) z).getD .non = e9
     rw [lookD_map,l9]
     rfl
    rw [ek]
    exact hv4.but f4 b5
  ·rintro ys σ H1 ⟨s1,e1,hp,v1,rfl⟩
   rw [← el,List.take_length] at hp
   exact q l ys H1 s1 hln e1 (by rw [entD_rows]; exact hp)
 | text =>
  refine ⟨_,rfl,_,_,_,hd,rfl,rfl,fun v hv => ?_⟩
  obtain rfl := isStrV hv
  refine ⟨rfl,_,rfl,iteN (strNe (by decide)) ⟨_,rfl,_,_,_,hd,rfl,rfl,fun v hv => ?_⟩⟩
  obtain rfl := isStrV hv
  refine ⟨rfl,_,rfl,iteN (strNe (by decide)) ⟨_,rfl,_,_,_,hd,rfl,rfl,fun v hv => ?_⟩⟩
  obtain rfl := isStrV hv
  refine ⟨rfl,_,rfl,iteN (strNe (by decide)) ⟨(by show 0 ≤ sizeLine; decide),fun l hln => q l [] _ (same_new hln _) hln upd_same ?_⟩⟩
  rw [entD_leaf gv (by intro _ c; simp at c <;> exact absurd c.1 (by decide)) (by intro _ _ c; simp at c <;> exact absurd c.1 (by decide)) (by intro _ _ _ c; simp at c)]
  exact .nil
 | choice =>
  refine ⟨_,rfl,_,_,_,hd,rfl,rfl,fun v hv => ?_⟩
  obtain rfl := isStrV hv
  refine ⟨rfl,_,rfl,iteN (strNe (by decide)) ⟨_,rfl,_,_,_,hd,rfl,rfl,fun v hv => ?_⟩⟩
  obtain rfl := isStrV hv
  refine ⟨rfl,_,rfl,iteN (strNe (by decide)) ⟨_,rfl,_,_,_,hd,rfl,rfl,fun v hv => ?_⟩⟩
  obtain rfl := isStrV hv
  refine ⟨rfl,_,rfl,iteN (strNe (by decide)) ⟨(by show 0 ≤ sizeLine; decide),fun l hln => q l [] _ (same_new hln _) hln upd_same ?_⟩⟩
  rw [entD_leaf gv (by intro _ c; simp at c <;> exact absurd c.1 (by decide)) (by intro _ _ c; simp at c <;> exact absurd c.1 (by decide)) (by intro _ _ _ c; simp at c)]
  exact .nil
 | number =>
  refine ⟨_,rfl,_,_,_,hd,rfl,rfl,fun v hv => ?_⟩
  obtain rfl := isStrV hv
  refine ⟨rfl,_,rfl,iteN (strNe (by decide)) ⟨_,rfl,_,_,_,hd,rfl,rfl,fun v hv => ?_⟩⟩
  obtain rfl := isStrV hv
  refine ⟨rfl,_,rfl,iteN (strNe (by decide)) ⟨_,rfl,_,_,_,hd,rfl,rfl,fun v hv => ?_⟩⟩
  obtain rfl := isStrV hv
  refine ⟨rfl,_,rfl,iteN (strNe (by decide)) ⟨(by show 0 ≤ sizeLine; decide),fun l hln => q l [] _ (same_new hln _) hln upd_same ?_⟩⟩
  rw [entD_leaf gv (by intro _ c; simp at c <;> exact absurd c.1 (by decide)) (by intro _ _ c; simp at c <;> exact absurd c.1 (by decide)) (by intro _ _ _ c; simp at c)]
  exact .nil
theorem ents_rcd {d e : Dt} {l : List Dt} (h : Ents d e l) : ∀ fs gs : List (Str × Dt),d = .tup [.str "record",.tup (fs.map prD)] → e = .tup [.str "record",.tup (gs.map prD)] → l = gs.map prD := by
 cases h with
 | @rcd fs' gs' =>
  intro fs gs _ e
  simpa using e
 | list => intro fs gs e; simp at e
 | rows => intro fs gs e; simp at e
theorem ents_list {d e : Dt} {l : List Dt} (h : Ents d e l) : ∀ (k : Dt) (i : Int) (vs : List Dt),d = .tup [.str "list",k,.int i] → e = .tup [.str "list",.tup vs] → l = enD 0 vs := by
 cases h with
 | rcd => intro k i vs e; simp at e
 | @list k0 i0 vs0 =>
  intro k i vs _ e
  have : vs0 = vs := by simpa using e
  rw [this]
 | rows => intro k i vs e; simp at e
theorem ents_rows {d e : Dt} {l : List Dt} (h : Ents d e l) : ∀ (k : Dt) (z : Str) (i : Int) (vs : List Dt),d = .tup [.str "rows",.str z,k,.int i] → e = .tup [.str "rows",.tup vs] → l = vs.map fun v => .tup [keyD v z,v] := by
 cases h with
 | rcd => intro k z i vs e; simp at e
 | list => intro k z i vs e; simp at e
 | @rows k0 z0 i0 vs0 =>
  intro k z i vs ed e
  have e1 : vs0 = vs := by simpa using e
  have e2 := ed
  simp at e2
  rw [e1,e2.1]
theorem val4 (T : Tx K mg) {f fk : Addr} {fd fdk : FuncData} (V : Gn K mg "_law_value" s_law_value ["row","kind"] f fd) (R : Gn K mg "_law_pairs" s_law_pairs ["row","kind"] fk fdk) : FnOk P w K mg base CX0 11 f fd ["row","kind"] (svalue K 4) := by
 have v0 : FnOk P w K mg base CX0 (2 * 0 + 3) f fd ["row","kind"] (svalue K 0) := fn_none fun vs H Q E z => by obtain ⟨_,_,m,_,_,e,_⟩ := z; exact absurd e (Nat.not_lt_zero _)
 have p0 := ok_law_pairs T 0 R V v0
 have v1 := ok_law_value T 0 V R v0 p0
 have p1 := ok_law_pairs T 1 R V v1
 have v2 := ok_law_value T 1 V R v1 p1
 have p2 := ok_law_pairs T 2 R V v2
 have v3 := ok_law_value T 2 V R v2 p2
 have p3 := ok_law_pairs T 3 R V v3
 exact ok_law_value T 3 V R v3 p3
theorem ways4 (T : Tx K mg) {f : Addr} {fd : FuncData} (D : Gn K mg "_law_ways" s_law_ways ["kind","path"] f fd) : FnOk P w K mg base CX0 4 f fd ["kind","path"] (sways K 4) := by
 have w0 : FnOk P w K mg base CX0 0 f fd ["kind","path"] (sways K 0) := fn_none fun vs H Q E z => by obtain ⟨m,_,_,_,_,e,_⟩ := z; cases e
 exact ok_law_ways T 3 D (ok_law_ways T 2 D (ok_law_ways T 1 D (ok_law_ways T 0 D w0)))
noncomputable def consW (en p : Dt) : Dt := match p with
 | .tup [.tup w,v] => .tup [.tup (en :: w),v]
 | _ => p
noncomputable def itemsD (d e : Dt) : List (Dt × Dt) := match d,e with
 | .tup [_,_,_],.tup [_,.tup vs] => vs.zipIdx.map fun p => (.int p.2,p.1)
 | .tup [_,.str z,_,_],.tup [_,.tup vs] => vs.map fun v => (keyD v z,v)
 | _,_ => []
noncomputable def pl : List Str → Dt → Dt → List Dt
 | [],_,e => [.tup [.tup [],e]]
 | z :: q,d,e => if z = "each" then (itemsD d e).flatMap fun p => (pl q ((itemD d).getD .non) p.2).map (consW p.1) else (pl q ((fieldD d z).getD .non) (keyD e z)).map (consW (.str z))
noncomputable def splaces (K : PySem.W.Frag) (n : Nat) : Sp := fun vs H Q _ => ∃ (m : Nat) (d e : Dt) (p : List Str) (x y u : V),m ≤ 3 ∧ p.length < n ∧ vs = [x,y,u] ∧ IsP K H d x ∧ IsP K H e y ∧ IsP K H (sD p) u ∧ GK m d ∧ GV d e ∧ (leadD d p).isSome = true ∧ p.length ≤ 10 ∧
 ∀ (r : Addr) (ys : List V) (H' : Hp),Same H H' → H r = none → H' r = some (.lst ys) → IsPs K H' (pl p d e) ys → ys.length ≤ 8 ^ m → Q (.ref r) H'
theorem lead_step {d : Dt} {z : Str} {p : List Str} (h : (leadD d (z :: p)).isSome = true) : ∃ k,stepD d z = some k ∧ (leadD k p).isSome = true := by
 have h' : ((stepD d z).bind fun e => leadD e p).isSome = true := h
 cases e : stepD d z with
 | none => rw [e] at h'; cases h'
 | some k => rw [e] at h'; exact ⟨k,rfl,h'⟩
theorem enD_eq : ∀ (j : Nat) (vs : List Dt),enD j vs = (vs.zipIdx j).map fun p => Dt.tup [.int p.2,p.1]
 | _,[] => rfl
 | j,v :: vs => by
  rw [List.zipIdx_cons,List.map_cons,← enD_eq (j + 1) vs]
  rfl
noncomputable def Sc (a : Dt) : Prop := (∃ i,a = .int i) ∨ ∃ s,a = .str s
theorem Sc.eq {a b : Dt} (ha : Sc a) (hb : Sc b) (h : eqD a b = true) : a = b := by
 rcases ha with ⟨i,rfl⟩ | ⟨s,rfl⟩ <;> rcases hb with ⟨j,rfl⟩ | ⟨t,rfl⟩ <;> simp [eqD] at h
 ·rw [h]
 ·rw [h]
theorem step_of {m : Nat} {d e k : Dt} {z : Str} {p : List Str} {l : List Dt} (gk : GK m d) (gv : GV d e) (en : Ents d e l) (st : stepD d z = some k) :
  (∃ (fs gs : List (Str × Dt)) (m' : Nat),d = .tup [.str "record",.tup (fs.map prD)] ∧ e = .tup [.str "record",.tup (gs.map prD)] ∧ l = gs.map prD ∧ gs.map (·.1) = fs.map (·.1) ∧ (fs.map (·.1)).Nodup ∧ lookS fs z = some k ∧ (∀ (i : Nat) (f g : Str × Dt),fs[i]? = some f → gs[i]? = some g → GV f.2 g.2) ∧ z ≠ "each" ∧ m = m' + 1 ∧ (∀ f ∈ fs,GK m' f.2) ∧ fs.length ≤ 8) ∨
  (z = "each" ∧ ∃ (w : Str) (rest : List Dt) (its : List (Dt × Dt)) (m' : Nat),d = .tup (.str w :: rest) ∧ w ≠ "record" ∧ itemD d = some k ∧ m = m' + 1 ∧ GK m' k ∧ itemsD d e = its ∧ l = its.map (fun p => .tup [p.1,p.2]) ∧ (∀ p ∈ its,GV k p.2) ∧ its.length ≤ 8 ∧ (its.map (·.1)).Nodup ∧ ∀ p ∈ its,Sc p.1) := by
 cases gk with
 | @rcd n' fs g nd nm hl =>
  obtain ⟨gs,rfl,eg,gg⟩ := rec_of' gv fs rfl
  have hz : z ≠ "each" := by
   intro c
   subst c
   simp [stepD,itemD] at st
  refine .inl ⟨fs,gs,n',rfl,rfl,ents_rcd en fs gs rfl rfl,eg,nd,?_,gg,hz,rfl,g,hl⟩
  unfold stepD at st
  rw [if_neg hz] at st
  rw [← lookD_map]
  exact st
 | @list n' k' i g b1 b2 =>
  obtain ⟨vs,rfl,gg,hl⟩ := list_of' gv k' i rfl
  have hz : z = "each" := by
   by_cases c : z = "each"
   ·exact c
   ·unfold stepD at st
    rw [if_neg c] at st
    simp [fieldD] at st
  subst hz
  rw [step_list] at st
  obtain rfl := Option.some.inj st
  refine .inr ⟨rfl,"list",[k',.int i],vs.zipIdx.map fun p => (.int p.2,p.1),n',rfl,by decide,by simp [itemD],rfl,g,rfl,?_,fun p hp => ?_,by rw [List.length_map,List.length_zipIdx]; exact hl,?_,fun p hp => ?_⟩
  ·rw [ents_list en k' i vs rfl rfl,enD_eq,List.map_map]
   rfl
  ·obtain ⟨⟨v,j⟩,hq,rfl⟩ := List.mem_map.mp hp
   have hm := (List.mem_zipIdx hq).2.2
   refine gg v ?_
   rw [hm]
   exact List.getElem_mem _
  ·rw [List.map_map]
   have e1 : (vs.zipIdx.map ((fun x : Dt × Dt => x.1) ∘ fun p : Dt × Nat => ((.int p.2 : Dt),p.1))) = (vs.zipIdx.map Prod.snd).map fun n : Nat => Dt.int n := by rw [List.map_map]; rfl
   rw [e1,List.zipIdx_map_snd]
   refine nodup_map_inj (fun a b h => ?_) List.nodup_range'
   injection h with h
   exact Int.ofNat.inj h
  ·obtain ⟨⟨v,j⟩,hq,rfl⟩ := List.mem_map.mp hp
   exact .inl ⟨_,rfl⟩
 | @rows n' z' fs kk i g lk kK b1 b2 =>
  obtain ⟨vs,rfl,gg,hl,ndk⟩ := rows_of' gv _ z' i rfl
  have hz : z = "each" := by
   by_cases c : z = "each"
   ·exact c
   ·unfold stepD at st
    rw [if_neg c] at st
    simp [fieldD] at st
  subst hz
  rw [step_rows] at st
  obtain rfl := Option.some.inj st
  refine .inr ⟨rfl,"rows",[.str z',.tup [.str "record",.tup (fs.map prD)],.int i],vs.map fun v => (keyD v z',v),n',rfl,by decide,by simp [itemD],rfl,g,rfl,?_,fun p hp => ?_,by rw [List.length_map]; exact hl,?_,fun p hp => ?_⟩
  ·rw [ents_rows en _ z' i vs rfl rfl,List.map_map]
   rfl
  ·obtain ⟨v,hv,rfl⟩ := List.mem_map.mp hp
   exact gg v hv
  ·rw [List.map_map]
   exact ndk
  ·obtain ⟨v,hv,rfl⟩ := List.mem_map.mp hp
   obtain ⟨gs,rfl,eg,gg0⟩ := rec_of' (gg v hv) fs rfl
   obtain ⟨e9,l9,gv9⟩ := look_par eg gg0 lk
   have ek : keyD (.tup [.str "record",.tup (gs.map prD)]) z' = e9 := by
    show (lookD (gs.map prD) z').getD .non = e9
    rw [lookD_map,l9]
    rfl
   show Sc (keyD (.tup [.str "record",.tup (gs.map prD)]) z')
   rw [ek]
   rcases keyV gv9 kK with ⟨_,x,rfl⟩ | ⟨_,x,rfl⟩
   ·exact .inl ⟨_,rfl⟩
   ·exact .inr ⟨_,rfl⟩
 | text _ _ _ => exact absurd st (by unfold stepD; split <;> simp [itemD,fieldD])
 | choice _ _ _ _ => exact absurd st (by unfold stepD; split <;> simp [itemD,fieldD] <;> exact fun c => absurd c (by decide))
 | number _ _ _ _ _ => exact absurd st (by unfold stepD; split <;> simp [itemD,fieldD] <;> exact fun c => absurd c (by decide))
theorem pl_pair : ∀ (q : List Str) (d e : Dt),∀ x ∈ pl q d e,∃ w v,x = .tup [.tup w,v] ∧ w.length = q.length
 | [],d,e,x,h => by
  obtain rfl := List.mem_singleton.mp (show x ∈ [Dt.tup [.tup [],e]] from h)
  exact ⟨[],e,rfl,rfl⟩
 | z :: q,d,e,x,h => by
  have h' : x ∈ if z = "each" then (itemsD d e).flatMap fun p => (pl q ((itemD d).getD .non) p.2).map (consW p.1) else (pl q ((fieldD d z).getD .non) (keyD e z)).map (consW (.str z)) := h
  split at h'
  ·obtain ⟨p,_,hp⟩ := List.mem_flatMap.mp h'
   obtain ⟨y,hy,rfl⟩ := List.mem_map.mp hp
   obtain ⟨w,v,rfl,hl⟩ := pl_pair q _ _ y hy
   exact ⟨p.1 :: w,v,rfl,by rw [List.length_cons,List.length_cons,hl]⟩
  ·obtain ⟨y,hy,rfl⟩ := List.mem_map.mp h'
   obtain ⟨w,v,rfl,hl⟩ := pl_pair q _ _ y hy
   exact ⟨.str z :: w,v,rfl,by rw [List.length_cons,List.length_cons,hl]⟩
theorem cut1 (a : Dt) (l : List Dt) : L2.cutD (a :: l) (some 1) none = l := by
 simp [L2.cutD,HT.sIx]
theorem look_nd {z : Str} {v : Dt} : ∀ {fs : List (Str × Dt)} {i : Nat},(fs.map (·.1)).Nodup → fs[i]? = some (z,v) → lookS fs z = some v
 | [],i,_,h => by simp at h
 | f :: fs,0,nd,h => by
  obtain rfl : f = (z,v) := by simpa using h
  simp [lookS]
 | f :: fs,i + 1,nd,h => by
  have nd' := List.nodup_cons.mp (show (f.1 :: fs.map (·.1)).Nodup from nd)
  have h2 : fs[i]? = some (z,v) := by simpa using h
  have hz : ¬ f.1 = z := fun c => nd'.1 (List.mem_map.mpr ⟨(z,v),List.mem_of_getElem? h2,c.symm⟩)
  rw [← look_nd nd'.2 h2]
  simp [lookS,hz]
theorem look_mem {z : Str} {v : Dt} : ∀ {fs : List (Str × Dt)},lookS fs z = some v → ∃ f ∈ fs,f.2 = v
 | [],h => by simp [lookS] at h
 | f :: fs,h => by
  by_cases hz : f.1 = z
  ·have h' : lookS (f :: fs) z = some f.2 := by simp [lookS,hz]
   rw [h'] at h
   exact ⟨f,List.mem_cons_self,Option.some.inj h⟩
  ·have h' : lookS (f :: fs) z = lookS fs z := by simp [lookS,hz]
   rw [h'] at h
   obtain ⟨g,hg,e⟩ := look_mem h
   exact ⟨g,List.mem_cons_of_mem _ hg,e⟩
theorem dep_le : ∀ {l : List Dt} {B : Nat},(∀ x ∈ l,x.dep ≤ B) → depS l ≤ B
 | [],_,_ => Nat.zero_le _
 | d :: l,B,h => by
  have h1 := h d List.mem_cons_self
  have h2 := dep_le (l := l) (B := B) fun x hx => h x (List.mem_cons_of_mem _ hx)
  simp only [depS]
  lia
theorem dep_strs (p : List Str) : (sD p).dep ≤ 60 := by
 have : depS (p.map Dt.str) ≤ 0 := dep_le fun x hx => by
  obtain ⟨z,_,rfl⟩ := List.mem_map.mp hx
  exact Nat.le_refl _
 show depS (p.map Dt.str) + 1 ≤ 60
 lia
theorem gv_choice {d e : Dt} (h : GV d e) : ∀ ws : List Str,d = .tup [.str "choice",.tup (ws.map Dt.str)] → ∃ z,e = .str z := by
 cases h with
 | choice _ => intro ws _; exact ⟨_,rfl⟩
 | text _ => intro ws _; exact ⟨_,rfl⟩
 | _ =>
  intro ws e
  simp at e <;> first | exact absurd e.1 (by decide) | exact absurd e (by decide)
theorem gv_text {d e : Dt} (h : GV d e) : ∀ i : Int,d = .tup [.str "text",.int i] → ∃ z,e = .str z := by
 cases h with
 | choice _ => intro ws _; exact ⟨_,rfl⟩
 | text _ => intro ws _; exact ⟨_,rfl⟩
 | _ =>
  intro ws e
  simp at e <;> first | exact absurd e.1 (by decide) | exact absurd e (by decide)
theorem gv_number {d e : Dt} (h : GV d e) : ∀ i j : Int,d = .tup [.str "number",.int i,.int j] → ∃ x,e = .int x := by
 cases h with
 | number _ _ => intro i j _; exact ⟨_,rfl⟩
 | _ =>
  intro i j e
  simp at e <;> first | exact absurd e.1 (by decide) | exact absurd e (by decide)
theorem gv_dep : ∀ (m : Nat) {d e : Dt},GK m d → GV d e → e.dep ≤ 3 * m := by
 intro m
 induction m with
 | zero =>
  intro d e gk gv
  cases gk with
  | text n i b1 b2 =>
   obtain ⟨z,rfl⟩ := gv_text gv i rfl
   exact Nat.zero_le _
  | choice n ws b1 b2 =>
   obtain ⟨z,rfl⟩ := gv_choice gv ws rfl
   exact Nat.zero_le _
  | number n i j b1 b2 b3 =>
   obtain ⟨z,rfl⟩ := gv_number gv i j rfl
   exact Nat.zero_le _
 | succ m ih =>
  intro d e gk gv
  cases gk with
  | @rcd n' fs g nd nm hl =>
   obtain ⟨gs,rfl,eg,gg⟩ := rec_of' gv fs rfl
   have : depS (gs.map prD) ≤ 3 * m + 1 := dep_le fun x hx => by
    obtain ⟨⟨a,b⟩,hg,rfl⟩ := List.mem_map.mp hx
    obtain ⟨i,hi⟩ := List.mem_iff_getElem?.mp hg
    have lgs : gs.length = fs.length := by have := congrArg List.length eg; simpa using this
    have hi8 : i < fs.length := by rw [← lgs]; exact (List.getElem?_eq_some_iff.mp hi).1
    obtain ⟨f,hf⟩ : ∃ f,fs[i]? = some f := ⟨_,List.getElem?_eq_getElem hi8⟩
    have : b.dep ≤ 3 * m := ih (g f (List.mem_of_getElem? hf)) (gg i f (a,b) hf hi)
    simp only [prD,Dt.dep,depS]
    lia
   simp only [Dt.dep,depS]
   lia
  | @list n' k i g b1 b2 =>
   obtain ⟨vs,rfl,gg,hl⟩ := list_of' gv k i rfl
   have : depS vs ≤ 3 * m := dep_le fun x hx => ih g (gg x hx)
   simp only [Dt.dep,depS]
   lia
  | @rows n' z fs kk i g lk kK b1 b2 =>
   obtain ⟨vs,rfl,gg,hl,_⟩ := rows_of' gv _ z i rfl
   have : depS vs ≤ 3 * m := dep_le fun x hx => ih g (gg x hx)
   simp only [Dt.dep,depS]
   lia
  | text n i b1 b2 =>
   obtain ⟨z,rfl⟩ := gv_text gv i rfl
   exact Nat.zero_le _
  | choice n ws b1 b2 =>
   obtain ⟨z,rfl⟩ := gv_choice gv ws rfl
   exact Nat.zero_le _
  | number n i j b1 b2 b3 =>
   obtain ⟨z,rfl⟩ := gv_number gv i j rfl
   exact Nat.zero_le _
theorem step_gk {m : Nat} {d k : Dt} {z : Str} (gk : GK m d) (st : stepD d z = some k) : ∃ m',m = m' + 1 ∧ GK m' k := by
 cases gk with
 | @rcd n' fs g nd nm hl =>
  have hz : z ≠ "each" := by
   intro c
   subst c
   simp [stepD,itemD] at st
  unfold stepD at st
  rw [if_neg hz] at st
  have st' : lookS fs z = some k := by rw [← lookD_map]; exact st
  refine ⟨n',rfl,?_⟩
  obtain ⟨f,hf,e⟩ := look_mem st'
  rw [← e]
  exact g f hf
 | @list n' k' i g b1 b2 =>
  have hz : z = "each" := by
   by_cases c : z = "each"
   ·exact c
   ·unfold stepD at st
    rw [if_neg c] at st
    simp [fieldD] at st
  subst hz
  rw [step_list] at st
  obtain rfl := Option.some.inj st
  exact ⟨n',rfl,g⟩
 | @rows n' z' fs kk i g lk kK b1 b2 =>
  have hz : z = "each" := by
   by_cases c : z = "each"
   ·exact c
   ·unfold stepD at st
    rw [if_neg c] at st
    simp [fieldD] at st
  subst hz
  rw [step_rows] at st
  obtain rfl := Option.some.inj st
  exact ⟨n',rfl,g⟩
 | text _ _ _ => exact absurd st (by unfold stepD; split <;> simp [itemD,fieldD])
 | choice _ _ _ _ => exact absurd st (by unfold stepD; split <;> simp [itemD,fieldD] <;> exact fun c => absurd c (by decide))
 | number _ _ _ _ _ => exact absurd st (by unfold stepD; split <;> simp [itemD,fieldD] <;> exact fun c => absurd c (by decide))
theorem lead_len : ∀ {q : List Str} {m : Nat} {d : Dt},GK m d → (leadD d q).isSome = true → q.length ≤ m
 | [],m,d,_,_ => Nat.zero_le _
 | z :: q,m,d,gk,h => by
  obtain ⟨k,st,ld⟩ := lead_step h
  obtain ⟨m',rfl,gk'⟩ := step_gk gk st
  have := lead_len gk' ld
  rw [List.length_cons]
  lia
theorem ok_law_places (T : Tx K mg) {f : Addr} {fd : FuncData} (n : Nat) (D_law_places : Gn K mg "_law_places" s_law_places ["kind","value","path"] f fd) (G_law_places : FnOk P w K mg base CX0 n f fd ["kind","value","path"] (splaces K n)) : FnOk P w K mg base CX0 (n + 1) f fd ["kind","value","path"] (splaces K (n + 1)) := by
 refine D_law_places.F.ok sc_law_places (fun vs H Q E h => ?_) (fun cdv A outer s H vs Q E hr h => ?_)
 ·obtain ⟨m,d,e,p,x,y,u,_,_,rfl,_⟩ := h
  rfl
 obtain ⟨m,d,e,p,x,y,u,h3,hp,rfl,hd,he,hu,gk,gv,ld,hl,q⟩ := h
 refine ⟨_,(@pss_cons _ _ _ _ _ (@ps_if _ _ _ _ _ _ _ _ (pt_cmpR (op_eqD hr.units) (pv 2) (@pe_tupP _ _ _ _ _ pa_nil) (nomark _)) (@pss_one _ _ _ (@ps_ret _ _ _ _ (@pe_lst _ _ _ _ (@pa_cons _ _ _ _ _ (@pe_tupP _ _ _ _ _ (@pa_cons _ _ _ _ _ (@pe_tupP _ _ _ _ _ pa_nil) (@pa_cons _ _ _ _ _ (pv 1) pa_nil (by rfl)) (by rfl))) pa_nil (by rfl))))) pss_nil) (@pss_cons _ _ _ _ _ (@ps_set _ _ 3 _ _ _ _ sc_law_places.nd rfl (Or.inl rfl) (@pe_lst _ _ _ _ pa_nil) (by rfl) (by first | exact .inl rfl | exact .inr rfl | assumption)) (@pss_cons _ _ _ _ _ (@ps_if _ _ _ _ _ _ _ _ (pt_cmpR op_ne (@pe_ix _ _ _ _ _ _ _ ix_tupP (pv 2) pe_int (fun _ _ => rfl)) pe_str (nomark _)) (@pss_cons _ _ _ _ _ (ps_for PassesOwn.never rfl (pi_tup (@pe_ix _ _ _ _ _ _ _ ix_tupP (pv 0) pe_int (fun _ _ => rfl))) (pg_tup rfl (pgs_cons (pg_name (i := 4) sc_law_places.nd rfl (Or.inr rfl)) (pgs_cons (pg_name (i := 5) sc_law_places.nd rfl (Or.inl rfl)) pgs_nil)))
    (@pss_one _ _ _ (@ps_if _ _ _ _ _ _ _ _ (pt_cmpR op_eq (pv 4) (@pe_ix _ _ _ _ _ _ _ ix_tupP (pv 2) pe_int (fun _ _ => rfl)) (nomark _)) (@pss_cons _ _ _ _ _ (@ps_set _ _ 6 _ _ _ _ sc_law_places.nd rfl (Or.inl rfl) (pe_call G_law_places (hr.mono (by first | decide | lia)) rfl D_law_places.m D_law_places.F.kp D_law_places.b .nil pass0 (@pa_cons _ _ _ _ _ (pv 5) (@pa_cons _ _ _ _ _ (pe_dget (u1 hr.units) (pe_callTy (call_dictP rfl) rfl T.z_dict boot_dict (@pa_cons _ _ _ _ _ (@pe_ix _ _ _ _ _ _ _ ix_tupP (pv 1) pe_int (fun _ _ => rfl)) pa_nil (by rfl))) (pv 4) (fun _ _ => rfl)) (@pa_cons _ _ _ _ _ (pe_slice (sl_tupPN (K := K) rfl) (pv 2) (po_some pe_int) po_none) pa_nil (by rfl)) (by rfl)) (by rfl))) (by rfl) (by first | exact .inl rfl | exact .inr rfl | assumption)) (@pss_one _ _ _ (ps_setC (j := 3) sc_law_places.nd rfl (Or.inl rfl) rfl (csR (sc := defScope s_law_places) (NL := ["where","part"]) (N := ["kind","value","path","found","name","one","inner","k","told"]) (ρ := [4]) (N' := ["where","part","name"]) rfl rfl rfl (by decide +kernel) (by decide +kernel) (by decide +kernel) rfl (by decide +kernel)) (pi_list (pv 6)) (fun _ _ _ _ => (pg_tupK (K := K) (n := 2) rfl rfl (pgs_cons (pg_name (i := 0) (show List.Nodup (α := Str) ["where","part","name"] by decide +kernel) rfl (Or.inl rfl)) (pgs_cons (pg_name (i := 1) (show List.Nodup (α := Str) ["where","part","name"] by decide +kernel) rfl (Or.inl rfl)) pgs_nil)))) (fun _ _ _ _ => (pe_tupPK (K := K) rfl (@pa_cons _ _ _ _ _ (@pe_op _ _ _ _ _ _ _ _ (op_catPN (K := K) rfl) (pe_tupPK (K := K) rfl (@pa_cons _ _ _ _ _ (pv 2) pa_nil (by rfl))) (pv 0)) (@pa_cons _ _ _ _ _ (pv 1) pa_nil (by rfl)) (by rfl))))))) pss_nil))) (@pss_one _ _ _ (@ps_ret _ _ _ _ (pv 3)))) pss_nil) (@pss_cons _ _ _ _ _ (ps_for PassesOwn.never rfl (pi_range1 rfl T.z_range (@pa_cons _ _ _ _ _ (pe_callB call_lenD rfl T.z_len PySem.boot_len (@pa_cons _ _ _ _ _ (@pe_ix _ _ _ _ _ _ _ ix_tupP (pv 1) pe_int (fun _ _ => rfl)) pa_nil (by rfl))) pa_nil (by rfl))) (pg_name (i := 7) sc_law_places.nd rfl (Or.inl rfl))
    (@pss_cons _ _ _ _ _ (@ps_set _ _ 8 _ _ _ _ sc_law_places.nd rfl (Or.inr rfl) (pv 7) (by rfl) (by first | exact .inl rfl | exact .inr rfl | assumption)) (@pss_cons _ _ _ _ _ (@ps_if _ _ _ _ _ _ _ _ (pt_cmpR op_eq (@pe_ix _ _ _ _ _ _ _ ix_tupP (pv 0) pe_int (fun _ _ => rfl)) pe_str (nomark _)) (@pss_one _ _ _ (@ps_set _ _ 8 _ _ _ _ sc_law_places.nd rfl (Or.inr rfl) (pe_dget (u1 hr.units) (pe_callTy (call_dictP rfl) rfl T.z_dict boot_dict (@pa_cons _ _ _ _ _ (@pe_ix _ _ _ _ _ _ _ ix_tupP (@pe_ix _ _ _ _ _ _ _ ix_tupP (@pe_ix _ _ _ _ _ _ _ ix_tupP (pv 1) pe_int (fun _ _ => rfl)) (pv 7) (fun _ _ => rfl)) pe_int (fun _ _ => rfl)) pa_nil (by rfl))) (@pe_ix _ _ _ _ _ _ _ ix_tupP (pv 0) pe_int (fun _ _ => rfl)) (fun _ _ => rfl)) (by rfl) (by first | exact .inl rfl | exact .inr rfl | assumption))) pss_nil) (@pss_cons _ _ _ _ _ (@ps_set _ _ 6 _ _ _ _ sc_law_places.nd rfl (Or.inl rfl) (pe_call G_law_places (hr.mono (by first | decide | lia)) rfl D_law_places.m D_law_places.F.kp D_law_places.b .nil pass0 (@pa_cons _ _ _ _ _ (@pe_ix _ _ _ _ _ _ _ ix_tupP (pv 0) (@pe_op _ _ _ _ _ _ _ _ op_add pe_int (pe_callTy call_int1 rfl T.z_int boot_int (@pa_cons _ _ _ _ _ (pe_cmpR op_eq (@pe_ix _ _ _ _ _ _ _ ix_tupP (pv 0) pe_int (fun _ _ => rfl)) pe_str (nomark _)) pa_nil (by rfl)))) (fun _ _ => rfl)) (@pa_cons _ _ _ _ _ (@pe_ix _ _ _ _ _ _ _ ix_tupP (@pe_ix _ _ _ _ _ _ _ ix_tupP (pv 1) pe_int (fun _ _ => rfl)) (pv 7) (fun _ _ => rfl)) (@pa_cons _ _ _ _ _ (pe_slice (sl_tupPN (K := K) rfl) (pv 2) (po_some pe_int) po_none) pa_nil (by rfl)) (by rfl)) (by rfl))) (by rfl) (by first | exact .inl rfl | exact .inr rfl | assumption)) (@pss_one _ _ _ (@ps_set _ _ 3 _ _ _ _ sc_law_places.nd rfl (Or.inl rfl) (@pe_op _ _ _ _ _ _ _ _ (op_catSN (K := K) rfl) (pv 3) (pe_comp rfl (csR (sc := defScope s_law_places) (NL := ["where","part"]) (N := ["kind","value","path","found","name","one","inner","k","told"]) (ρ := [8]) (N' := ["where","part","told"]) rfl rfl rfl (by decide +kernel) (by decide +kernel) (by decide +kernel) rfl (by decide +kernel)) (pi_list (pv 6)) (fun _ _ _ _ => (pg_tupK (K := K) (n := 2) rfl rfl (pgs_cons (pg_name (i := 0) (show List.Nodup (α := Str) ["where","part","told"] by decide +kernel) rfl (Or.inl rfl)) (pgs_cons (pg_name (i := 1) (show List.Nodup (α := Str) ["where","part","told"] by decide +kernel) rfl (Or.inl rfl)) pgs_nil)))) (fun _ _ _ _ => (pe_tupPK (K := K) rfl (@pa_cons _ _ _ _ _ (@pe_op _ _ _ _ _ _ _ _ (op_catPN (K := K) rfl) (pe_tupPK (K := K) rfl (@pa_cons _ _ _ _ _ (pv 2) pa_nil (by rfl))) (pv 0)) (@pa_cons _ _ _ _ _ (pv 1) pa_nil (by rfl)) (by rfl)))))) (by rfl) (by first | exact .inl rfl | exact .inr rfl | assumption))))))) (@pss_one _ _ _ (@ps_ret _ _ _ _ (pv 3))))))),?_⟩
 cases p with
 | nil =>
  refine ⟨_,rfl,[],.nil,(by show 0 ≤ sizeLine; decide),fun v1 H1 g1 hv1 => ?_⟩
  refine ⟨.tup [],.tup [],(hu.same g1).d,hv1.d,by decide,_,rfl,iteT ?_⟩
  refine ⟨[],.nil,(by show 0 ≤ sizeLine; decide),fun v2 H2 g2 hv2 => ?_⟩
  refine ⟨_,rfl,[.tup [],e],.cons hv2 (.cons ((he.same g1).same g2) .nil),(by show 2 ≤ sizeLine; decide),fun v3 H3 g3 hv3 => ⟨(by show 1 ≤ sizeLine; decide),fun l hln => ?_⟩⟩
  have g4 := same_new hln (.lst [v3])
  have S := (g1.trans g2).trans g3
  exact q l [v3] _ (S.trans g4) (S.free hln) upd_same (.cons (hv3.same g4) .nil) (Nat.one_le_pow _ _ (by decide))
 | cons z p =>
  obtain ⟨k,st,ld'⟩ := lead_step ld
  refine ⟨_,rfl,[],.nil,(by show 0 ≤ sizeLine; decide),fun v1 H1 g1 hv1 => ?_⟩
  refine ⟨sD (z :: p),.tup [],(hu.same g1).d,hv1.d,dep_strs _,_,rfl,iteF ?_⟩
  refine ⟨(by show 0 ≤ sizeLine; decide),fun f0 hf0 => ?_⟩
  have S1 : Same H (upd H1 f0 (.lst [])) := g1.trans (same_new hf0 (.lst []))
  have F1 : (upd H1 f0 (.lst [])) f0 = some (.lst []) := upd_same
  have hf0H : H f0 = none := g1.free hf0
  generalize upd H1 f0 (.lst []) = H5 at S1 F1 ⊢
  have hd1 := hd.same S1
  have he1 := he.same S1
  have hu1 := hu.same S1
  have at0 : atI (List.map Dt.str (z :: p)) ((0 : Nat) : Int) = some (.str z) := atI_nat (by simp)
  refine ⟨_,rfl,_,_,_,hu1,rfl,at0,fun v hv => ?_⟩
  obtain rfl := isStrV hv
  refine ⟨rfl,_,rfl,?_⟩
  cases gk with
  | @rcd m' fs g nd nm hl8 =>
   obtain ⟨gs,rfl,eg,gg⟩ := rec_of' gv fs rfl
   have hz : z ≠ "each" := by
    intro c
    subst c
    simp [stepD,itemD] at st
   have lk : lookS fs z = some k := by
    unfold stepD at st
    rw [if_neg hz] at st
    rw [← lookD_map]
    exact st
   obtain ⟨v0,lv,gv0⟩ := look_par eg gg lk
   have ndg : (gs.map (·.1)).Nodup := by rw [eg]; exact nd
   have lgs : gs.length = fs.length := by have := congrArg List.length eg; simpa using this
   have hpl : pl (z :: p) (.tup [.str "record",.tup (fs.map prD)]) (.tup [.str "record",.tup (gs.map prD)]) = (pl p k v0).map (consW (.str z)) := by
    show (if z = "each" then _ else _) = _
    rw [if_neg hz]
    have e1 : fieldD (.tup [.str "record",.tup (fs.map prD)]) z = some k := by
     show lookD (fs.map prD) z = some k
     rw [lookD_map]
     exact lk
    have e2 : keyD (.tup [.str "record",.tup (gs.map prD)]) z = v0 := by
     show (lookD (gs.map prD) z).getD .non = v0
     rw [lookD_map,lv]
     rfl
    rw [e1,e2]
    rfl
   refine iteY' (strNe hz) ?_
   refine ⟨_,rfl,_,_,_,hd1,rfl,rfl,fun v hv => ?_⟩
   obtain ⟨a,xs,rfl,ha,pa,ra⟩ := hv.unref
   have el := ra.length
   rw [List.length_map] at el
   refine ⟨a,rfl,⟨xs,ha⟩,for_tup (xs := xs) (fun i σ H' => ∃ fa ys v4 v5 v6,Same H5 H' ∧ H fa = none ∧ H' fa = some (.lst ys) ∧ (((∀ j f,j < i → fs[j]? = some f → f.1 ≠ z) ∧ ys = []) ∨ ((∃ j k',j < i ∧ fs[j]? = some (z,k')) ∧ IsPs K H' ((pl p k v0).map (consW (.str z))) ys ∧ ys.length ≤ 8 ^ m')) ∧ σ = [some x,some y,some u,some (.ref fa),v4,v5,v6,none,none])
    ⟨f0,[],none,none,none,Same.refl _,hf0H,F1,.inl ⟨fun j f hj => absurd hj (Nat.not_lt_zero _),rfl⟩,rfl⟩ (fun i σ H' _ pv => by
     obtain ⟨_,_,_,_,_,s,_⟩ := pv
     exact s.tup ha) ?_ ?_⟩
   ·rintro i vi σ H2 hvi ⟨fa,ys,v4,v5,v6,s2,hfa,e2,alt,rfl⟩
    obtain ⟨d0,hd0,hx0⟩ := ra.get' hvi
    rw [List.getElem?_map] at hd0
    obtain ⟨⟨wf,k'⟩,hf,rfl⟩ := Option.map_eq_some_iff.mp hd0
    have hd2 := hd1.same s2
    have he2 := he1.same s2
    have hu2 := hu1.same s2
    obtain ⟨b,zs,rfl,hb,pb,rb⟩ := (hx0.same s2).unref
    cases rb with
    | @cons _ _ y1 _ q1 rb =>
    cases rb with
    | @cons _ _ y2 _ q2 rb =>
    cases rb
    obtain rfl := isStrV q1
    refine ⟨b,_,rfl,hb,rfl,_,_,rfl,_,_,rfl,rfl,?_⟩
    refine ⟨_,rfl,_,rfl,_,_,_,hu2,rfl,at0,fun v hv => ?_⟩
    obtain rfl := isStrV hv
    refine ⟨rfl,_,rfl,?_⟩
    by_cases hez : wf = z
    rotate_left
    ·refine iteN (strNe hez) ⟨fa,ys,_,_,_,s2,hfa,e2,?_,rfl⟩
     rcases alt with ⟨h1,h2⟩ | ⟨⟨j,k'',h1,h2⟩,h4⟩
     ·refine .inl ⟨fun j f hj hjf => ?_,h2⟩
      rcases Nat.lt_succ_iff_lt_or_eq.mp hj with c | c
      ·exact h1 j f c hjf
      ·subst c
       rw [hf] at hjf
       obtain rfl := Option.some.inj hjf
       exact hez
     ·exact .inr ⟨⟨j,k'',Nat.lt_succ_of_lt h1,h2⟩,h4⟩
    subst hez
    have hk : k' = k := Option.some.inj ((look_nd nd hf).symm.trans lk)
    subst hk
    refine iteY ?_
    refine ⟨_,rfl,_,rfl,_,_,_,he2,rfl,rfl,fun v6' hv6 => ?_⟩
    refine ⟨v6',gs,rfl,hv6,ndg,by lia,fun p7 H7 g7 dp => ?_⟩
    obtain ⟨kvs7,ep,k7⟩ := dp
    obtain ⟨v9,h9,hv9⟩ := (k7 wf).2 v0 lv
    refine ⟨_,rfl,p7,_,rfl,.inl ⟨kvs7,Sum.inr wf,.inl ep,rfl,h9.symm⟩,?_⟩
    refine ⟨_,rfl,_,rfl,_,hu2.same g7,fun v10 H10 g10 hv10 => ?_⟩
    rw [show List.map Dt.str (wf :: p) = Dt.str wf :: p.map Dt.str from rfl,cut1] at hv10
    have gk' : GK m' k' := g _ (List.mem_of_getElem? hf)
    refine ⟨m',k',v0,p,y2,v9,v10,by lia,(by simp only [List.length_cons] at hp; lia),rfl,(q2.same g7).same g10,hv9.same g10,hv10,gk',gv0,ld',(by simp only [List.length_cons] at hl; lia),fun r8 ys8 H8 g8 hr8 e8 hp8 len8 => ?_⟩
    have S8 : Same H2 H8 := (g7.trans g10).trans g8
    have hy8 : IsP K H8 (.str wf) (.str wf) := .str
    have p8 : 8 ^ m' ≤ 512 := Nat.pow_le_pow_right (by decide) (show m' ≤ 3 by lia)
    refine ⟨_,rfl,r8,rfl,⟨_,SqL.of e8⟩,fun l9 hl9 => ?_⟩
    refine comp_listR (K := K) (xs := ys8) (fun j zs σ H' => Same H8 H' ∧ H' l9 = some (.lst zs) ∧ IsPs K H' (((pl p k' v0).take j).map (consW (.str wf))) zs ∧ zs.length ≤ j ∧ ∃ v1 v2,σ = [v1,v2,some (.str wf)])
     ⟨same_new hl9 _,upd_same,.nil,Nat.le_refl _,none,none,rfl⟩ (fun j zs σ H' _ pv => SqL.of (pv.1 _ _ e8)) ?_ ?_
    ·rintro j u9 zs σ H9 N hu9 ⟨s9,e9,hp9,len9,w1,w2,rfl⟩ next
     have hj : j < ys8.length := (List.getElem?_eq_some_iff.mp hu9).1
     obtain ⟨d9,hd9,hx9⟩ := hp8.get' hu9
     obtain ⟨w9,v9,rfl,lw9⟩ := pl_pair p k' v0 d9 (List.mem_of_getElem? hd9)
     have hx10 := hx9.same s9
     obtain ⟨b9,zs9,rfl,hb9,pb9,rb9⟩ := hx10.unref
     cases rb9 with
     | @cons _ _ t1 _ t1p rb9 =>
     cases rb9 with
     | @cons _ _ t2 _ t2p rb9 =>
     cases rb9
     refine ⟨b9,_,rfl,hb9,rfl,_,_,rfl,_,_,rfl,rfl,?_⟩
     refine ⟨_,rfl,[(.str wf)],.cons (hy8.same s9) .nil,(by show 1 ≤ sizeLine; decide),fun v10 H10 g10 hv10 => ?_⟩
     refine ⟨_,rfl,_,_,hv10,t1p.same g10,Nat.le_of_lt (small1000 (by simp only [List.length_cons,List.length_nil] at hl ⊢; lia)),fun v11 H11 g11 hv11 => ?_⟩
     refine ⟨_,rfl,[.tup ([(.str wf)] ++ w9),v9],.cons hv11 (.cons ((t2p.same g10).same g11) .nil),(by show 2 ≤ sizeLine; decide),fun v12 H12 g12 hv12 => ?_⟩
     have S12 := (g10.trans g11).trans g12
     have f12 := S12 _ _ e9
     have b13 : But l9 H12 (upd H12 l9 (.lst (zs ++ [v12]))) := But.put
     refine ⟨f12,small1000 (by lia),next _ _ _ ⟨fun c o ec => ?_,upd_same,?_,?_,_,_,rfl⟩⟩
     ·rw [upd_ne (ne_of_none ec hl9)]
      exact S12 _ _ (s9 _ _ ec)
     ·rw [← take_next (consW (.str wf)) hd9]
      exact ((hp9.same S12).but f12 b13).append (.cons (hv12.but f12 b13) .nil)
     ·rw [List.length_append]; simp only [List.length_cons,List.length_nil]; lia
    ·rintro zs σ H9 ⟨s9,e9,hp9,len9,w1,w2,rfl⟩
     have el8 := hp8.length
     rw [← el8,List.take_length] at hp9
     refine ⟨l9,zs,_,_,_,(s2.trans S8).trans s9,((S1.trans s2).trans S8).free hl9,e9,.inr ⟨⟨i,k',Nat.lt_succ_self i,hf⟩,hp9,by lia⟩,rfl⟩
   ·rintro σ H2 ⟨fa,ys,v4,v5,v6,s2,hfa,e2,alt,rfl⟩
    rcases alt with ⟨h1,h2⟩ | ⟨_,h4,h5⟩
    ·have : lookS fs z = none := look_none (fun f hf => by
      obtain ⟨j,hj,e⟩ := List.mem_iff_getElem.mp hf
      exact h1 j f (by lia) (by rw [List.getElem?_eq_getElem hj,e]))
     rw [lk] at this
     cases this
    ·refine ⟨_,rfl,q fa ys H2 (S1.trans s2) hfa e2 ?_ ?_⟩
     ·rw [hpl]
      exact h4
     ·rw [Nat.pow_succ]
      lia
  | @list m' k' i0 g b1 b2 =>
   obtain ⟨vs,rfl,gg,hl8⟩ := list_of' gv k' i0 rfl
   have hz : z = "each" := by
    by_cases c : z = "each"
    ·exact c
    ·unfold stepD at st
     rw [if_neg c] at st
     simp [fieldD] at st
   subst hz
   rw [step_list] at st
   obtain rfl := Option.some.inj st
   have hpl : pl ("each" :: p) (.tup [.str "list",k',.int i0]) (.tup [.str "list",.tup vs]) = (vs.zipIdx.map fun p => ((.int p.2 : Dt),p.1)).flatMap fun p0 => (pl p k' p0.2).map (consW p0.1) := by
    show (if ("each" : Str) = "each" then _ else _) = _
    rw [if_pos rfl]
    rfl
   have lits : ((vs.zipIdx.map fun p => ((.int p.2 : Dt),p.1))).length = vs.length := by simp
   generalize hits : (vs.zipIdx.map fun p => ((.int p.2 : Dt),p.1)) = its at hpl lits
   refine iteN' ?_
   refine ⟨_,rfl,_,_,_,he1,rfl,rfl,fun v hv => ?_⟩
   refine ⟨v,vs,rfl,hv.d,_,rfl,by lia,by lia,for_range (lo := 0) (n := ((vs.length : Nat) : Int).toNat) (fun i σ H' => ∃ fa ys v6 v7 v8,Same H H' ∧ H fa = none ∧ H' fa = some (.lst ys) ∧ IsPs K H' ((its.take i).flatMap fun p0 => (pl p k' p0.2).map (consW p0.1)) ys ∧ ys.length ≤ i * 8 ^ m' ∧ σ = [some x,some y,some u,some (.ref fa),none,none,v6,v7,v8])
    ⟨f0,[],none,none,none,S1,hf0H,F1,.nil,by simp,rfl⟩ ?_ ?_⟩
   ·rintro i σ H2 hi ⟨fa,ys,v6,v7,v8,s2,hfa,e2,hp2,len2,rfl⟩
    have hiv : i < vs.length := by lia
    obtain ⟨in0,hin⟩ : ∃ v,vs[i]? = some v := ⟨_,List.getElem?_eq_getElem hiv⟩
    have gin : GV k' in0 := gg in0 (List.mem_of_getElem? hin)
    have hd2 := hd.same s2
    have he2 := he.same s2
    have hu2 := hu.same s2
    have ati : atI vs (0 + (i : Int)) = some in0 := by rw [Int.zero_add]; exact atI_nat hin
    refine ⟨_,rfl,_,rfl,_,_,_,hd2,rfl,rfl,fun v hv => ?_⟩
    obtain rfl := isStrV hv
    refine ⟨rfl,_,rfl,?_⟩
    refine iteN (strNe (by decide)) ?_
    have hit : its[i]? = some (.int (0 + (i : Int)),in0) := by
     rw [← hits,List.getElem?_map,List.getElem?_zipIdx,hin]
     simp
    obtain ⟨H7,g27,eH7⟩ : ∃ H7,Same H2 H7 ∧ H7 = H2 := ⟨H2,Same.refl _,rfl⟩
    rw [← eH7]
    have hen : IsP K H7 (.int (0 + (i : Int))) (.int (0 + (i : Int))) := .int
    have S7 : Same H H7 := s2.trans g27
    have hd7 := hd.same S7
    have he7 := he.same S7
    have hu7 := hu.same S7
    refine ⟨_,rfl,_,rfl,_,_,_,hd7,rfl,rfl,fun v hv => ?_⟩
    obtain rfl := isStrV hv
    refine ⟨rfl,.inr ⟨_,rfl,_,_,rfl,rfl,_,_,_,hd7,rfl,(by rw [decide_eq_false (strNe (by decide))]; rfl),fun vk hvk => ?_⟩⟩
    refine ⟨_,rfl,_,_,_,he7,rfl,rfl,fun vt hvt => ?_⟩
    refine ⟨_,rfl,_,_,_,hvt,rfl,ati,fun vi hvi => ?_⟩
    refine ⟨_,rfl,_,rfl,_,hu7,fun v0 H0 g0 hv0 => ?_⟩
    rw [show List.map Dt.str (("each" : Str) :: p) = Dt.str ("each" : Str) :: p.map Dt.str from rfl,cut1] at hv0
    refine ⟨m',k',in0,p,vk,vi,v0,by lia,(by simp only [List.length_cons] at hp; lia),rfl,hvk.same g0,hvi.same g0,hv0,g,gin,ld',(by simp only [List.length_cons] at hl; lia),fun r8 ys8 H8 g8 hr8 e8 hp8 len8 => ?_⟩
    have S8 : Same H2 H8 := (g27.trans g0).trans g8
    have f8 := S8 _ _ e2
    have hy8 : IsP K H8 (.int (0 + (i : Int))) (.int (0 + (i : Int))) := (hen.same g0).same g8
    have p8 : 8 ^ m' ≤ 512 := Nat.pow_le_pow_right (by decide) (show m' ≤ 3 by lia)
    refine ⟨_,rfl,_,rfl,r8,rfl,⟨_,SqL.of e8⟩,fun l9 hl9 => ?_⟩
    refine comp_listR (K := K) (xs := ys8) (fun j zs σ H' => Same H8 H' ∧ H' l9 = some (.lst zs) ∧ IsPs K H' (((pl p k' in0).take j).map (consW (.int (0 + (i : Int))))) zs ∧ zs.length ≤ j ∧ ∃ v1 v2,σ = [v1,v2,some (.int (0 + (i : Int)))])
     ⟨same_new hl9 _,upd_same,.nil,Nat.le_refl _,none,none,rfl⟩ (fun j zs σ H' _ pv => SqL.of (pv.1 _ _ e8)) ?_ ?_
    ·rintro j u9 zs σ H9 N hu9 ⟨s9,e9,hp9,len9,w1,w2,rfl⟩ next
     have hj : j < ys8.length := (List.getElem?_eq_some_iff.mp hu9).1
     obtain ⟨d9,hd9,hx9⟩ := hp8.get' hu9
     obtain ⟨w9,v9,rfl,lw9⟩ := pl_pair p k' in0 d9 (List.mem_of_getElem? hd9)
     have hx10 := hx9.same s9
     obtain ⟨b9,zs9,rfl,hb9,pb9,rb9⟩ := hx10.unref
     cases rb9 with
     | @cons _ _ t1 _ t1p rb9 =>
     cases rb9 with
     | @cons _ _ t2 _ t2p rb9 =>
     cases rb9
     refine ⟨b9,_,rfl,hb9,rfl,_,_,rfl,_,_,rfl,rfl,?_⟩
     refine ⟨_,rfl,[(.int (0 + (i : Int)))],.cons (hy8.same s9) .nil,(by show 1 ≤ sizeLine; decide),fun v10 H10 g10 hv10 => ?_⟩
     refine ⟨_,rfl,_,_,hv10,t1p.same g10,Nat.le_of_lt (small1000 (by simp only [List.length_cons,List.length_nil] at hl ⊢; lia)),fun v11 H11 g11 hv11 => ?_⟩
     refine ⟨_,rfl,[.tup ([(.int (0 + (i : Int)))] ++ w9),v9],.cons hv11 (.cons ((t2p.same g10).same g11) .nil),(by show 2 ≤ sizeLine; decide),fun v12 H12 g12 hv12 => ?_⟩
     have S12 := (g10.trans g11).trans g12
     have f12 := S12 _ _ e9
     have b13 : But l9 H12 (upd H12 l9 (.lst (zs ++ [v12]))) := But.put
     refine ⟨f12,small1000 (by lia),next _ _ _ ⟨fun c o ec => ?_,upd_same,?_,?_,_,_,rfl⟩⟩
     ·rw [upd_ne (ne_of_none ec hl9)]
      exact S12 _ _ (s9 _ _ ec)
     ·rw [← take_next (consW (.int (0 + (i : Int)))) hd9]
      exact ((hp9.same S12).but f12 b13).append (.cons (hv12.but f12 b13) .nil)
     ·rw [List.length_append]; simp only [List.length_cons,List.length_nil]; lia
    ·rintro zs σ H9 ⟨s9,e9,hp9,len9,w1,w2,rfl⟩
     have el8 := hp8.length
     rw [← el8,List.take_length] at hp9
     have f9 := s9 _ _ f8
     refine ⟨fa,l9,ys,zs,rfl,rfl,SqL.of f9,SqL.of e9,?_,fun l10 hl10 => ?_⟩
     ·have c1 : i * 8 ^ m' ≤ 8 * 512 := Nat.mul_le_mul (by lia) p8
      exact Nat.le_trans (show ys.length + zs.length ≤ 4608 by lia) (by decide)
     ·have g10 := same_new hl10 (.lst (ys ++ zs))
      have S9 : Same H H9 := (s2.trans S8).trans s9
      refine ⟨l10,ys ++ zs,_,_,_,S9.trans g10,S9.free hl10,upd_same,?_,?_,rfl⟩
      ·rw [List.take_add_one,hit,List.flatMap_append]
       refine (((hp2.same S8).same s9).same g10).append ?_
       simpa using hp9.same g10
      ·rw [List.length_append,Nat.succ_mul]
       lia
   ·rintro σ H2 ⟨fa,ys,v6,v7,v8,s2,hfa,e2,hp2,len2,rfl⟩
    have en : ((vs.length : Nat) : Int).toNat = its.length := by lia
    rw [en] at hp2 len2
    rw [List.take_length] at hp2
    refine ⟨_,rfl,q fa ys H2 s2 hfa e2 ?_ ?_⟩
    ·rw [hpl]
     exact hp2
    ·rw [Nat.pow_succ]
     have : its.length * 8 ^ m' ≤ 8 * 8 ^ m' := Nat.mul_le_mul_right _ (by lia)
     lia
  | @rows m' zk fs kk i0 g lk kK b1 b2 =>
   obtain ⟨vs,rfl,gg,hl8,ndk⟩ := rows_of' gv _ zk i0 rfl
   have hz : z = "each" := by
    by_cases c : z = "each"
    ·exact c
    ·unfold stepD at st
     rw [if_neg c] at st
     simp [fieldD] at st
   subst hz
   rw [step_rows] at st
   obtain rfl := Option.some.inj st
   have hpl : pl ("each" :: p) (.tup [.str "rows",.str zk,.tup [.str "record",.tup (fs.map prD)],.int i0]) (.tup [.str "rows",.tup vs]) = (vs.map fun v => (keyD v zk,v)).flatMap fun p0 => (pl p (.tup [.str "record",.tup (fs.map prD)]) p0.2).map (consW p0.1) := by
    show (if ("each" : Str) = "each" then _ else _) = _
    rw [if_pos rfl]
    rfl
   have lits : ((vs.map fun v => (keyD v zk,v))).length = vs.length := by simp
   generalize hits : (vs.map fun v => (keyD v zk,v)) = its at hpl lits
   refine iteN' ?_
   refine ⟨_,rfl,_,_,_,he1,rfl,rfl,fun v hv => ?_⟩
   refine ⟨v,vs,rfl,hv.d,_,rfl,by lia,by lia,for_range (lo := 0) (n := ((vs.length : Nat) : Int).toNat) (fun i σ H' => ∃ fa ys v6 v7 v8,Same H H' ∧ H fa = none ∧ H' fa = some (.lst ys) ∧ IsPs K H' ((its.take i).flatMap fun p0 => (pl p (.tup [.str "record",.tup (fs.map prD)]) p0.2).map (consW p0.1)) ys ∧ ys.length ≤ i * 8 ^ m' ∧ σ = [some x,some y,some u,some (.ref fa),none,none,v6,v7,v8])
    ⟨f0,[],none,none,none,S1,hf0H,F1,.nil,by simp,rfl⟩ ?_ ?_⟩
   ·rintro i σ H2 hi ⟨fa,ys,v6,v7,v8,s2,hfa,e2,hp2,len2,rfl⟩
    have hiv : i < vs.length := by lia
    obtain ⟨in0,hin⟩ : ∃ v,vs[i]? = some v := ⟨_,List.getElem?_eq_getElem hiv⟩
    have gin : GV (.tup [.str "record",.tup (fs.map prD)]) in0 := gg in0 (List.mem_of_getElem? hin)
    have hd2 := hd.same s2
    have he2 := he.same s2
    have hu2 := hu.same s2
    have ati : atI vs (0 + (i : Int)) = some in0 := by rw [Int.zero_add]; exact atI_nat hin
    refine ⟨_,rfl,_,rfl,_,_,_,hd2,rfl,rfl,fun v hv => ?_⟩
    obtain rfl := isStrV hv
    refine ⟨rfl,_,rfl,?_⟩
    obtain ⟨gs,rfl,en,gg0⟩ := rec_of' gin fs rfl
    obtain ⟨m'',em,gf,nd,hlf⟩ := rcd_of g
    obtain ⟨e9',l9',gv9⟩ := look_par en gg0 lk
    have lgs : gs.length = fs.length := by have := congrArg List.length en; simpa using this
    have hit : its[i]? = some (e9',.tup [.str "record",.tup (gs.map prD)]) := by
     rw [← hits,List.getElem?_map,hin]
     show some (keyD (.tup [.str "record",.tup (gs.map prD)]) zk,_) = _
     have ek : keyD (.tup [.str "record",.tup (gs.map prD)]) zk = e9' := by
      show (lookD (gs.map prD) zk).getD .non = e9'
      rw [lookD_map,l9']
      rfl
     rw [ek]
    refine iteY ?_
    refine ⟨_,rfl,_,_,_,he2,rfl,rfl,fun va hva => ?_⟩
    refine ⟨_,rfl,_,_,_,hva,rfl,ati,fun vb hvb => ?_⟩
    refine ⟨_,_,_,hvb,rfl,rfl,fun vc hvc => ?_⟩
    refine ⟨vc,gs,rfl,hvc,by rw [en]; exact nd,by lia,fun p7 H7 g27 dp => ?_⟩
    refine ⟨_,rfl,_,_,_,hd2.same g27,rfl,rfl,fun vd hvd => ?_⟩
    obtain rfl := isStrV hvd
    obtain ⟨kvs7,ep,k7⟩ := dp
    obtain ⟨v9',h9',hen⟩ := (k7 zk).2 e9' l9'
    refine ⟨p7,_,rfl,.inl ⟨kvs7,Sum.inr zk,.inl ep,rfl,h9'.symm⟩,?_⟩
    have S7 : Same H H7 := s2.trans g27
    have hd7 := hd.same S7
    have he7 := he.same S7
    have hu7 := hu.same S7
    refine ⟨_,rfl,_,rfl,_,_,_,hd7,rfl,rfl,fun v hv => ?_⟩
    obtain rfl := isStrV hv
    refine ⟨rfl,.inr ⟨_,rfl,_,_,rfl,rfl,_,_,_,hd7,rfl,(by rw [decide_eq_true rfl]; rfl),fun vk hvk => ?_⟩⟩
    refine ⟨_,rfl,_,_,_,he7,rfl,rfl,fun vt hvt => ?_⟩
    refine ⟨_,rfl,_,_,_,hvt,rfl,ati,fun vi hvi => ?_⟩
    refine ⟨_,rfl,_,rfl,_,hu7,fun v0 H0 g0 hv0 => ?_⟩
    rw [show List.map Dt.str (("each" : Str) :: p) = Dt.str ("each" : Str) :: p.map Dt.str from rfl,cut1] at hv0
    refine ⟨m',(.tup [.str "record",.tup (fs.map prD)]),_,p,vk,vi,v0,by lia,(by simp only [List.length_cons] at hp; lia),rfl,hvk.same g0,hvi.same g0,hv0,g,gin,ld',(by simp only [List.length_cons] at hl; lia),fun r8 ys8 H8 g8 hr8 e8 hp8 len8 => ?_⟩
    have S8 : Same H2 H8 := (g27.trans g0).trans g8
    have f8 := S8 _ _ e2
    have hy8 : IsP K H8 e9' v9' := (hen.same g0).same g8
    have p8 : 8 ^ m' ≤ 512 := Nat.pow_le_pow_right (by decide) (show m' ≤ 3 by lia)
    refine ⟨_,rfl,_,rfl,r8,rfl,⟨_,SqL.of e8⟩,fun l9 hl9 => ?_⟩
    refine comp_listR (K := K) (xs := ys8) (fun j zs σ H' => Same H8 H' ∧ H' l9 = some (.lst zs) ∧ IsPs K H' (((pl p (.tup [.str "record",.tup (fs.map prD)]) (.tup [.str "record",.tup (gs.map prD)])).take j).map (consW e9')) zs ∧ zs.length ≤ j ∧ ∃ v1 v2,σ = [v1,v2,some v9'])
     ⟨same_new hl9 _,upd_same,.nil,Nat.le_refl _,none,none,rfl⟩ (fun j zs σ H' _ pv => SqL.of (pv.1 _ _ e8)) ?_ ?_
    ·rintro j u9 zs σ H9 N hu9 ⟨s9,e9,hp9,len9,w1,w2,rfl⟩ next
     have hj : j < ys8.length := (List.getElem?_eq_some_iff.mp hu9).1
     obtain ⟨d9,hd9,hx9⟩ := hp8.get' hu9
     obtain ⟨w9,v9,rfl,lw9⟩ := pl_pair p (.tup [.str "record",.tup (fs.map prD)]) (.tup [.str "record",.tup (gs.map prD)]) d9 (List.mem_of_getElem? hd9)
     have hx10 := hx9.same s9
     obtain ⟨b9,zs9,rfl,hb9,pb9,rb9⟩ := hx10.unref
     cases rb9 with
     | @cons _ _ t1 _ t1p rb9 =>
     cases rb9 with
     | @cons _ _ t2 _ t2p rb9 =>
     cases rb9
     refine ⟨b9,_,rfl,hb9,rfl,_,_,rfl,_,_,rfl,rfl,?_⟩
     refine ⟨_,rfl,[e9'],.cons (hy8.same s9) .nil,(by show 1 ≤ sizeLine; decide),fun v10 H10 g10 hv10 => ?_⟩
     refine ⟨_,rfl,_,_,hv10,t1p.same g10,Nat.le_of_lt (small1000 (by simp only [List.length_cons,List.length_nil] at hl ⊢; lia)),fun v11 H11 g11 hv11 => ?_⟩
     refine ⟨_,rfl,[.tup ([e9'] ++ w9),v9],.cons hv11 (.cons ((t2p.same g10).same g11) .nil),(by show 2 ≤ sizeLine; decide),fun v12 H12 g12 hv12 => ?_⟩
     have S12 := (g10.trans g11).trans g12
     have f12 := S12 _ _ e9
     have b13 : But l9 H12 (upd H12 l9 (.lst (zs ++ [v12]))) := But.put
     refine ⟨f12,small1000 (by lia),next _ _ _ ⟨fun c o ec => ?_,upd_same,?_,?_,_,_,rfl⟩⟩
     ·rw [upd_ne (ne_of_none ec hl9)]
      exact S12 _ _ (s9 _ _ ec)
     ·rw [← take_next (consW e9') hd9]
      exact ((hp9.same S12).but f12 b13).append (.cons (hv12.but f12 b13) .nil)
     ·rw [List.length_append]; simp only [List.length_cons,List.length_nil]; lia
    ·rintro zs σ H9 ⟨s9,e9,hp9,len9,w1,w2,rfl⟩
     have el8 := hp8.length
     rw [← el8,List.take_length] at hp9
     have f9 := s9 _ _ f8
     refine ⟨fa,l9,ys,zs,rfl,rfl,SqL.of f9,SqL.of e9,?_,fun l10 hl10 => ?_⟩
     ·have c1 : i * 8 ^ m' ≤ 8 * 512 := Nat.mul_le_mul (by lia) p8
      exact Nat.le_trans (show ys.length + zs.length ≤ 4608 by lia) (by decide)
     ·have g10 := same_new hl10 (.lst (ys ++ zs))
      have S9 : Same H H9 := (s2.trans S8).trans s9
      refine ⟨l10,ys ++ zs,_,_,_,S9.trans g10,S9.free hl10,upd_same,?_,?_,rfl⟩
      ·rw [List.take_add_one,hit,List.flatMap_append]
       refine (((hp2.same S8).same s9).same g10).append ?_
       simpa using hp9.same g10
      ·rw [List.length_append,Nat.succ_mul]
       lia
   ·rintro σ H2 ⟨fa,ys,v6,v7,v8,s2,hfa,e2,hp2,len2,rfl⟩
    have en : ((vs.length : Nat) : Int).toNat = its.length := by lia
    rw [en] at hp2 len2
    rw [List.take_length] at hp2
    refine ⟨_,rfl,q fa ys H2 s2 hfa e2 ?_ ?_⟩
    ·rw [hpl]
     exact hp2
    ·rw [Nat.pow_succ]
     have : its.length * 8 ^ m' ≤ 8 * 8 ^ m' := Nat.mul_le_mul_right _ (by lia)
     lia
  | text _ _ _ => exact absurd st (by unfold stepD; split <;> simp [itemD,fieldD])
  | choice _ _ _ _ => exact absurd st (by unfold stepD; split <;> simp [itemD,fieldD] <;> exact fun c => absurd c (by decide))
  | number _ _ _ _ _ => exact absurd st (by unfold stepD; split <;> simp [itemD,fieldD] <;> exact fun c => absurd c (by decide))
theorem lplaces4 (T : Tx K mg) {f : Addr} {fd : FuncData} (D : Gn K mg "_law_places" s_law_places ["kind","value","path"] f fd) : FnOk P w K mg base CX0 4 f fd ["kind","value","path"] (splaces K 4) := by
 have w0 : FnOk P w K mg base CX0 0 f fd ["kind","value","path"] (splaces K 0) := fn_none fun vs H Q E z => by obtain ⟨m,_,_,_,_,_,_,_,e,_⟩ := z; exact absurd e (Nat.not_lt_zero _)
 exact ok_law_places T 3 D (ok_law_places T 2 D (ok_law_places T 1 D (ok_law_places T 0 D w0)))
noncomputable def whD (x : Dt) : Dt := match x with
 | .tup [w,_] => w
 | _ => x
noncomputable def sndD (x : Dt) : Dt := match x with
 | .tup [_,v] => v
 | _ => x
noncomputable def inD (d en : Dt) : Dt := match en with
 | .str z => ((fieldD d z).orElse fun _ => itemD d).getD .non
 | _ => (itemD d).getD .non
noncomputable def vatO : List Dt → Dt → Dt → Option Dt
 | [],_,e => some e
 | en :: w,d,e => ((entD d e).find? fun x => eqD (whD x) en).bind fun x => vatO w (inD d en) (sndD x)
theorem find_look {z : Str} {v : Dt} : ∀ {gs : List (Str × Dt)},lookS gs z = some v → (gs.map prD).find? (fun x => eqD (whD x) (.str z)) = some (.tup [.str z,v])
 | [],h => by simp [lookS] at h
 | g :: gs,h => by
  rw [List.map_cons]
  by_cases hz : g.1 = z
  ·have h' : lookS (g :: gs) z = some g.2 := by simp [lookS,hz]
   rw [h'] at h
   obtain rfl := Option.some.inj h
   rw [List.find?_cons_of_pos (by show eqD (.str g.1) (.str z) = true; rw [hz]; exact eqD_refl _)]
   show some (Dt.tup [.str g.1,g.2]) = _
   rw [hz]
  ·have h' : lookS (g :: gs) z = lookS gs z := by simp [lookS,hz]
   rw [h'] at h
   rw [List.find?_cons_of_neg (by show ¬ eqD (.str g.1) (.str z) = true; simp [eqD,hz])]
   exact find_look h
theorem find_its {p : Dt × Dt} : ∀ {its : List (Dt × Dt)},(its.map (·.1)).Nodup → (∀ p ∈ its,Sc p.1) → p ∈ its → (its.map fun p => Dt.tup [p.1,p.2]).find? (fun x => eqD (whD x) p.1) = some (.tup [p.1,p.2])
 | [],_,_,h => by cases h
 | q :: its,nd,sc,h => by
  have nd' := List.nodup_cons.mp (show (q.1 :: its.map (·.1)).Nodup from nd)
  rw [List.map_cons]
  rcases List.mem_cons.mp h with rfl | h
  ·exact List.find?_cons_of_pos (by show eqD p.1 p.1 = true; exact eqD_refl _)
  ·rw [List.find?_cons_of_neg ?_]
   ·exact find_its nd'.2 (fun p hp => sc p (List.mem_cons_of_mem _ hp)) h
   ·intro c
    have := Sc.eq (sc q List.mem_cons_self) (sc p (List.mem_cons_of_mem _ h)) (show eqD q.1 p.1 = true from c)
    exact nd'.1 (this ▸ List.mem_map_of_mem (f := (·.1)) h)
theorem filter_next {l : List Dt} {j : Nat} {x : Dt} (f : Dt → Bool) (h : l[j]? = some x) : (l.take (j + 1)).filter f = (l.take j).filter f ++ if f x then [x] else [] := by
 rw [List.take_add_one,h,List.filter_append]
 cases hx : f x <;> simp [hx]
inductive Sp3 (m : Nat) (d e : Dt) : Prop
 | rcd (fs gs : List (Str × Dt)) (m' : Nat) : d = .tup [.str "record",.tup (fs.map prD)] → e = .tup [.str "record",.tup (gs.map prD)] → entD d e = gs.map prD → gs.map (·.1) = fs.map (·.1) → (fs.map (·.1)).Nodup →
   (∀ (i : Nat) (f g : Str × Dt),fs[i]? = some f → gs[i]? = some g → GV f.2 g.2) → (∀ f ∈ fs,f.1 ≠ "each") → m = m' + 1 → (∀ f ∈ fs,GK m' f.2) → itemD d = none → (∀ n,wl (n + 1) d = ([],d) :: wRec n fs) → Sp3 m d e
 | its (its : List (Dt × Dt)) (k : Dt) (m' : Nat) : (∀ z,fieldD d z = none) → itemD d = some k → m = m' + 1 → GK m' k → itemsD d e = its → entD d e = its.map (fun p => .tup [p.1,p.2]) → (∀ p ∈ its,GV k p.2) → its.length ≤ 8 → (its.map (·.1)).Nodup → (∀ p ∈ its,Sc p.1) →
   (∀ n,wl (n + 1) d = ([],d) :: (wl n k).map (dn "each")) → (∀ fs,d ≠ .tup [.str "record",.tup fs]) → Sp3 m d e
 | leaf : entD d e = [] → (∀ z,stepD d z = none) → (∀ n,wl (n + 1) d = [([],d)]) → Sp3 m d e
theorem sp3 {m : Nat} {d e : Dt} (gk : GK m d) (gv : GV d e) : Sp3 m d e := by
 have gk0 := gk
 cases gk with
 | @rcd n' fs g nd nm hl =>
  obtain ⟨gs,rfl,en,gg⟩ := rec_of' gv fs rfl
  exact .rcd fs gs n' rfl rfl (entD_rcd _ _) en nd gg (fun f hf => (nm f hf).1) rfl g rfl fun n => wl_rcd n fs
 | @list n' k i g b1 b2 =>
  obtain ⟨vs,rfl,gg,h8⟩ := list_of' gv k i rfl
  rcases step_of (p := []) gk0 gv (Ents.list) step_list with ⟨_,_,_,c,_⟩ | ⟨_,w,rest,its,m',ed,hw,ik,em,gk',ei,el,g2,l8,nd,sc⟩
  ·simp at c
  ·refine .its its k m' (fun z => ?_) ik em gk' ei ((entD_list _ _ _).trans el) g2 l8 nd sc (fun n => wl_list n k i) (fun fs c => by simp at c)
   simp [fieldD]
 | @rows n' z fs kk i g lk kK b1 b2 =>
  obtain ⟨vs,rfl,gg,h8,_⟩ := rows_of' gv _ z i rfl
  rcases step_of (p := []) gk0 gv (Ents.rows) step_rows with ⟨_,_,_,c,_⟩ | ⟨_,w,rest,its,m',ed,hw,ik,em,gk',ei,el,g2,l8,nd,sc⟩
  ·simp at c
  ·refine .its its _ m' (fun z => ?_) ik em gk' ei ((entD_rows _ _ _ _).trans el) g2 l8 nd sc (fun n => wl_rows n z _ i) (fun fs c => by simp at c)
   simp [fieldD]
 | text =>
  refine .leaf ?_ (fun z => ?_) fun n => wl_text n _
  ·cases gv; rfl
  ·unfold stepD; split <;> rfl
 | choice =>
  refine .leaf ?_ (fun z => ?_) fun n => wl_choice n _
  ·refine entD_leaf gv ?_ ?_ ?_
   ·intro _ c; simp at c; exact absurd c.1 (by decide)
   ·intro _ _ c; simp at c
   ·intro _ _ _ c; simp at c
  ·unfold stepD; split
   ·rfl
   ·simp [fieldD]; exact fun c => absurd c (by decide)
 | number =>
  refine .leaf ?_ (fun z => ?_) fun n => wl_number n _ _
  ·cases gv; rfl
  ·unfold stepD; split
   ·simp [itemD]; exact fun c => absurd c (by decide)
   ·rfl
theorem lookS_mem {gs : List (Str × Dt)} {g : Str × Dt} (h : g ∈ gs) : ∃ v,lookS gs g.1 = some v := by
 cases e : lookS gs g.1 with
 | some v => exact ⟨v,rfl⟩
 | none =>
  unfold lookS at e
  rw [Option.map_eq_none_iff,List.find?_eq_none] at e
  exact absurd (e g h) (by simp)
theorem lookS_of {fs : List (Str × Dt)} {z : Str} {k : Dt} (h : lookS fs z = some k) : (z,k) ∈ fs := by
 unfold lookS at h
 obtain ⟨f,hf,rfl⟩ := Option.map_eq_some_iff.mp h
 have h1 := List.find?_some hf
 have h2 : f.1 = z := by simpa using h1
 subst h2
 exact List.mem_of_find?_eq_some hf
theorem inD_rcd {fs : List (Str × Dt)} {z : Str} {k : Dt} (h : lookS fs z = some k) : inD (.tup [.str "record",.tup (fs.map prD)]) (.str z) = k ∧ fieldD (.tup [.str "record",.tup (fs.map prD)]) z = some k := by
 have e : fieldD (.tup [.str "record",.tup (fs.map prD)]) z = some k := by
  show lookD (fs.map prD) z = some k
  rw [lookD_map]; exact h
 refine ⟨?_,e⟩
 show ((fieldD _ z).orElse _).getD .non = k
 rw [e]; rfl
theorem inD_its {d k en : Dt} (h : ∀ z,fieldD d z = none) (i : itemD d = some k) : inD d en = k := by
 unfold inD
 split
 ·rw [h,i]; rfl
 ·rw [i]; rfl
theorem vat_step {m : Nat} {d e en x : Dt} (gk : GK m d) (gv : GV d e) (sc : Sc en) (h : (entD d e).find? (fun x => eqD (whD x) en) = some x) :
  ∃ m' p,x = .tup [en,p] ∧ m = m' + 1 ∧ GK m' (inD d en) ∧ GV (inD d en) p ∧
   ((∃ fs z,d = .tup [.str "record",.tup fs] ∧ en = .str z ∧ fieldD d z = some (inD d en)) ∨ ((∀ fs,d ≠ .tup [.str "record",.tup fs]) ∧ itemD d = some (inD d en))) := by
 cases sp3 gk gv with
 | rcd fs gs m' ed ee ent eg nd gg nm em gf _ _ =>
  subst ed ee
  rw [ent] at h
  have hm := List.mem_of_find?_eq_some h
  have hx := List.find?_some h
  obtain ⟨g,hg,rfl⟩ := List.mem_map.mp hm
  have e1 : Dt.str g.1 = en := Sc.eq (.inr ⟨_,rfl⟩) sc (show eqD (.str g.1) en = true from hx)
  subst e1
  obtain ⟨v,lv⟩ := lookS_mem hg
  have nm1 : g.1 ∈ fs.map (·.1) := by rw [← eg]; exact List.mem_map_of_mem hg
  obtain ⟨f,hf,ef⟩ := List.mem_map.mp nm1
  obtain ⟨k,lk⟩ := lookS_mem hf
  rw [ef] at lk
  obtain ⟨v',lv',gv'⟩ := look_par eg gg lk
  rw [lv] at lv'
  obtain rfl := Option.some.inj lv'
  rw [find_look lv] at h
  have e2 := Option.some.inj h
  obtain ⟨i1,i2⟩ := inD_rcd lk
  refine ⟨m',v,e2.symm,em,?_,?_,.inl ⟨_,g.1,rfl,rfl,?_⟩⟩
  ·rw [i1]; exact gf (g.1,k) (lookS_of lk)
  ·rw [i1]; exact gv'
  ·rw [i1]; exact i2
 | its its k m' hf hi em gk' ei ent g2 l8 nd scs _ nr =>
  rw [ent] at h
  have hm := List.mem_of_find?_eq_some h
  have hx := List.find?_some h
  obtain ⟨p,hp,rfl⟩ := List.mem_map.mp hm
  have e1 : p.1 = en := Sc.eq (scs p hp) sc (show eqD p.1 en = true from hx)
  have e2 := inD_its (en := en) hf hi
  exact ⟨m',p.2,by rw [e1],em,by rw [e2]; exact gk',by rw [e2]; exact g2 p hp,.inr ⟨nr,by rw [e2]; exact hi⟩⟩
 | leaf ent _ _ => rw [ent] at h; cases h
theorem lead_cons {d k : Dt} {z : Str} {q : List Str} (h : stepD d z = some k) : leadD d (z :: q) = leadD k q := by
 show (stepD d z).bind _ = _
 rw [h]; rfl
theorem pl_vat : ∀ (q : List Str) (m : Nat) (d e : Dt),GK m d → GV d e → (leadD d q).isSome = true → ∀ x ∈ pl q d e,∃ w v,x = .tup [.tup w,v] ∧ vatO w d e = some v ∧ (∀ a ∈ w,Sc a) ∧ w.length = q.length
 | [],m,d,e,gk,gv,_,x,h => by
  obtain rfl := List.mem_singleton.mp (show x ∈ [Dt.tup [.tup [],e]] from h)
  exact ⟨[],e,rfl,rfl,(fun a ha => nomatch ha),rfl⟩
 | z :: q,m,d,e,gk,gv,ld,x,h => by
  obtain ⟨k,st,ld'⟩ := lead_step ld
  have h' : x ∈ if z = "each" then (itemsD d e).flatMap fun p => (pl q ((itemD d).getD .non) p.2).map (consW p.1) else (pl q ((fieldD d z).getD .non) (keyD e z)).map (consW (.str z)) := h
  cases sp3 gk gv with
  | rcd fs gs m' ed ee ent eg nd gg nm em gf hi _ =>
   have hz : z ≠ "each" := by
    rintro rfl
    unfold stepD at st
    rw [if_pos rfl,hi] at st
    cases st
   rw [if_neg hz] at h'
   have lk : lookS fs z = some k := by
    unfold stepD at st
    rw [if_neg hz,ed] at st
    have st' : lookD (fs.map prD) z = some k := st
    rw [lookD_map] at st'
    exact st'
   subst ed ee
   obtain ⟨v0,lv,gv0⟩ := look_par eg gg lk
   obtain ⟨i1,i2⟩ := inD_rcd lk
   have e2 : keyD (.tup [.str "record",.tup (gs.map prD)]) z = v0 := by
    show (lookD (gs.map prD) z).getD .non = v0
    rw [lookD_map,lv]; rfl
   rw [i2,e2] at h'
   obtain ⟨y,hy,rfl⟩ := List.mem_map.mp h'
   obtain ⟨w,v,rfl,hv,sc,lw⟩ := pl_vat q m' k v0 (gf (z,k) (lookS_of lk)) gv0 ld' y hy
   refine ⟨.str z :: w,v,rfl,?_,?_,by simp [lw]⟩
   ·show ((entD _ _).find? _).bind _ = _
    rw [ent,find_look lv]
    show vatO w (inD _ _) v0 = some v
    rw [i1]; exact hv
   ·intro a ha
    rcases List.mem_cons.mp ha with rfl | ha
    ·exact .inr ⟨_,rfl⟩
    ·exact sc a ha
  | its its k' m' hf hi em gk' ei ent g2 l8 nd scs _ nr =>
   have hz : z = "each" := by
    by_cases c : z = "each"
    ·exact c
    ·unfold stepD at st
     rw [if_neg c,hf] at st
     cases st
   rw [if_pos hz,ei,hi] at h'
   have ek : k = k' := by
    unfold stepD at st
    rw [if_pos hz,hi] at st
    exact (Option.some.inj st).symm
   subst ek
   obtain ⟨p,hp0,hp⟩ := List.mem_flatMap.mp h'
   obtain ⟨y,hy,rfl⟩ := List.mem_map.mp hp
   obtain ⟨w',v,rfl,hv,sc,lw⟩ := pl_vat q m' k p.2 gk' (g2 p hp0) ld' y hy
   refine ⟨p.1 :: w',v,rfl,?_,?_,by simp [lw]⟩
   ·show ((entD _ _).find? _).bind _ = _
    rw [ent,find_its nd scs hp0]
    show vatO w' (inD _ _) p.2 = some v
    rw [inD_its hf hi]; exact hv
   ·intro a ha
    rcases List.mem_cons.mp ha with rfl | ha
    ·exact scs p hp0
    ·exact sc a ha
  | leaf _ hs _ => rw [hs] at st; cases st
inductive Sk3 (m : Nat) (d : Dt) : Prop
 | rcd (fs : List (Str × Dt)) (m' : Nat) : d = .tup [.str "record",.tup (fs.map prD)] → (fs.map (·.1)).Nodup → (∀ f ∈ fs,f.1 ≠ "each") → m = m' + 1 → (∀ f ∈ fs,GK m' f.2) → (∀ n,wl (n + 1) d = ([],d) :: wRec n fs) → Sk3 m d
 | its (k : Dt) (m' : Nat) : itemD d = some k → m = m' + 1 → GK m' k → (∀ n,wl (n + 1) d = ([],d) :: (wl n k).map (dn "each")) → Sk3 m d
 | leaf : (∀ n,wl (n + 1) d = [([],d)]) → Sk3 m d
theorem sk3 {m : Nat} {d : Dt} (gk : GK m d) : Sk3 m d := by
 cases gk with
 | @rcd n' fs g nd nm hl => exact .rcd fs n' rfl nd (fun f hf => (nm f hf).1) rfl g fun n => wl_rcd n fs
 | @list n' k i g b1 b2 => exact .its k n' (by simp [itemD]) rfl g fun n => wl_list n k i
 | @rows n' z fs kk i g lk kK b1 b2 => exact .its _ n' (by simp [itemD]) rfl g fun n => wl_rows n z _ i
 | text => exact .leaf fun n => wl_text n _
 | choice => exact .leaf fun n => wl_choice n _
 | number => exact .leaf fun n => wl_number n _ _
theorem lead_wl : ∀ (n m : Nat) (d : Dt),GK m d → ∀ q ∈ wl n d,leadD d q.1 = some q.2
 | 0,m,d,_,q,h => nomatch h
 | n + 1,m,d,gk,q,h => by
  cases sk3 gk with
  | rcd fs m' ed nd nm em gf hw =>
   rw [hw] at h
   rcases List.mem_cons.mp h with rfl | h
   ·rfl
   ·obtain ⟨f,hf,hq⟩ := List.mem_flatMap.mp h
    obtain ⟨q',hq',rfl⟩ := List.mem_map.mp hq
    obtain ⟨i,hi'⟩ := List.getElem?_of_mem hf
    have lk := look_nd nd (show fs[i]? = some (f.1,f.2) from hi')
    have st : stepD d f.1 = some f.2 := by
     unfold stepD
     rw [if_neg (nm f hf),ed]
     exact (inD_rcd lk).2
    show leadD d (f.1 :: q'.1) = _
    rw [lead_cons st]
    exact lead_wl n m' f.2 (gf f hf) q' hq'
  | its k m' hi em gk' hw =>
   rw [hw] at h
   rcases List.mem_cons.mp h with rfl | h
   ·rfl
   ·obtain ⟨q',hq',rfl⟩ := List.mem_map.mp h
    have st : stepD d "each" = some k := by unfold stepD; rw [if_pos rfl]; exact hi
    show leadD d ("each" :: q'.1) = _
    rw [lead_cons st]
    exact lead_wl n m' k gk' q' hq'
  | leaf hw =>
   rw [hw] at h
   obtain rfl := List.mem_singleton.mp h
   rfl
theorem nodup_dn {z : Str} {l : List (List Str × Dt)} (h : (l.map (·.1)).Nodup) : ((l.map (dn z)).map (·.1)).Nodup := by
 have e : (l.map (dn z)).map (·.1) = (l.map (·.1)).map (z :: ·) := by rw [List.map_map,List.map_map]; rfl
 rw [e]
 exact List.Pairwise.map _ (fun a b n c => n (List.cons.inj c).2) h
theorem nodup_wl : ∀ (n m : Nat) (d : Dt),GK m d → ((wl n d).map (·.1)).Nodup
 | 0,m,d,_ => List.nodup_nil
 | n + 1,m,d,gk => by
  cases sk3 gk with
  | rcd fs m' ed nd nm em gf hw =>
   rw [hw,List.map_cons]
   refine List.nodup_cons.mpr ⟨fun h => ?_,?_⟩
   ·obtain ⟨q,hq,e⟩ := List.mem_map.mp h
    obtain ⟨f,hf,hq⟩ := List.mem_flatMap.mp hq
    obtain ⟨q',_,rfl⟩ := List.mem_map.mp hq
    cases e
   ·unfold wRec
    rw [List.map_flatMap]
    refine List.pairwise_flatMap.mpr ⟨fun f hf => nodup_dn (nodup_wl n m' f.2 (gf f hf)),?_⟩
    have nd' : fs.Pairwise fun a b => a.1 ≠ b.1 := List.pairwise_map.mp nd
    refine nd'.imp fun {a b} hab x hx y hy c => ?_
    obtain ⟨x',hx',rfl⟩ := List.mem_map.mp hx
    obtain ⟨y',hy',rfl⟩ := List.mem_map.mp hy
    obtain ⟨x2,_,rfl⟩ := List.mem_map.mp hx'
    obtain ⟨y2,_,rfl⟩ := List.mem_map.mp hy'
    exact hab (List.cons.inj c).1
  | its k m' hi em gk' hw =>
   rw [hw,List.map_cons]
   refine List.nodup_cons.mpr ⟨fun h => ?_,nodup_dn (nodup_wl n m' k gk')⟩
   obtain ⟨q,hq,e⟩ := List.mem_map.mp h
   obtain ⟨q',_,rfl⟩ := List.mem_map.mp hq
   cases e
  | leaf hw =>
   rw [hw]
   simp
theorem vat_pl : ∀ (w : List Dt) (m : Nat) (d e v : Dt),GK m d → GV d e → (∀ a ∈ w,Sc a) → vatO w d e = some v → ∃ q ∈ wl (m + 1) d,Dt.tup [.tup w,v] ∈ pl q.1 d e
 | [],m,d,e,v,gk,gv,_,h => by
  obtain rfl := Option.some.inj (show some e = some v from h)
  refine ⟨([],d),?_,List.mem_singleton.mpr rfl⟩
  cases sk3 gk with
  | rcd fs m' ed nd nm em gf hw => rw [hw]; exact List.mem_cons_self
  | its k m' hi em gk' hw => rw [hw]; exact List.mem_cons_self
  | leaf hw => rw [hw]; exact List.mem_cons_self
 | en :: w,m,d,e,v,gk,gv,sc,h => by
  obtain ⟨x,hx,h2⟩ := Option.bind_eq_some_iff.mp (show ((entD d e).find? fun x => eqD (whD x) en).bind (fun x => vatO w (inD d en) (sndD x)) = some v from h)
  obtain ⟨m',p,rfl,em,gk',gv',_⟩ := vat_step gk gv (sc en List.mem_cons_self) hx
  have h3 : vatO w (inD d en) p = some v := h2
  obtain ⟨q,hq,hp⟩ := vat_pl w m' (inD d en) p v gk' gv' (fun a ha => sc a (List.mem_cons_of_mem _ ha)) h3
  have xm := List.mem_of_find?_eq_some hx
  subst em
  cases sp3 gk gv with
  | rcd fs gs m2 ed ee ent eg nd gg nm em gf hi hw =>
   obtain rfl := Nat.succ.inj em
   rw [ent] at xm
   obtain ⟨g,hg,eg1⟩ := List.mem_map.mp xm
   have e1 : Dt.str g.1 = en ∧ g.2 = p := by simpa using eg1
   obtain ⟨rfl,rfl⟩ := e1
   have nm1 : g.1 ∈ fs.map (·.1) := by rw [← eg]; exact List.mem_map_of_mem hg
   obtain ⟨f,hf,ef⟩ := List.mem_map.mp nm1
   obtain ⟨i,hi'⟩ := List.getElem?_of_mem hf
   have lk := look_nd nd (show fs[i]? = some (f.1,f.2) from hi')
   rw [ef] at lk
   have ndg : (gs.map (·.1)).Nodup := by rw [eg]; exact nd
   obtain ⟨j,hj⟩ := List.getElem?_of_mem hg
   have lg := look_nd ndg (show gs[j]? = some (g.1,g.2) from hj)
   subst ed ee
   obtain ⟨i1,i2⟩ := inD_rcd lk
   rw [i1] at hq hp
   refine ⟨dn g.1 q,?_,?_⟩
   ·rw [hw]
    refine List.mem_cons_of_mem _ (List.mem_flatMap.mpr ⟨f,hf,?_⟩)
    rw [ef]
    exact List.mem_map_of_mem hq
   ·have hz : g.1 ≠ "each" := ef ▸ nm f hf
    show _ ∈ if g.1 = "each" then _ else _
    rw [if_neg hz,i2]
    have e2 : keyD (.tup [.str "record",.tup (gs.map prD)]) g.1 = g.2 := by
     show (lookD (gs.map prD) g.1).getD .non = g.2
     rw [lookD_map,lg]; rfl
    rw [e2]
    exact List.mem_map.mpr ⟨_,hp,rfl⟩
  | its its k m2 hf hi em gk2 ei ent g2 l8 nd scs hw nr =>
   obtain rfl := Nat.succ.inj em
   rw [inD_its hf hi] at hq hp
   rw [ent] at xm
   obtain ⟨y,hy,ey⟩ := List.mem_map.mp xm
   have e1 : y.1 = en ∧ y.2 = p := by simpa using ey
   refine ⟨dn "each" q,?_,?_⟩
   ·rw [hw]
    exact List.mem_cons_of_mem _ (List.mem_map_of_mem hq)
   ·show _ ∈ if ("each" : Str) = "each" then _ else _
    rw [if_pos rfl,ei,hi]
    refine List.mem_flatMap.mpr ⟨y,hy,?_⟩
    rw [e1.1,e1.2]
    exact List.mem_map.mpr ⟨_,hp,rfl⟩
  | leaf ent _ _ => rw [ent] at xm; cases xm
theorem pl_one : ∀ (q q' : List Str) (m : Nat) (d e : Dt),GK m d → GV d e → (leadD d q).isSome = true → (leadD d q').isSome = true → ∀ x ∈ pl q d e,∀ y ∈ pl q' d e,whD x = whD y → q = q'
 | [],q',m,d,e,gk,gv,ld,ld',x,hx,y,hy,exy => by
  obtain ⟨w,v,rfl,_,_,lw⟩ := pl_vat [] m d e gk gv ld x hx
  obtain ⟨w',v',rfl,_,_,lw'⟩ := pl_vat q' m d e gk gv ld' y hy
  have e1 : w = w' := by simpa [whD] using exy
  subst e1
  rw [lw] at lw'
  exact (List.length_eq_zero_iff.mp lw'.symm).symm
 | z :: q,q',m,d,e,gk,gv,ld,ld',x,hx,y,hy,exy => by
  cases q' with
  | nil =>
   obtain ⟨w,v,rfl,_,_,lw⟩ := pl_vat _ m d e gk gv ld x hx
   obtain ⟨w',v',rfl,_,_,lw'⟩ := pl_vat _ m d e gk gv ld' y hy
   have e1 : w = w' := by simpa [whD] using exy
   subst e1
   rw [lw] at lw'
   cases lw'
  | cons z' q' =>
   obtain ⟨k,st,l2⟩ := lead_step ld
   obtain ⟨k',st',l2'⟩ := lead_step ld'
   have h1 : x ∈ if z = "each" then (itemsD d e).flatMap fun p => (pl q ((itemD d).getD .non) p.2).map (consW p.1) else (pl q ((fieldD d z).getD .non) (keyD e z)).map (consW (.str z)) := hx
   have h2 : y ∈ if z' = "each" then (itemsD d e).flatMap fun p => (pl q' ((itemD d).getD .non) p.2).map (consW p.1) else (pl q' ((fieldD d z').getD .non) (keyD e z')).map (consW (.str z')) := hy
   cases sp3 gk gv with
   | rcd fs gs m' ed ee ent eg nd gg nm em gf hi _ =>
    have no : ∀ z k,stepD d z = some k → z ≠ "each" ∧ lookS fs z = some k := by
     intro z k st
     have hz : z ≠ "each" := by
      rintro rfl
      unfold stepD at st
      rw [if_pos rfl,hi] at st
      cases st
     refine ⟨hz,?_⟩
     unfold stepD at st
     rw [if_neg hz,ed] at st
     have st' : lookD (fs.map prD) z = some k := st
     rw [lookD_map] at st'
     exact st'
    obtain ⟨hz,lk⟩ := no z k st
    obtain ⟨hz',lk'⟩ := no z' k' st'
    rw [if_neg hz] at h1
    rw [if_neg hz'] at h2
    subst ed ee
    rw [(inD_rcd lk).2] at h1
    rw [(inD_rcd lk').2] at h2
    obtain ⟨v0,lv,gv0⟩ := look_par eg gg lk
    obtain ⟨v0',lv',gv0'⟩ := look_par eg gg lk'
    have ek : ∀ z v,lookS gs z = some v → keyD (.tup [.str "record",.tup (gs.map prD)]) z = v := by
     intro z v lv
     show (lookD (gs.map prD) z).getD .non = v
     rw [lookD_map,lv]; rfl
    rw [ek z v0 lv] at h1
    rw [ek z' v0' lv'] at h2
    obtain ⟨x1,hx1,rfl⟩ := List.mem_map.mp h1
    obtain ⟨y1,hy1,rfl⟩ := List.mem_map.mp h2
    have gk1 := gf (z,k) (lookS_of lk)
    obtain ⟨w,v,rfl,_⟩ := pl_vat q m' k v0 gk1 gv0 l2 x1 hx1
    obtain ⟨w',v',rfl,_⟩ := pl_vat q' m' k' v0' (gf (z',k') (lookS_of lk')) gv0' l2' y1 hy1
    have e1 : z = z' ∧ w = w' := by simpa [whD,consW] using exy
    obtain ⟨rfl,rfl⟩ := e1
    rw [lk] at lk'
    obtain rfl := Option.some.inj lk'
    rw [lv] at lv'
    obtain rfl := Option.some.inj lv'
    rw [pl_one q q' m' k v0 gk1 gv0 l2 l2' _ hx1 _ hy1 rfl]
   | its its kk m' hf hi em gk' ei ent g2 l8 nd scs _ nr =>
    have no : ∀ z k,stepD d z = some k → z = "each" ∧ kk = k := by
     intro z k st
     by_cases c : z = "each"
     ·refine ⟨c,?_⟩
      unfold stepD at st
      rw [if_pos c,hi] at st
      exact Option.some.inj st
     ·unfold stepD at st
      rw [if_neg c,hf] at st
      cases st
    obtain ⟨rfl,rfl⟩ := no z k st
    obtain ⟨rfl,rfl⟩ := no z' k' st'
    rw [if_pos rfl,ei,hi] at h1 h2
    obtain ⟨p,hp,h1⟩ := List.mem_flatMap.mp h1
    obtain ⟨p',hp',h2⟩ := List.mem_flatMap.mp h2
    obtain ⟨x1,hx1,rfl⟩ := List.mem_map.mp h1
    obtain ⟨y1,hy1,rfl⟩ := List.mem_map.mp h2
    obtain ⟨w,v,rfl,_⟩ := pl_vat q m' kk p.2 gk' (g2 p hp) l2 x1 hx1
    obtain ⟨w',v',rfl,_⟩ := pl_vat q' m' kk p'.2 gk' (g2 p' hp') l2' y1 hy1
    have e1 : p.1 = p'.1 ∧ w = w' := by simpa [whD,consW] using exy
    have ep : p = p' := by
     obtain ⟨i,hi1⟩ := List.getElem?_of_mem hp
     obtain ⟨j,hj1⟩ := List.getElem?_of_mem hp'
     have li := (List.getElem?_eq_some_iff.mp hi1).1
     have lj := (List.getElem?_eq_some_iff.mp hj1).1
     have eij : i = j := by
      refine (List.getElem?_inj (by rw [List.length_map]; exact li) nd).mp ?_
      rw [List.getElem?_map,List.getElem?_map,hi1,hj1]
      simp [e1.1]
     subst eij
     exact Option.some.inj (hi1.symm.trans hj1)
    subst ep
    rw [pl_one q q' m' kk p.2 gk' (g2 p hp) l2 l2' _ hx1 _ hy1 (by rw [e1.2]; rfl)]
   | leaf _ hs _ => rw [hs] at st; cases st
theorem pl_nodup : ∀ (q : List Str) (m : Nat) (d e : Dt),GK m d → GV d e → (leadD d q).isSome = true → (pl q d e).Pairwise fun x y => whD x ≠ whD y
 | [],m,d,e,gk,gv,ld => List.pairwise_singleton _ _
 | z :: q,m,d,e,gk,gv,ld => by
  obtain ⟨k,st,l2⟩ := lead_step ld
  show (if z = "each" then (itemsD d e).flatMap fun p => (pl q ((itemD d).getD .non) p.2).map (consW p.1) else (pl q ((fieldD d z).getD .non) (keyD e z)).map (consW (.str z))).Pairwise _
  have up : ∀ (a : Dt) (m' : Nat) (k v : Dt),GK m' k → GV k v → (leadD k q).isSome = true → ((pl q k v).map (consW a)).Pairwise fun x y => whD x ≠ whD y := by
   intro a m' k v gk gv ld
   refine List.pairwise_map.mpr (List.Pairwise.imp_of_mem (fun {x y} hx hy n => ?_) (pl_nodup q m' k v gk gv ld))
   obtain ⟨w,u,rfl,_⟩ := pl_vat q m' k v gk gv ld x hx
   obtain ⟨w',u',rfl,_⟩ := pl_vat q m' k v gk gv ld y hy
   intro c
   have e1 : w = w' := by simpa [whD,consW] using c
   exact n (by rw [e1]; rfl)
  cases sp3 gk gv with
  | rcd fs gs m' ed ee ent eg nd gg nm em gf hi _ =>
   have hz : z ≠ "each" := by
    rintro rfl
    unfold stepD at st
    rw [if_pos rfl,hi] at st
    cases st
   have lk : lookS fs z = some k := by
    unfold stepD at st
    rw [if_neg hz,ed] at st
    have st' : lookD (fs.map prD) z = some k := st
    rw [lookD_map] at st'
    exact st'
   rw [if_neg hz]
   subst ed ee
   obtain ⟨v0,lv,gv0⟩ := look_par eg gg lk
   have e2 : keyD (.tup [.str "record",.tup (gs.map prD)]) z = v0 := by
    show (lookD (gs.map prD) z).getD .non = v0
    rw [lookD_map,lv]; rfl
   rw [(inD_rcd lk).2,e2]
   exact up _ m' k v0 (gf (z,k) (lookS_of lk)) gv0 l2
  | its its kk m' hf hi em gk' ei ent g2 l8 nd scs _ nr =>
   have hz : z = "each" ∧ kk = k := by
    by_cases c : z = "each"
    ·refine ⟨c,?_⟩
     unfold stepD at st
     rw [if_pos c,hi] at st
     exact Option.some.inj st
    ·unfold stepD at st
     rw [if_neg c,hf] at st
     cases st
   obtain ⟨rfl,rfl⟩ := hz
   rw [if_pos rfl,ei,hi]
   refine List.pairwise_flatMap.mpr ⟨fun p hp => up _ m' kk p.2 gk' (g2 p hp) l2,?_⟩
   refine List.Pairwise.imp_of_mem (fun {p p'} hp hp' n x hx y hy c => ?_) (List.pairwise_map.mp nd)
   obtain ⟨x1,hx1,rfl⟩ := List.mem_map.mp hx
   obtain ⟨y1,hy1,rfl⟩ := List.mem_map.mp hy
   obtain ⟨w,v,rfl,_⟩ := pl_vat q m' kk p.2 gk' (g2 p hp) l2 x1 hx1
   obtain ⟨w',v',rfl,_⟩ := pl_vat q m' kk p'.2 gk' (g2 p' hp') l2 y1 hy1
   have e1 : p.1 = p'.1 ∧ w = w' := by simpa [whD,consW] using c
   exact n e1.1
  | leaf _ hs _ => rw [hs] at st; cases st
noncomputable def allP (n : Nat) (d e : Dt) : List Dt := (wl n d).flatMap fun q => pl q.1 d e
theorem allP_form {n m : Nat} {d e : Dt} (gk : GK m d) (gv : GV d e) {x : Dt} (h : x ∈ allP n d e) : ∃ w v,x = .tup [.tup w,v] ∧ vatO w d e = some v ∧ (∀ a ∈ w,Sc a) ∧ w.length ≤ m := by
 obtain ⟨q,hq,hx⟩ := List.mem_flatMap.mp h
 have ld : (leadD d q.1).isSome = true := by rw [lead_wl n m d gk q hq]; rfl
 obtain ⟨w,v,e1,e2,e3,e4⟩ := pl_vat q.1 m d e gk gv ld x hx
 exact ⟨w,v,e1,e2,e3,by rw [e4]; exact lead_len gk ld⟩
theorem allP_nodup {n m : Nat} {d e : Dt} (gk : GK m d) (gv : GV d e) : (allP n d e).Pairwise fun x y => whD x ≠ whD y := by
 refine List.pairwise_flatMap.mpr ⟨fun q hq => ?_,?_⟩
 ·exact pl_nodup q.1 m d e gk gv (by rw [lead_wl n m d gk q hq]; rfl)
 ·refine List.Pairwise.imp_of_mem (fun {q q'} hq hq' ne x hx y hy c => ?_) (List.pairwise_map.mp (nodup_wl n m d gk))
  exact ne (pl_one q.1 q'.1 m d e gk gv (by rw [lead_wl n m d gk q hq]; rfl) (by rw [lead_wl n m d gk q' hq']; rfl) x hx y hy c)
noncomputable def keyOf : Dt → Key
 | .int i => .inl i
 | .str z => .inr z
 | _ => .inl 0
theorem kDt_keyOf {a : Dt} (h : Sc a) : kDt (keyOf a) = a := by
 rcases h with ⟨i,rfl⟩ | ⟨s,rfl⟩ <;> rfl
theorem keys_back : ∀ {w : List Dt},(∀ a ∈ w,Sc a) → (w.map keyOf).map kDt = w
 | [],_ => rfl
 | a :: w,h => by
  rw [List.map_cons,List.map_cons,kDt_keyOf (h a List.mem_cons_self),keys_back fun b hb => h b (List.mem_cons_of_mem _ hb)]
theorem keys_inj {w w' : List Dt} (h : ∀ a ∈ w,Sc a) (h' : ∀ a ∈ w',Sc a) (e : w.map keyOf = w'.map keyOf) : w = w' := by
 rw [← keys_back h,e,keys_back h']
noncomputable def toKV (x : Dt) : List Key × Dt := match x with
 | .tup [.tup w,v] => (w.map keyOf,v)
 | _ => ([],.non)
theorem toKV_back : ∀ {l : List Dt},(∀ x ∈ l,∃ w v,x = Dt.tup [.tup w,v] ∧ ∀ a ∈ w,Sc a) → (l.map toKV).map (fun p => Dt.tup [.tup (p.1.map kDt),p.2]) = l
 | [],_ => rfl
 | x :: l,h => by
  obtain ⟨w,v,rfl,sc⟩ := h x List.mem_cons_self
  rw [List.map_cons,List.map_cons,toKV_back fun y hy => h y (List.mem_cons_of_mem _ hy)]
  show Dt.tup [.tup ((w.map keyOf).map kDt),v] :: l = _
  rw [keys_back sc]
theorem toKV_nodup {l : List Dt} (h : ∀ x ∈ l,∃ w v,x = Dt.tup [.tup w,v] ∧ ∀ a ∈ w,Sc a) (nd : l.Pairwise fun x y => whD x ≠ whD y) : ((l.map toKV).map (·.1)).Nodup := by
 refine List.pairwise_map.mpr (List.pairwise_map.mpr (List.Pairwise.imp_of_mem (fun {x y} hx hy n c => ?_) nd))
 obtain ⟨w,v,rfl,sc⟩ := h x hx
 obtain ⟨w',v',rfl,sc'⟩ := h y hy
 refine n ?_
 show Dt.tup w = Dt.tup w'
 rw [keys_inj sc sc' c]
theorem atT_mem : ∀ {kvs : List (List Key × Dt)} {k : List Key} {v : Dt},(kvs.map (·.1)).Nodup → (k,v) ∈ kvs → atKT kvs k = some v
 | p :: kvs,k,v,nd,h => by
  have nd' := List.nodup_cons.mp (show (p.1 :: kvs.map (·.1)).Nodup from nd)
  rcases List.mem_cons.mp h with rfl | h
  ·simp [atKT]
  ·have n : ¬ p.1 = k := fun c => nd'.1 (c ▸ List.mem_map_of_mem (f := (·.1)) h)
   have := atT_mem nd'.2 h
   unfold atKT at this ⊢
   rw [List.find?_cons_of_neg (by simpa using n)]
   exact this
theorem atT_of {kvs : List (List Key × Dt)} {k : List Key} {v : Dt} (h : atKT kvs k = some v) : (k,v) ∈ kvs := by
 unfold atKT at h
 obtain ⟨p,hp,rfl⟩ := Option.map_eq_some_iff.mp h
 have := List.find?_some hp
 have e : p.1 = k := by simpa using this
 subst e
 exact List.mem_of_find?_eq_some hp
theorem at_vat {m : Nat} {d e : Dt} (gk : GK m d) (gv : GV d e) {ws : List Dt} (sc : ∀ a ∈ ws,Sc a) : atKT ((allP (m + 1) d e).map toKV) (ws.map keyOf) = vatO ws d e := by
 have fm : ∀ x ∈ allP (m + 1) d e,∃ w v,x = Dt.tup [.tup w,v] ∧ ∀ a ∈ w,Sc a := fun x hx => by
  obtain ⟨w,v,e1,_,e3,_⟩ := allP_form gk gv hx
  exact ⟨w,v,e1,e3⟩
 cases hv : vatO ws d e with
 | some v =>
  obtain ⟨q,hq,hp⟩ := vat_pl ws m d e v gk gv sc hv
  refine atT_mem (toKV_nodup fm (allP_nodup gk gv)) ?_
  exact List.mem_map.mpr ⟨_,List.mem_flatMap.mpr ⟨q,hq,hp⟩,rfl⟩
 | none =>
  cases ha : atKT ((allP (m + 1) d e).map toKV) (ws.map keyOf) with
  | none => rfl
  | some v =>
   obtain ⟨x,hx,ex⟩ := List.mem_map.mp (atT_of ha)
   obtain ⟨w,v',rfl,h1,h2,_⟩ := allP_form gk gv hx
   have e1 : w.map keyOf = ws.map keyOf ∧ v' = v := by simpa [toKV] using ex
   rw [keys_inj h2 sc e1.1,hv] at h1
   cases h1
theorem enD_pair : ∀ (j : Nat) (vs : List Dt),∀ x ∈ enD j vs,∃ i b,x = .tup [.int i,b]
 | j,vs,x,h => by
  rw [enD_eq] at h
  obtain ⟨p,_,rfl⟩ := List.mem_map.mp h
  exact ⟨_,_,rfl⟩
theorem ent_pair {m : Nat} {d e : Dt} (gk : GK m d) (gv : GV d e) : (entD d e).length ≤ 8 ∧ ∀ x ∈ entD d e,∃ a b,x = .tup [a,b] ∧ Sc a := by
 cases gk with
 | @rcd n' fs g nd nm hl =>
  obtain ⟨gs,rfl,eg,gg⟩ := rec_of' gv fs rfl
  rw [entD_rcd]
  refine ⟨?_,fun x hx => ?_⟩
  ·have lgs : gs.length = fs.length := by have := congrArg List.length eg; simpa using this
   rw [List.length_map]; lia
  ·obtain ⟨g,_,rfl⟩ := List.mem_map.mp hx
   exact ⟨_,_,rfl,.inr ⟨_,rfl⟩⟩
 | @list n' k i g b1 b2 =>
  obtain ⟨vs,rfl,gg,h8⟩ := list_of' gv k i rfl
  rw [entD_list]
  refine ⟨?_,fun x hx => ?_⟩
  ·rw [enD_eq,List.length_map,List.length_zipIdx]; exact h8
  ·obtain ⟨i,b,rfl⟩ := enD_pair _ _ x hx
   exact ⟨_,_,rfl,.inl ⟨_,rfl⟩⟩
 | @rows n' z fs kk i g lk kK b1 b2 =>
  obtain ⟨vs,rfl,gg,h8,nd⟩ := rows_of' gv _ z i rfl
  cases sp3 (GK.rows (z := z) g lk kK b1 b2) gv with
  | rcd fs' gs' m' ed _ _ _ _ _ _ _ _ _ _ => simp at ed
  | its its k m' hf hi em gk' ei ent g2 l8 nd scs _ nr =>
   rw [ent]
   refine ⟨by rw [List.length_map]; exact l8,fun x hx => ?_⟩
   obtain ⟨p,hp,rfl⟩ := List.mem_map.mp hx
   exact ⟨_,_,rfl,scs p hp⟩
  | leaf ent _ _ => rw [ent]; exact ⟨Nat.zero_le _,fun x hx => nomatch hx⟩
 | _ =>
  rw [entD_leaf gv (by intro _ c; simp at c <;> exact absurd c.1 (by decide)) (by intro _ _ c; simp at c <;> exact absurd c.1 (by decide)) (by intro _ _ _ c; simp at c)]
  exact ⟨Nat.zero_le _,fun x hx => nomatch hx⟩
theorem Sc.dep {a : Dt} (h : Sc a) : a.dep = 0 := by rcases h with ⟨i,rfl⟩ | ⟨s,rfl⟩ <;> rfl
noncomputable def svat (K : PySem.W.Frag) : Sp := fun vs H Q _ => ∃ (m : Nat) (d e : Dt) (ws : List Dt) (x y u : V),m ≤ 3 ∧ vs = [x,y,u] ∧ IsP K H d x ∧ IsP K H e y ∧ IsP K H (.tup ws) u ∧ GK m d ∧ GV d e ∧ (∀ a ∈ ws,Sc a) ∧
 ∀ (H' : Hp),Same H H' → RetO K H' (vatO ws d e) Q
theorem ok_value_at (T : Tx K mg) {f : Addr} {fd : FuncData} (F : Gn K mg "value_at" s_value_at ["kind","value","where"] f fd) : FnOk P w K mg base CX0 3 f fd ["kind","value","where"] (svat K) := by
 obtain ⟨f_entries,fd_entries,D_entries⟩ := T.entries
 have G_entries := ok_entries (P := P) (w := w) (base := base) T D_entries
 obtain ⟨f_inner_kind,fd_inner_kind,D_inner_kind⟩ := T.inner_kind
 have G_inner_kind := ok_inner_kind (P := P) (w := w) (base := base) T D_inner_kind
 refine F.F.ok sc_value_at (fun vs H Q E h => ?_) (fun cdv A outer s H vs Q E hr h => ?_)
 ·obtain ⟨m,d,e,ws,x,y,u,_,rfl,_⟩ := h
  rfl
 obtain ⟨m,d,e,ws,x,y,u,h3,rfl,hd,he,hu,gk,gv,sc,q⟩ := h
 refine ⟨_,(@pss_cons _ _ _ _ _ (@ps_set _ _ 3 _ _ _ _ sc_value_at.nd rfl (Or.inl rfl) (pv 0) (by rfl) (by first | exact .inl rfl | exact .inr rfl | assumption)) (@pss_cons _ _ _ _ _ (@ps_set _ _ 4 _ _ _ _ sc_value_at.nd rfl (Or.inl rfl) (pv 1) (by rfl) (by first | exact .inl rfl | exact .inr rfl | assumption)) (@pss_cons _ _ _ _ _ (ps_for PassesOwn.never rfl (pi_tup (pv 2)) (pg_name (i := 5) sc_value_at.nd rfl (Or.inr rfl))
    (@pss_cons _ _ _ _ _ (ps_setCIf (j := 6) sc_value_at.nd rfl (Or.inl rfl) rfl (csR (sc := defScope s_value_at) (NL := ["own","inner"]) (N := ["kind","value","where","here_kind","here","entry","found"]) (ρ := [5]) (N' := ["own","inner","entry"]) rfl rfl rfl (by decide +kernel) (by decide +kernel) (by decide +kernel) rfl (by decide +kernel)) (pi_list (pe_call G_entries (hr.mono (by first | decide | lia)) rfl D_entries.m D_entries.F.kp D_entries.b .nil pass0 (@pa_cons _ _ _ _ _ (pv 3) (@pa_cons _ _ _ _ _ (pv 4) pa_nil (by rfl)) (by rfl)))) (fun _ _ _ _ => (pg_tupK (K := K) (n := 2) rfl rfl (pgs_cons (pg_name (i := 0) (show List.Nodup (α := Str) ["own","inner","entry"] by decide +kernel) rfl (Or.inl rfl)) (pgs_cons (pg_name (i := 1) (show List.Nodup (α := Str) ["own","inner","entry"] by decide +kernel) rfl (Or.inl rfl)) pgs_nil)))) (fun _ _ _ _ => (pt_cmpR (op_eqDK (K := K) rfl hr.units) (pv 0) (pv 2) (nomark _))) (fun _ _ _ _ => (pv 1))) (@pss_cons _ _ _ _ _ (@ps_if _ _ _ _ _ _ _ _ (pt_cmpR op_eq (pe_callB (call_len_seqN (K := K) rfl) rfl T.z_len PySem.boot_len (@pa_cons _ _ _ _ _ (pv 6) pa_nil (by rfl))) pe_int (nomark _)) (@pss_one _ _ _ (@ps_ret _ _ _ _ pe_non)) pss_nil) (@pss_cons _ _ _ _ _ (@ps_set _ _ 3 _ _ _ _ sc_value_at.nd rfl (Or.inl rfl) (pe_call G_inner_kind (hr.mono (by first | decide | lia)) rfl D_inner_kind.m D_inner_kind.F.kp D_inner_kind.b .nil pass0 (@pa_cons _ _ _ _ _ (pv 3) (@pa_cons _ _ _ _ _ (pv 5) pa_nil (by rfl)) (by rfl))) (by rfl) (by first | exact .inl rfl | exact .inr rfl | assumption)) (@pss_one _ _ _ (@ps_set _ _ 4 _ _ _ _ sc_value_at.nd rfl (Or.inl rfl) (@pe_ix _ _ _ _ _ _ _ ix_list (pv 6) pe_int (fun _ _ => rfl)) (by rfl) (by first | exact .inl rfl | exact .inr rfl | assumption))))))) (@pss_one _ _ _ (@ps_ret _ _ _ _ (pv 4)))))),?_⟩
 obtain ⟨a,xs,rfl,ha,pa,ra⟩ := hu.unref
 have el := ra.length
 refine ⟨_,rfl,_,rfl,_,rfl,a,rfl,⟨xs,ha⟩,for_tup (xs := xs) (fun i σ H' => ∃ mk dk ek xk yk v5 v6,Same H H' ∧ mk ≤ 3 ∧ IsP K H' dk xk ∧ IsP K H' ek yk ∧ GK mk dk ∧ GV dk ek ∧ vatO (ws.drop i) dk ek = vatO ws d e ∧ σ = [some x,some y,some (.ref a),some xk,some yk,v5,v6])
  ⟨m,d,e,x,y,none,none,Same.refl _,h3,hd,he,gk,gv,rfl,rfl⟩ (fun i σ H' _ pv => by
   obtain ⟨_,_,_,_,_,_,_,s,_⟩ := pv
   exact s.tup ha) ?_ ?_⟩
 ·rintro i vi σ H1 hvi ⟨mk,dk,ek,xk,yk,v5,v6,s1,hm,hdk,hek,gk1,gv1,hvk,rfl⟩
  obtain ⟨en,hen,hx⟩ := ra.get' hvi
  have hx1 := hx.same s1
  have hi : i < ws.length := (List.getElem?_eq_some_iff.mp hen).1
  have sce : Sc en := sc en (List.mem_of_getElem? hen)
  have edr : ws.drop i = en :: ws.drop (i + 1) := by
   rw [List.drop_eq_getElem_cons hi]
   congr 1
   have := (List.getElem?_eq_some_iff.mp hen).2
   exact this
  rw [edr] at hvk
  have hvk' : ((entD dk ek).find? fun x => eqD (whD x) en).bind (fun x => vatO (ws.drop (i + 1)) (inD dk en) (sndD x)) = vatO ws d e := hvk
  obtain ⟨l8,prs⟩ := ent_pair gk1 gv1
  refine ⟨_,rfl,_,rfl,_,dk,ek,xk,yk,rfl,hdk,hek,gk1,gv1,fun r2 ys2 H2 g2 hr2 e2 hp2 => ?_⟩
  have el2 := hp2.length
  refine ⟨r2,rfl,⟨_,SqL.of e2⟩,fun l3 hl3 => ?_⟩
  refine comp_listR (K := K) (xs := ys2) (fun j zs σ H' => Same H2 H' ∧ H' l3 = some (.lst zs) ∧ IsPs K H' ((((entD dk ek).take j).filter fun x => eqD (whD x) en).map sndD) zs ∧ zs.length ≤ j ∧ ∃ v1 v2,σ = [v1,v2,some vi])
   ⟨same_new hl3 _,upd_same,.nil,Nat.le_refl _,none,none,rfl⟩ (fun j zs σ H' _ pv => SqL.of (pv.1 _ _ e2)) ?_ ?_
  ·rintro j u9 zs σ H9 N hu9 ⟨s9,e9,hp9,len9,w1,w2,rfl⟩ next
   have hj : j < ys2.length := (List.getElem?_eq_some_iff.mp hu9).1
   obtain ⟨d9,hd9,hx9⟩ := hp2.get' hu9
   obtain ⟨a9,v9,rfl,da9⟩ := prs d9 (List.mem_of_getElem? hd9)
   obtain ⟨b9,zs9,rfl,hb9,pb9,rb9⟩ := (hx9.same s9).unref
   cases rb9 with
   | @cons _ _ t1 _ t1p rb9 =>
   cases rb9 with
   | @cons _ _ t2 _ t2p rb9 =>
   cases rb9
   refine ⟨b9,_,rfl,hb9,rfl,_,_,rfl,_,_,rfl,rfl,?_⟩
   refine ⟨_,rfl,_,rfl,a9,en,t1p.d,((hx1.same g2).same s9).d,by rw [da9.dep]; decide,_,rfl,?_⟩
   have fn := filter_next (fun x => eqD (whD x) en) hd9
   refine ite2 (fun c1 => ?_) (fun c1 => ?_)
   ·have c1' : eqD (whD (.tup [a9,v9])) en = true := c1
    rw [if_pos c1'] at fn
    have b13 : But l3 H9 (upd H9 l3 (.lst (zs ++ [t2]))) := But.put
    refine ⟨_,rfl,e9,small1000 (by lia),next _ _ _ ⟨fun c o ec => ?_,upd_same,?_,?_,_,_,rfl⟩⟩
    ·rw [upd_ne (ne_of_none ec hl3)]
     exact s9 _ _ ec
    ·rw [fn,List.map_append]
     exact (hp9.but e9 b13).append (.cons (t2p.but e9 b13) .nil)
    ·rw [List.length_append]; simp only [List.length_cons,List.length_nil]; lia
   ·have c1' : ¬ eqD (whD (.tup [a9,v9])) en = true := c1
    rw [if_neg c1',List.append_nil] at fn
    refine next _ _ _ ⟨s9,e9,?_,by lia,_,_,rfl⟩
    rw [fn]
    exact hp9
  ·rintro zs σ H9 ⟨s9,e9,hp9,len9,w1,w2,rfl⟩
   rw [← el2,List.take_length] at hp9
   have S9 := g2.trans s9
   have lz : zs.length ≤ 8 := by lia
   have hh : ((entD dk ek).filter fun x => eqD (whD x) en).head? = (entD dk ek).find? fun x => eqD (whD x) en := List.head?_filter ..
   cases hfl : (entD dk ek).filter fun x => eqD (whD x) en with
   | nil =>
    rw [hfl] at hh hp9
    cases hp9
    rw [← hh] at hvk'
    have q9 := q H9 (s1.trans S9)
    rw [← (show none = vatO ws d e from hvk')] at q9
    exact ⟨_,rfl,l3,_,rfl,.inl (SqL.of e9),rfl,_,rfl,iteY q9⟩
   | cons b0 r0 =>
   rw [hfl] at hh hp9
   rw [← hh] at hvk'
   have fnd : (entD dk ek).find? (fun x => eqD (whD x) en) = some b0 := hh.symm
   obtain ⟨m',p,rfl,em,gk',gv',ink⟩ := vat_step gk1 gv1 sce fnd
   have hvk2 : vatO (ws.drop (i + 1)) (inD dk en) p = vatO ws d e := hvk'
   rw [List.map_cons] at hp9
   cases hp9 with
   | @cons _ _ z0 zs0 z0p rb0 =>
   refine ⟨_,rfl,l3,_,rfl,.inl (SqL.of e9),rfl,_,rfl,iteN ?_ ?_⟩
   ·intro c
    have := V.int.inj c
    rw [List.length_cons] at this
    lia
   have at3 : atI (z0 :: zs0) ((0 : Nat) : Int) = some z0 := atI_nat (by simp)
   have z0p' : IsP K H9 p z0 := z0p
   rcases ink with ⟨fs,z,ed,ez,fd1⟩ | ⟨nr,fd1⟩
   ·subst ez
    obtain rfl := isStrV hx1
    refine ⟨_,rfl,_,rfl,_,dk,xk,_,rfl,hdk.same S9,gk1,.inl ⟨fs,z,ed,rfl,?_⟩⟩
    rw [fd1]
    intro vk hvk3
    exact ⟨_,rfl,l3,_,_,_,rfl,rfl,SqL.of e9,at3,m',inD dk (.str z),p,vk,z0,_,_,s1.trans S9,by lia,hvk3,z0p',gk',gv',hvk2,rfl⟩
   ·refine ⟨_,rfl,_,rfl,_,dk,xk,_,rfl,hdk.same S9,gk1,.inr ⟨nr,?_⟩⟩
    rw [fd1]
    intro vk hvk3
    exact ⟨_,rfl,l3,_,_,_,rfl,rfl,SqL.of e9,at3,m',inD dk en,p,vk,z0,_,_,s1.trans S9,by lia,hvk3,z0p',gk',gv',hvk2,rfl⟩
 ·rintro σ H1 ⟨mk,dk,ek,xk,yk,v5,v6,s1,hm,hdk,hek,gk1,gv1,hvk,rfl⟩
  rw [← el,List.drop_length] at hvk
  have q1 := q H1 s1
  rw [← (show some ek = vatO ws d e from hvk)] at q1
  exact ⟨_,rfl,q1 yk hek⟩
noncomputable def stepsV : List V := [.int 0,.int 1,.int (-1),.int (10 ^ (30 : Int).toNat),.int 7,.str "a",.str "b",.str "0",.str "each",.str "id",.str "",.str "zz",.int (-3),.int 2]
theorem steps_eq : HO.lst [.int 0,.int 1,.int (-1),.int (10 ^ (30 : Int).toNat),.int 7,.str "a",.str "b",.str "0",.str "each",.str "id",.str "",.str "zz",.int (-3),.int 2] = HO.lst stepsV := rfl
theorem steps_sc {v : V} (h : v ∈ stepsV) : ∃ d,Sc d ∧ ∀ H : Hp,IsP K H d v := by
 unfold stepsV at h
 simp only [List.mem_cons,List.not_mem_nil,or_false] at h
 rcases h with rfl | rfl | rfl | rfl | rfl | rfl | rfl | rfl | rfl | rfl | rfl | rfl | rfl | rfl
 all_goals first | exact ⟨_,.inl ⟨_,rfl⟩,fun _ => .int⟩ | exact ⟨_,.inr ⟨_,rfl⟩,fun _ => .str⟩
noncomputable def sodd (K : PySem.W.Frag) : Sp := fun vs H Q _ => ∃ (r : Addr) (c : Int) (ws : List Dt) (x : V),vs = [x,.ref r] ∧ H r = some (.lst [.int c]) ∧ IsP K H (.tup ws) x ∧ (∀ a ∈ ws,Sc a) ∧ ws.length ≤ 3 ∧
 ∀ (ws' : List Dt) (v : V) (c' : Int) (H' : Hp),But r H H' → H' r = some (.lst [.int c']) → IsP K H' (.tup ws') v → (∀ a ∈ ws',Sc a) → Q v H'
theorem ok_law_odd (T : Tx K mg) {f : Addr} {fd : FuncData} (F : Gn K mg "_law_odd" s_law_odd ["where","row"] f fd) : FnOk P w K mg base CX0 2 f fd ["where","row"] (sodd K) := by
 obtain ⟨f_law_digit,fd_law_digit,D_law_digit⟩ := T.law_digit
 have G_law_digit := ok_law_digit (P := P) (w := w) (base := base) T D_law_digit
 refine F.F.ok sc_law_odd (fun vs H Q E h => ?_) (fun cdv A outer s H vs Q E hr h => ?_)
 ·obtain ⟨r,c,ws,x,rfl,_⟩ := h
  rfl
 obtain ⟨r,c,ws,x,rfl,hr0,hx,sc,l3,q⟩ := h
 refine ⟨_,(@pss_cons _ _ _ _ _ (@ps_set _ _ 2 _ _ _ _ sc_law_odd.nd rfl (Or.inl rfl) (@pe_lst _ _ _ _ (@pa_cons _ _ _ _ _ pe_int (@pa_cons _ _ _ _ _ pe_int (@pa_cons _ _ _ _ _ (@pe_un _ _ _ _ _ _ un_neg pe_int) (@pa_cons _ _ _ _ _ (@pe_op _ _ _ _ _ _ _ _ op_pow pe_int pe_int) (@pa_cons _ _ _ _ _ pe_int (@pa_cons _ _ _ _ _ pe_str (@pa_cons _ _ _ _ _ pe_str (@pa_cons _ _ _ _ _ pe_str (@pa_cons _ _ _ _ _ pe_str (@pa_cons _ _ _ _ _ pe_str (@pa_cons _ _ _ _ _ pe_str (@pa_cons _ _ _ _ _ pe_str (@pa_cons _ _ _ _ _ (@pe_un _ _ _ _ _ _ un_neg pe_int) (@pa_cons _ _ _ _ _ pe_int pa_nil (by rfl)) (by rfl)) (by rfl)) (by rfl)) (by rfl)) (by rfl)) (by rfl)) (by rfl)) (by rfl)) (by rfl)) (by rfl)) (by rfl)) (by rfl)) (by rfl))) (by rfl) (by first | exact .inl rfl | exact .inr rfl | assumption)) (@pss_cons _ _ _ _ _ (@ps_set _ _ 3 _ _ _ _ sc_law_odd.nd rfl (Or.inl rfl) (@pe_ix _ _ _ _ _ _ _ ix_list (pv 2) (pe_call G_law_digit (hr.mono (by first | decide | lia)) rfl D_law_digit.m D_law_digit.F.kp D_law_digit.b .nil pass0 (@pa_cons _ _ _ _ _ (pv 1) (@pa_cons _ _ _ _ _ pe_int pa_nil (by rfl)) (by rfl))) (fun _ _ => rfl)) (by rfl) (by first | exact .inl rfl | exact .inr rfl | assumption)) (@pss_cons _ _ _ _ _ (@ps_set _ _ 4 _ _ _ _ sc_law_odd.nd rfl (Or.inl rfl) (pe_call G_law_digit (hr.mono (by first | decide | lia)) rfl D_law_digit.m D_law_digit.F.kp D_law_digit.b .nil pass0 (@pa_cons _ _ _ _ _ (pv 1) (@pa_cons _ _ _ _ _ (@pe_op _ _ _ _ _ _ _ _ op_add (pe_callB call_lenD rfl T.z_len PySem.boot_len (@pa_cons _ _ _ _ _ (pv 0) pa_nil (by rfl))) pe_int) pa_nil (by rfl)) (by rfl))) (by rfl) (by first | exact .inl rfl | exact .inr rfl | assumption)) (@pss_cons _ _ _ _ _ (@ps_set _ _ 5 _ _ _ _ sc_law_odd.nd rfl (Or.inl rfl) (pe_call G_law_digit (hr.mono (by first | decide | lia)) rfl D_law_digit.m D_law_digit.F.kp D_law_digit.b .nil pass0 (@pa_cons _ _ _ _ _ (pv 1) (@pa_cons _ _ _ _ _ pe_int pa_nil (by rfl)) (by rfl))) (by rfl) (by first | exact .inl rfl | exact .inr rfl | assumption)) (@pss_cons _ _ _ _ _ (@ps_if _ _ _ _ _ _ _ _ (pt_cmpR op_eq (pv 5) pe_int (nomark _)) (@pss_one _ _ _ (@ps_ret _ _ _ _ (@pe_op _ _ _ _ _ _ _ _ op_catP (@pe_op _ _ _ _ _ _ _ _ op_catP (pe_slice (sl_tupPN (K := K) rfl) (pv 0) po_none (po_some (pv 4))) (@pe_tupP _ _ _ _ _ (@pa_cons _ _ _ _ _ (pv 3) pa_nil (by rfl)))) (pe_slice (sl_tupPN (K := K) rfl) (pv 0) (po_some (pv 4)) po_none)))) pss_nil) (@pss_cons _ _ _ _ _ (@ps_if _ _ _ _ _ _ _ _ (pt_cmpR op_eq (pv 5) pe_int (nomark _)) (@pss_one _ _ _ (@ps_ret _ _ _ _ (@pe_op _ _ _ _ _ _ _ _ op_catP (@pe_op _ _ _ _ _ _ _ _ op_catP (pe_slice (sl_tupPN (K := K) rfl) (pv 0) po_none (po_some (pv 4))) (@pe_tupP _ _ _ _ _ (@pa_cons _ _ _ _ _ (pv 3) pa_nil (by rfl)))) (pe_slice (sl_tupPN (K := K) rfl) (pv 0) (po_some (@pe_op _ _ _ _ _ _ _ _ op_add (pv 4) pe_int)) po_none)))) pss_nil) (@pss_cons _ _ _ _ _ (@ps_if _ _ _ _ _ _ _ _ (pt_cmpR op_eq (pv 5) pe_int (nomark _)) (@pss_one _ _ _ (@ps_ret _ _ _ _ (@pe_op _ _ _ _ _ _ _ _ op_catP (pe_slice (sl_tupPN (K := K) rfl) (pv 0) po_none (po_some (pv 4))) (pe_slice (sl_tupPN (K := K) rfl) (pv 0) (po_some (@pe_op _ _ _ _ _ _ _ _ op_add (pv 4) pe_int)) po_none)))) pss_nil) (@pss_one _ _ _ (@ps_ret _ _ _ _ (@pe_op _ _ _ _ _ _ _ _ op_catP (pv 0) (@pe_tupP _ _ _ _ _ (@pa_cons _ _ _ _ _ (pv 3) (@pa_cons _ _ _ _ _ (@pe_ix _ _ _ _ _ _ _ ix_list (pv 2) (pe_call G_law_digit (hr.mono (by first | decide | lia)) rfl D_law_digit.m D_law_digit.F.kp D_law_digit.b .nil pass0 (@pa_cons _ _ _ _ _ (pv 1) (@pa_cons _ _ _ _ _ pe_int pa_nil (by rfl)) (by rfl))) (fun _ _ => rfl)) pa_nil (by rfl)) (by rfl))))))))))))),?_⟩
 refine ⟨_,rfl,_,_,rfl,rfl,⟨by decide,by decide,by decide⟩,_,rfl,(by show 14 ≤ sizeLine; decide),fun l hl => ?_⟩
 rw [steps_eq]
 have nrl : r ≠ l := ne_of_none hr0 hl
 have g0 := same_new hl (.lst stepsV)
 obtain ⟨d0,d1⟩ := mod_lt c (m := 14) (by decide)
 obtain ⟨v1,m1,e1⟩ := pick (xs := stepsV) d0 d1
 obtain ⟨t1,sc1,ht1⟩ := steps_sc (K := K) m1
 have H1r : (upd H l (.lst stepsV)) r = some (.lst [.int c]) := g0 _ _ hr0
 refine ⟨_,rfl,_,rfl,r,c,14,rfl,H1r,by decide,by decide,l,stepsV,_,_,rfl,rfl,SqL.of (by rw [upd_ne nrl.symm]; exact upd_same),e1,?_⟩
 have hx2 : IsP K (upd (upd H l (.lst stepsV)) r (.lst [.int (c / 14)])) (.tup ws) x := (hx.same g0).but H1r But.put
 have B2 : But r H (upd (upd H l (.lst stepsV)) r (.lst [.int (c / 14)])) := (But.same g0).trans But.put
 have L2' : (upd (upd H l (.lst stepsV)) r (.lst [.int (c / 14)])) l = some (.lst stepsV) := by rw [upd_ne nrl.symm]; exact upd_same
 have R2 : (upd (upd H l (.lst stepsV)) r (.lst [.int (c / 14)])) r = some (.lst [.int (c / 14)]) := upd_same
 generalize upd (upd H l (.lst stepsV)) r (.lst [.int (c / 14)]) = H2 at hx2 B2 L2' R2 ⊢
 generalize c / 14 = c2 at R2 ⊢
 refine ⟨_,rfl,_,rfl,x,ws,rfl,hx2.d,_,_,rfl,rfl,r,c2,_,rfl,R2,by lia,by lia,?_⟩
 obtain ⟨a0,a1⟩ := mod_lt c2 (m := (ws.length : Int) + 1) (by lia)
 generalize c2 % ((ws.length : Int) + 1) = at' at a0 a1 ⊢
 refine ⟨_,rfl,r,_,4,rfl,upd_same,by decide,by decide,?_⟩
 have hx3 := (hx2.but R2 (But.put (o := .lst [.int (c2 / ((ws.length : Int) + 1))]))).but upd_same (But.put (o := .lst [.int (c2 / ((ws.length : Int) + 1) / 4)]))
 have B3 : But r H (upd (upd H2 r (.lst [.int (c2 / ((ws.length : Int) + 1))])) r (.lst [.int (c2 / ((ws.length : Int) + 1) / 4)])) := (B2.trans But.put).trans But.put
 have L3 : (upd (upd H2 r (.lst [.int (c2 / ((ws.length : Int) + 1))])) r (.lst [.int (c2 / ((ws.length : Int) + 1) / 4)])) l = some (.lst stepsV) := by rw [upd_ne nrl.symm,upd_ne nrl.symm]; exact L2'
 have R3 : (upd (upd H2 r (.lst [.int (c2 / ((ws.length : Int) + 1))])) r (.lst [.int (c2 / ((ws.length : Int) + 1) / 4)])) r = some (.lst [.int (c2 / ((ws.length : Int) + 1) / 4)]) := upd_same
 generalize upd (upd H2 r (.lst [.int (c2 / ((ws.length : Int) + 1))])) r (.lst [.int (c2 / ((ws.length : Int) + 1) / 4)]) = H3 at hx3 B3 L3 R3 ⊢
 generalize c2 / ((ws.length : Int) + 1) / 4 = c3 at R3 ⊢
 have mc : ∀ lo hi,∀ a ∈ cutD ws lo hi,Sc a := fun lo hi a ha => sc a (List.mem_of_mem_drop (List.mem_of_mem_take ha))
 have lc : ∀ lo hi,(cutD ws lo hi).length ≤ 3 := fun lo hi => by
  unfold L2.cutD
  rw [List.length_take,List.length_drop]
  lia
 have sc2 : ∀ {l m : List Dt},(∀ a ∈ l,Sc a) → (∀ a ∈ m,Sc a) → ∀ a ∈ l ++ m,Sc a := fun h1 h2 a ha => (List.mem_append.mp ha).elim (h1 a) (h2 a)
 have sc1' : ∀ a ∈ [t1],Sc a := fun a ha => by rw [List.mem_singleton.mp ha]; exact sc1
 refine ⟨_,rfl,rfl,_,rfl,ite2 (fun w1 => ?_) (fun w1 => ?_)⟩
 ·refine ⟨_,rfl,_,rfl,_,rfl,_,hx3,fun v4 H4 g4 hv4 => ?_⟩
  refine ⟨_,rfl,[t1],.cons (ht1 _) .nil,(by show 1 ≤ sizeLine; decide),fun v5 H5 g5 hv5 => ?_⟩
  refine ⟨_,_,hv4.same g5,hv5,Nat.le_of_lt (small1000 (by have := lc none (some at'); simp only [List.length_cons,List.length_nil]; lia)),fun v6 H6 g6 hv6 => ?_⟩
  have S6 := (g4.trans g5).trans g6
  refine ⟨_,rfl,_,rfl,_,rfl,_,hx3.same S6,fun v7 H7 g7 hv7 => ?_⟩
  refine ⟨_,_,hv6.same g7,hv7,Nat.le_of_lt (small1000 (by have := lc none (some at'); have := lc (some at') none; rw [List.length_append]; simp only [List.length_cons,List.length_nil]; lia)),fun v8 H8 g8 hv8 => ?_⟩
  have S8 := (S6.trans g7).trans g8
  exact q _ v8 _ H8 (B3.trans (But.same S8)) (S8 _ _ R3) hv8 (sc2 (sc2 (mc _ _) sc1') (mc _ _))
 refine ⟨_,rfl,rfl,_,rfl,ite2 (fun w2 => ?_) (fun w2 => ?_)⟩
 ·refine ⟨_,rfl,_,rfl,_,rfl,_,hx3,fun v4 H4 g4 hv4 => ?_⟩
  refine ⟨_,rfl,[t1],.cons (ht1 _) .nil,(by show 1 ≤ sizeLine; decide),fun v5 H5 g5 hv5 => ?_⟩
  refine ⟨_,_,hv4.same g5,hv5,Nat.le_of_lt (small1000 (by have := lc none (some at'); simp only [List.length_cons,List.length_nil]; lia)),fun v6 H6 g6 hv6 => ?_⟩
  have S6 := (g4.trans g5).trans g6
  refine ⟨_,rfl,_,rfl,_,_,rfl,rfl,_,rfl,_,hx3.same S6,fun v7 H7 g7 hv7 => ?_⟩
  refine ⟨_,_,hv6.same g7,hv7,Nat.le_of_lt (small1000 (by have := lc none (some at'); have := lc (some (at' + 1)) none; rw [List.length_append]; simp only [List.length_cons,List.length_nil]; lia)),fun v8 H8 g8 hv8 => ?_⟩
  have S8 := (S6.trans g7).trans g8
  exact q _ v8 _ H8 (B3.trans (But.same S8)) (S8 _ _ R3) hv8 (sc2 (sc2 (mc _ _) sc1') (mc _ _))
 refine ⟨_,rfl,rfl,_,rfl,ite2 (fun w3 => ?_) (fun w3 => ?_)⟩
 ·refine ⟨_,rfl,_,rfl,_,rfl,_,hx3,fun v4 H4 g4 hv4 => ?_⟩
  refine ⟨_,rfl,_,rfl,_,_,rfl,rfl,_,rfl,_,hx3.same g4,fun v7 H7 g7 hv7 => ?_⟩
  refine ⟨_,_,hv4.same g7,hv7,Nat.le_of_lt (small1000 (by have := lc none (some at'); have := lc (some (at' + 1)) none; lia)),fun v8 H8 g8 hv8 => ?_⟩
  have S8 := (g4.trans g7).trans g8
  exact q _ v8 _ H8 (B3.trans (But.same S8)) (S8 _ _ R3) hv8 (sc2 (mc _ _) (mc _ _))
 obtain ⟨b0,b1⟩ := mod_lt c3 (m := 14) (by decide)
 obtain ⟨v2,m2,e2⟩ := pick (xs := stepsV) b0 b1
 obtain ⟨t2,sct2,ht2⟩ := steps_sc (K := K) m2
 refine ⟨_,rfl,_,rfl,_,rfl,_,rfl,r,c3,14,rfl,R3,by decide,by decide,l,stepsV,_,_,rfl,rfl,SqL.of (by rw [upd_ne nrl.symm]; exact L3),e2,?_⟩
 refine ⟨[t1,t2],.cons (ht1 _) (.cons (ht2 _) .nil),(by show 2 ≤ sizeLine; decide),fun v5 H5 g5 hv5 => ?_⟩
 refine ⟨_,_,(hx3.but R3 But.put).same g5,hv5,Nat.le_of_lt (small1000 (by simp only [List.length_cons,List.length_nil]; lia)),fun v6 H6 g6 hv6 => ?_⟩
 have S6 := g5.trans g6
 refine q _ v6 _ H6 ((B3.trans But.put).trans (But.same S6)) (S6 _ _ upd_same) hv6 (sc2 sc fun a ha => ?_)
 rcases List.mem_cons.mp ha with rfl | ha
 ·exact sc1
 ·rw [List.mem_singleton.mp ha]; exact sct2
theorem vat_gk : ∀ (w : List Dt) (m : Nat) (d e v : Dt),GK m d → GV d e → (∀ a ∈ w,Sc a) → vatO w d e = some v → ∃ m' k,m' ≤ m ∧ GK m' k ∧ GV k v
 | [],m,d,e,v,gk,gv,_,h => by
  obtain rfl := Option.some.inj (show some e = some v from h)
  exact ⟨m,d,Nat.le_refl _,gk,gv⟩
 | en :: w,m,d,e,v,gk,gv,sc,h => by
  obtain ⟨x,hx,h2⟩ := Option.bind_eq_some_iff.mp (show ((entD d e).find? fun x => eqD (whD x) en).bind (fun x => vatO w (inD d en) (sndD x)) = some v from h)
  obtain ⟨m',p,rfl,em,gk',gv',_⟩ := vat_step gk gv (sc en List.mem_cons_self) hx
  obtain ⟨m2,k,h1,h3,h4⟩ := vat_gk w m' (inD d en) p v gk' gv' (fun a ha => sc a (List.mem_cons_of_mem _ ha)) h2
  exact ⟨m2,k,by lia,h3,h4⟩
theorem ok_law (T : Tx K mg) {f : Addr} {fd : FuncData} (F : Gn K mg "law" s_law ["script"] f fd) : FnOk P w K mg base CX0 depth f fd ["script"] (sp_law K) := by
 obtain ⟨f_law_stream,fd_law_stream,D_law_stream⟩ := T.law_stream
 have G_law_stream := ok_law_stream (P := P) (w := w) (base := base) T D_law_stream
 obtain ⟨f_law_shape,fd_law_shape,D_law_shape⟩ := T.law_shape
 have G_law_shape := ok_law_shape (P := P) (w := w) (base := base) T D_law_shape
 obtain ⟨f_law_value,fd_law_value,D_law_value⟩ := T.law_value
 obtain ⟨fpr,fdpr,Dpr⟩ := T.law_pairs
 have G_law_value := val4 (P := P) (w := w) (base := base) T D_law_value Dpr
 obtain ⟨f_law_ways,fd_law_ways,D_law_ways⟩ := T.law_ways
 have G_law_ways := ways4 (P := P) (w := w) (base := base) T D_law_ways
 obtain ⟨f_law_places,fd_law_places,D_law_places⟩ := T.law_places
 have G_law_places := lplaces4 (P := P) (w := w) (base := base) T D_law_places
 obtain ⟨f_law_odd,fd_law_odd,D_law_odd⟩ := T.law_odd
 have G_law_odd := ok_law_odd (P := P) (w := w) (base := base) T D_law_odd
 obtain ⟨f_value_at,fd_value_at,D_value_at⟩ := T.value_at
 have G_value_at := ok_value_at (P := P) (w := w) (base := base) T D_value_at
 refine F.F.ok sc_law (fun vs H Q E h => ?_) (fun cdv A outer s H vs Q E hr h => ?_)
 ·obtain ⟨a,ns,rfl,_⟩ := h
  rfl
 obtain ⟨a,ns,rfl,hS,h63,q⟩ := h
 refine ⟨_,(@pss_cons _ _ _ _ _ (ps_for PassesOwn.never rfl (pi_range1 rfl T.z_range (@pa_cons _ _ _ _ _ pe_int pa_nil (by rfl))) (pg_name (i := 1) sc_law.nd rfl (Or.inl rfl))
    (@pss_cons _ _ _ _ _ (@ps_set _ _ 2 _ _ _ _ sc_law.nd rfl (Or.inl rfl) (pe_call G_law_stream (hr.mono (by first | decide | lia)) rfl D_law_stream.m D_law_stream.F.kp D_law_stream.b .nil pass0 (@pa_cons _ _ _ _ _ (pv 0) (@pa_cons _ _ _ _ _ (pv 1) pa_nil (by rfl)) (by rfl))) (by rfl) (by first | exact .inl rfl | exact .inr rfl | assumption)) (@pss_cons _ _ _ _ _ (@ps_set _ _ 3 _ _ _ _ sc_law.nd rfl (Or.inl rfl) (pe_call G_law_shape (hr.mono (by first | decide | lia)) rfl D_law_shape.m D_law_shape.F.kp D_law_shape.b .nil pass0 (@pa_cons _ _ _ _ _ (pv 2) pa_nil (by rfl))) (by rfl) (by first | exact .inl rfl | exact .inr rfl | assumption)) (@pss_cons _ _ _ _ _ (@ps_set _ _ 4 _ _ _ _ sc_law.nd rfl (Or.inl rfl) (pe_call G_law_value (hr.mono (by first | decide | lia)) rfl D_law_value.m D_law_value.F.kp D_law_value.b .nil pass0 (@pa_cons _ _ _ _ _ (pv 2) (@pa_cons _ _ _ _ _ (pv 3) pa_nil (by rfl)) (by rfl))) (by rfl) (by first | exact .inl rfl | exact .inr rfl | assumption)) (@pss_cons _ _ _ _ _ (@ps_set _ _ 5 _ _ _ _ sc_law.nd rfl (Or.inl rfl) (@pe_lst _ _ _ _ pa_nil) (by rfl) (by first | exact .inl rfl | exact .inr rfl | assumption)) (@pss_cons _ _ _ _ _ (ps_for PassesOwn.never rfl (pi_list (pe_call G_law_ways (hr.mono (by first | decide | lia)) rfl D_law_ways.m D_law_ways.F.kp D_law_ways.b .nil pass0 (@pa_cons _ _ _ _ _ (pv 3) (@pa_cons _ _ _ _ _ (@pe_tupP _ _ _ _ _ pa_nil) pa_nil (by rfl)) (by rfl)))) (pg_tup rfl (pgs_cons (pg_name (i := 6) sc_law.nd rfl (Or.inl rfl)) (pgs_cons (pg_name (i := 7) sc_law.nd rfl (Or.inl rfl)) pgs_nil)))
    (@pss_one _ _ _ (@ps_set _ _ 5 _ _ _ _ sc_law.nd rfl (Or.inl rfl) (@pe_op _ _ _ _ _ _ _ _ (op_catSN (K := K) rfl) (pv 5) (pe_call G_law_places (hr.mono (by first | decide | lia)) rfl D_law_places.m D_law_places.F.kp D_law_places.b .nil pass0 (@pa_cons _ _ _ _ _ (pv 3) (@pa_cons _ _ _ _ _ (pv 4) (@pa_cons _ _ _ _ _ (pv 6) pa_nil (by rfl)) (by rfl)) (by rfl)))) (by rfl) (by first | exact .inl rfl | exact .inr rfl | assumption)))) (@pss_cons _ _ _ _ _ (@ps_set _ _ 8 _ _ _ _ sc_law.nd rfl (Or.inl rfl) (pe_callTy (call_dictT rfl (u2 hr.units)) rfl T.z_dict boot_dict (@pa_cons _ _ _ _ _ (pv 5) pa_nil (by rfl))) (by rfl) (by first | exact .inl rfl | exact .inr rfl | assumption)) (@pss_cons _ _ _ _ _ (@ps_if _ _ _ _ _ _ _ _ (pt_cmpR op_ne (pe_callB call_lenT rfl T.z_len PySem.boot_len (@pa_cons _ _ _ _ _ (pv 8) pa_nil (by rfl))) (pe_callB (call_len_seqN (K := K) rfl) rfl T.z_len PySem.boot_len (@pa_cons _ _ _ _ _ (pv 5) pa_nil (by rfl))) (nomark _)) (@pss_one _ _ _ (@ps_ret _ _ _ _ pe_bl)) pss_nil) (@pss_one _ _ _ (ps_for PassesOwn.never rfl (pi_list (pv 5)) (pg_tup rfl (pgs_cons (pg_name (i := 9) sc_law.nd rfl (Or.inl rfl)) (pgs_cons (pg_name (i := 10) sc_law.nd rfl (Or.inl rfl)) pgs_nil)))
    (@pss_one _ _ _ (ps_for PassesOwn.never rfl (pi_range1 rfl T.z_range (@pa_cons _ _ _ _ _ pe_int pa_nil (by rfl))) (pg_name (i := 11) sc_law.nd rfl (Or.inl rfl))
    (@pss_cons _ _ _ _ _ (@ps_set _ _ 12 _ _ _ _ sc_law.nd rfl (Or.inl rfl) (pe_call G_law_odd (hr.mono (by first | decide | lia)) rfl D_law_odd.m D_law_odd.F.kp D_law_odd.b .nil pass0 (@pa_cons _ _ _ _ _ (pv 9) (@pa_cons _ _ _ _ _ (pv 2) pa_nil (by rfl)) (by rfl))) (by rfl) (by first | exact .inl rfl | exact .inr rfl | assumption)) (@pss_one _ _ _ (@ps_if _ _ _ _ _ _ _ _ (pt_cmpR (op_neD hr.units) (pe_call G_value_at (hr.mono (by first | decide | lia)) rfl D_value_at.m D_value_at.F.kp D_value_at.b .nil pass0 (@pa_cons _ _ _ _ _ (pv 3) (@pa_cons _ _ _ _ _ (pv 4) (@pa_cons _ _ _ _ _ (pv 12) pa_nil (by rfl)) (by rfl)) (by rfl))) (pe_dgetT (u1 hr.units) (pv 8) (pv 12) pe_non ⟨rfl,rfl,rfl,rfl⟩) (nomark _)) (@pss_one _ _ _ (@ps_ret _ _ _ _ pe_bl)) pss_nil))))))))))))))) (@pss_one _ _ _ (@ps_ret _ _ _ _ pe_bl))),?_⟩
 refine ⟨2,rfl,by decide,by decide,for_range (lo := 0) (n := (2 : Int).toNat) (fun i σ H' => Same H H' ∧ ∃ v1 v2 v3 v4 v5 v6 v7 v8 v9 v10 v11 v12,σ = [some (.ref a),v1,v2,v3,v4,v5,v6,v7,v8,v9,v10,v11,v12]) ⟨Same.refl H,_,_,_,_,_,_,_,_,_,_,_,_,rfl⟩ ?_ ?_⟩
 ·rintro i σ H1 hi ⟨g1,v1,v2,v3,v4,v5,v6,v7,v8,v9,v10,v11,v12,rfl⟩
  have hi3 : i < 2 := hi
  refine ⟨_,rfl,_,rfl,a,ns,_,rfl,g1.seq hS,h63,by lia,by lia,fun r c H2 hr2 g2 e2 => ?_⟩
  have hrH : H r = none := g1.free hr2
  have keep : ∀ {A B : Hp},Same H A → But r A B → Same H B := fun s b c o ec => b c o (ne_of_none ec hrH) (s _ _ ec)
  refine ⟨_,rfl,r,c,rfl,e2,fun v d c3 H3 b3 e3 hv gk => ?_⟩
  refine ⟨_,rfl,_,rfl,r,c3,3,d,v,by decide,rfl,e3,hv,gk,fun vv e c4 H4 b4 e4 hvv gv => ?_⟩
  have hv4 := hv.but e3 b4
  refine ⟨(by show 0 ≤ sizeLine; decide),fun l0 hl0 => ?_⟩
  have g40 := same_new hl0 (.lst [])
  refine ⟨_,rfl,[],.nil,(by show 0 ≤ sizeLine; decide),fun vp H5 g5 hvp => ?_⟩
  refine ⟨3,d,[],v,vp,rfl,by decide,rfl,(hv4.same g40).same g5,gk,hvp,by decide,fun lw ys H6 g6 e6 len way => ?_⟩
  have G46 : Same H4 H6 := (g40.trans g5).trans g6
  have S6 : Same H H6 := (keep (keep (g1.trans g2) b3) b4).trans G46
  have hv6 := hv4.same G46
  have hvv6 := hvv.same G46
  have e6r : H6 r = some (.lst [.int c4]) := G46 _ _ e4
  have l06 : H6 l0 = some (.lst []) := g6 _ _ (g5 _ _ upd_same)
  have lw9 : (wl 4 d).length ≤ 729 := by
   have := way.length
   rw [List.length_map] at this
   lia
  refine ⟨lw,rfl,⟨ys,SqL.of e6⟩,for_list (xs := ys) (fun j σ H' => Same H6 H' ∧ ∃ l zs v6 v7,H' l = some (.lst zs) ∧ IsPs K H' (((wl 4 d).take j).flatMap fun q => pl q.1 d e) zs ∧ zs.length ≤ j * 512 ∧ σ = [some (.ref a),some (.int (0 + i)),some (.ref r),some v,some vv,some (.ref l),v6,v7,v8,v9,v10,v11,v12])
   ⟨Same.refl _,l0,[],_,_,l06,.nil,Nat.le_refl _,rfl⟩ (fun j σ H' _ p => SqL.of (p.1 _ _ e6)) ?_ ?_⟩
  ·rintro j u σ H7 hu ⟨s7,l,zs,w6,w7,hl,hz,lz,rfl⟩
   have hj : j < ys.length := (List.getElem?_eq_some_iff.mp hu).1
   obtain ⟨du,hdu,hw⟩ := way.get' hu
   rw [List.getElem?_map] at hdu
   obtain ⟨qk,hqk,rfl⟩ := Option.map_eq_some_iff.mp hdu
   have hle := lead_wl 4 3 d gk qk (List.mem_of_getElem? hqk)
   have hw' : IsP K H7 (.tup [sD qk.1,qk.2]) u := hw.same s7
   obtain ⟨b,us,rfl,hb,pb,rb⟩ := hw'.unref
   cases rb with
   | @cons _ _ y1 _ r1 rb =>
   cases rb with
   | @cons _ _ y2 _ r2 rb =>
   cases rb
   refine ⟨b,_,rfl,hb,rfl,_,_,rfl,_,_,rfl,rfl,?_⟩
   have ls : (leadD d qk.1).isSome = true := by rw [hle]; rfl
   have l3 := lead_len gk ls
   refine ⟨_,rfl,_,rfl,_,rfl,_,rfl,3,d,e,qk.1,v,vv,y1,by decide,by lia,rfl,hv6.same s7,hvv6.same s7,r1,gk,gv,ls,by lia,fun ld ysd H8 g8 hld e8 hp8 len8 => ?_⟩
   have len8' : ysd.length ≤ 512 := len8
   have tot : zs.length + ysd.length ≤ (j + 1) * 512 := by rw [Nat.succ_mul]; lia
   have cap : (j + 1) * 512 ≤ 729 * 512 := Nat.mul_le_mul_right _ (by lia)
   refine ⟨l,ld,zs,ysd,rfl,rfl,SqL.of (g8 _ _ hl),SqL.of e8,Nat.le_trans tot (Nat.le_trans cap (by decide)),fun l9 h9 => ?_⟩
   have g9 := same_new h9 (.lst (zs ++ ysd))
   refine ⟨(s7.trans g8).trans g9,l9,zs ++ ysd,_,_,upd_same,?_,by rw [List.length_append]; exact tot,rfl⟩
   rw [List.take_add_one,hqk,List.flatMap_append]
   refine (((hz.same g8).same g9).append ?_)
   simp only [Option.toList,List.flatMap_cons,List.flatMap_nil,List.append_nil]
   exact hp8.same g9
  ·rintro σ H7 ⟨s7,l,zs,w6,w7,hl,hz,lz,rfl⟩
   have ely : ys.length = (wl 4 d).length := by have := way.length; rw [List.length_map] at this; exact this.symm
   rw [ely,List.take_length] at hz
   have hz' : IsPs K H7 (allP 4 d e) zs := hz
   have fm : ∀ x ∈ allP 4 d e,∃ w v,x = Dt.tup [.tup w,v] ∧ ∀ a ∈ w,Sc a := fun x hx => by
    obtain ⟨w,v,e1,_,e3,_⟩ := allP_form gk gv hx
    exact ⟨w,v,e1,e3⟩
   have lzs : zs.length ≤ 373248 := Nat.le_trans lz (Nat.mul_le_mul_right 512 (show ys.length ≤ 729 by lia))
   have lkv : ((allP 4 d e).map toKV).length = zs.length := by rw [List.length_map]; exact hz'.length
   refine ⟨_,rfl,l,zs,(allP 4 d e).map toKV,rfl,hl,(by rw [toKV_back fm]; exact hz'),toKV_nodup fm (allP_nodup gk gv),by lia,fun p H8 s8 hp8 dt => ?_⟩
   have hl8 := s8 _ _ hl
   refine ⟨_,rfl,p,_,rfl,dt,by lia,_,rfl,l,zs,rfl,.inl (SqL.of hl8),rfl,_,rfl,?_⟩
   rw [lkv,decide_eq_true rfl]
   refine iteF ?_
   have S8 : Same H6 H8 := s7.trans s8
   have e8r := S8 _ _ e6r
   have nlr : l ≠ r := fun c => by
    subst c
    rw [hl8] at e8r
    have e9 : zs = [V.int c4] := by simpa using e8r
    have h0 := hz'.length
    rw [e9] at hz'
    have h1 : (allP 4 d e).length = 1 := hz'.length
    obtain ⟨x,ex⟩ : ∃ x,allP 4 d e = [x] := List.length_eq_one_iff.mp h1
    obtain ⟨w,u,rfl,_⟩ := fm x (by rw [ex]; exact List.mem_singleton.mpr rfl)
    rw [ex] at hz'
    cases hz' with
    | cons hh _ => cases hh
   refine ⟨_,rfl,l,rfl,⟨zs,SqL.of hl8⟩,for_list (xs := zs) (fun j σ H' => ∃ c',But r H8 H' ∧ H' r = some (.lst [.int c']) ∧ ∃ v6 v7 v9 v10 v11 v12,σ = [some (.ref a),some (.int (0 + i)),some (.ref r),some v,some vv,some (.ref l),v6,v7,some (.ref p),v9,v10,v11,v12])
    ⟨c4,But.refl _ _,e8r,_,_,_,_,_,_,rfl⟩ (fun j σ H' _ pv => by
     obtain ⟨_,b,_⟩ := pv
     exact SqL.of (b _ _ nlr hl8)) ?_ ?_⟩
   ·rintro j u σ H9 hu ⟨c9,b9,e9,w6,w7,w9,w10,w11,w12,rfl⟩
    obtain ⟨du,hdu,hw⟩ := (hz'.same s8).get' hu
    obtain ⟨ww,vu,rfl,_,scw,lww⟩ := allP_form gk gv (List.mem_of_getElem? hdu)
    obtain ⟨b,us,rfl,hb,pb,rb⟩ := (hw.but e8r b9).unref
    cases rb with
    | @cons _ _ y1 _ r1 rb =>
    cases rb with
    | @cons _ _ y2 _ r2 rb =>
    cases rb
    refine ⟨b,_,rfl,hb,rfl,_,_,rfl,_,_,rfl,rfl,?_⟩
    have hv9 := (hv6.same S8).but e8r b9
    have hvv9 := (hvv6.same S8).but e8r b9
    have dt9 := dt.but e8r b9
    refine ⟨2,rfl,by decide,by decide,for_range (lo := 0) (n := (2 : Int).toNat) (fun t σ H' => ∃ c',But r H9 H' ∧ H' r = some (.lst [.int c']) ∧ ∃ v11 v12,σ = [some (.ref a),some (.int (0 + i)),some (.ref r),some v,some vv,some (.ref l),w6,w7,some (.ref p),some y1,some y2,v11,v12])
     ⟨c9,But.refl _ _,e9,_,_,rfl⟩ ?_ ?_⟩
    ·rintro t σ H10 ht ⟨c10,b10,e10,x11,x12,rfl⟩
     refine ⟨_,rfl,_,rfl,r,c10,ww,y1,rfl,e10,r1.but e9 b10,scw,lww,fun ws' vo c11 H11 b11 e11 hvo sco => ?_⟩
     have hv11 := (hv9.but e9 b10).but e10 b11
     have hvv11 := (hvv9.but e9 b10).but e10 b11
     have dt11 := (dt9.but e9 b10).but e10 b11
     have av := at_vat gk gv sco
     obtain ⟨bo,_,rfl,_⟩ := hvo.unref
     refine ⟨_,rfl,_,rfl,_,rfl,3,d,e,ws',v,vv,_,by decide,rfl,hv11,hvv11,hvo,gk,gv,sco,fun H12 s12 => ?_⟩
     have B12 : But r H9 H12 := (b10.trans b11).trans (But.same s12)
     have hk12 : IsP K H12 (.tup ((ws'.map keyOf).map kDt)) (.ref bo) := by rw [keys_back sco]; exact hvo.same s12
     cases hvat : vatO ws' d e with
     | none =>
      refine ⟨_,rfl,p,_,rfl,dt11.same s12,_,rfl,bo,ws'.map keyOf,rfl,dt11.same s12,hk12,fun vg hg => ?_⟩
      rw [av,hvat] at hg
      subst hg
      refine ⟨.non,.non,.non,.non,by decide,_,rfl,iteF ?_⟩
      exact ⟨c11,B12,s12 _ _ e11,_,_,rfl⟩
     | some z =>
      intro vz hvz
      refine ⟨_,rfl,p,_,rfl,dt11.same s12,_,rfl,bo,ws'.map keyOf,rfl,dt11.same s12,hk12,fun vg hg => ?_⟩
      rw [av,hvat] at hg
      obtain ⟨m',k',hm',gk',gv'⟩ := vat_gk ws' 3 d e z gk gv sco hvat
      have dz := gv_dep _ gk' gv'
      refine ⟨z,z,hvz.d,hg.d,by lia,_,rfl,?_⟩
      rw [eqD_refl]
      exact iteF ⟨c11,B12,s12 _ _ e11,_,_,rfl⟩
    ·rintro σ H10 ⟨c10,b10,e10,x11,x12,rfl⟩
     exact ⟨c10,b9.trans b10,e10,_,_,_,_,_,_,rfl⟩
   ·rintro σ H9 ⟨c9,b9,e9,w6,w7,w9,w10,w11,w12,rfl⟩
    exact ⟨keep (S6.trans S8) b9,_,_,_,_,_,_,_,_,_,_,_,_,rfl⟩
 ·rintro σ H1 ⟨g1,v1,v2,v3,v4,v5,v6,v7,v8,v9,v10,v11,v12,rfl⟩
  exact q H1
end
@[elab_as_elim] theorem of_len0 {α : Type} {p : List α → Prop} {us : List α} (hl : us.length = 0) (h : p []) : p us := by
 cases us with
 | nil => exact h
 | cons a r => cases hl
@[elab_as_elim] theorem of_len1 {α : Type} {p : List α → Prop} {us : List α} (hl : us.length = 1) (h : ∀ x0,p [x0]) : p us := by
 cases us with
 | nil => cases hl
 | cons a r => exact of_len0 (p := fun r => p (a :: r)) (Nat.succ.inj hl) (h a)
@[elab_as_elim] theorem of_len2 {α : Type} {p : List α → Prop} {us : List α} (hl : us.length = 2) (h : ∀ x0 x1,p [x0,x1]) : p us := by
 cases us with
 | nil => cases hl
 | cons a r => exact of_len1 (p := fun r => p (a :: r)) (Nat.succ.inj hl) (h a)
@[elab_as_elim] theorem of_len3 {α : Type} {p : List α → Prop} {us : List α} (hl : us.length = 3) (h : ∀ x0 x1 x2,p [x0,x1,x2]) : p us := by
 cases us with
 | nil => cases hl
 | cons a r => exact of_len2 (p := fun r => p (a :: r)) (Nat.succ.inj hl) (h a)
theorem tx_mk {K : PySem.W.Frag} {h : Heap} {mg : Str → Option Value} (X : K.In h) (G : h.Ns mainGlobals mg)
  {f0 : Addr} {od0 an0 : Option Addr} {sl0 : Array (Option Value)} {oc0 kV0 dc0 pm0 cd0 ct0 : Value}
  {f1 : Addr} {od1 an1 : Option Addr} {sl1 : Array (Option Value)} {oc1 kV1 dc1 pm1 cd1 ct1 : Value}
  {f2 : Addr} {od2 an2 : Option Addr} {sl2 : Array (Option Value)} {oc2 kV2 dc2 pm2 cd2 ct2 : Value}
  {f3 : Addr} {od3 an3 : Option Addr} {sl3 : Array (Option Value)} {oc3 kV3 dc3 pm3 cd3 ct3 : Value}
  {f4 : Addr} {od4 an4 : Option Addr} {sl4 : Array (Option Value)} {oc4 kV4 dc4 pm4 cd4 ct4 : Value}
  {f5 : Addr} {od5 an5 : Option Addr} {sl5 : Array (Option Value)} {oc5 kV5 dc5 pm5 cd5 ct5 : Value}
  {f6 : Addr} {od6 an6 : Option Addr} {sl6 : Array (Option Value)} {oc6 kV6 dc6 pm6 cd6 ct6 : Value}
  {f7 : Addr} {od7 an7 : Option Addr} {sl7 : Array (Option Value)} {oc7 kV7 dc7 pm7 cd7 ct7 : Value}
  {f8 : Addr} {od8 an8 : Option Addr} {sl8 : Array (Option Value)} {oc8 kV8 dc8 pm8 cd8 ct8 : Value}
  {f9 : Addr} {od9 an9 : Option Addr} {sl9 : Array (Option Value)} {oc9 kV9 dc9 pm9 cd9 ct9 : Value}
  {f10 : Addr} {od10 an10 : Option Addr} {sl10 : Array (Option Value)} {oc10 kV10 dc10 pm10 cd10 ct10 : Value}
  {f11 : Addr} {od11 an11 : Option Addr} {sl11 : Array (Option Value)} {oc11 kV11 dc11 pm11 cd11 ct11 : Value}
  {f12 : Addr} {od12 an12 : Option Addr} {sl12 : Array (Option Value)} {oc12 kV12 dc12 pm12 cd12 ct12 : Value}
  {f13 : Addr} {od13 an13 : Option Addr} {sl13 : Array (Option Value)} {oc13 kV13 dc13 pm13 cd13 ct13 : Value}
  {f14 : Addr} {od14 an14 : Option Addr} {sl14 : Array (Option Value)} {oc14 kV14 dc14 pm14 cd14 ct14 : Value}
  {f15 : Addr} {od15 an15 : Option Addr} {sl15 : Array (Option Value)} {oc15 kV15 dc15 pm15 cd15 ct15 : Value}
  {f16 : Addr} {od16 an16 : Option Addr} {sl16 : Array (Option Value)} {oc16 kV16 dc16 pm16 cd16 ct16 : Value}
  {f17 : Addr} {od17 an17 : Option Addr} {sl17 : Array (Option Value)} {oc17 kV17 dc17 pm17 cd17 ct17 : Value}
  {f18 : Addr} {od18 an18 : Option Addr} {sl18 : Array (Option Value)} {oc18 kV18 dc18 pm18 cd18 ct18 : Value}
  {f19 : Addr} {od19 an19 : Option Addr} {sl19 : Array (Option Value)} {oc19 kV19 dc19 pm19 cd19 ct19 : Value}
  {f20 : Addr} {od20 an20 : Option Addr} {sl20 : Array (Option Value)} {oc20 kV20 dc20 pm20 cd20 ct20 : Value}
  {f21 : Addr} {od21 an21 : Option Addr} {sl21 : Array (Option Value)} {oc21 kV21 dc21 pm21 cd21 ct21 : Value}
  (a0 : PySem.W.nsIn K mainGlobals "field_kind" = some (some (.ref f0))) (l0 : K.lookup f0 = some ⟨oc0,od0,.func (PySem.W.fnOf "field_kind" "field_kind" (defArgs s_field_kind) (defBody s_field_kind) (defScope s_field_kind) .none kV0 dc0 pm0 an0 cd0 ct0),sl0⟩) (c0 : PySem.W.codeIn K cd0 "field_kind" = true) (k0 : PySem.W.keepIn K (.ref f0) = true)
  (a1 : PySem.W.nsIn K mainGlobals "item_kind" = some (some (.ref f1))) (l1 : K.lookup f1 = some ⟨oc1,od1,.func (PySem.W.fnOf "item_kind" "item_kind" (defArgs s_item_kind) (defBody s_item_kind) (defScope s_item_kind) .none kV1 dc1 pm1 an1 cd1 ct1),sl1⟩) (c1 : PySem.W.codeIn K cd1 "item_kind" = true) (k1 : PySem.W.keepIn K (.ref f1) = true)
  (a2 : PySem.W.nsIn K mainGlobals "field_of" = some (some (.ref f2))) (l2 : K.lookup f2 = some ⟨oc2,od2,.func (PySem.W.fnOf "field_of" "field_of" (defArgs s_field_of) (defBody s_field_of) (defScope s_field_of) .none kV2 dc2 pm2 an2 cd2 ct2),sl2⟩) (c2 : PySem.W.codeIn K cd2 "field_of" = true) (k2 : PySem.W.keepIn K (.ref f2) = true)
  (a3 : PySem.W.nsIn K mainGlobals "entries" = some (some (.ref f3))) (l3 : K.lookup f3 = some ⟨oc3,od3,.func (PySem.W.fnOf "entries" "entries" (defArgs s_entries) (defBody s_entries) (defScope s_entries) .none kV3 dc3 pm3 an3 cd3 ct3),sl3⟩) (c3 : PySem.W.codeIn K cd3 "entries" = true) (k3 : PySem.W.keepIn K (.ref f3) = true)
  (a4 : PySem.W.nsIn K mainGlobals "inner_kind" = some (some (.ref f4))) (l4 : K.lookup f4 = some ⟨oc4,od4,.func (PySem.W.fnOf "inner_kind" "inner_kind" (defArgs s_inner_kind) (defBody s_inner_kind) (defScope s_inner_kind) .none kV4 dc4 pm4 an4 cd4 ct4),sl4⟩) (c4 : PySem.W.codeIn K cd4 "inner_kind" = true) (k4 : PySem.W.keepIn K (.ref f4) = true)
  (a5 : PySem.W.nsIn K mainGlobals "value_at" = some (some (.ref f5))) (l5 : K.lookup f5 = some ⟨oc5,od5,.func (PySem.W.fnOf "value_at" "value_at" (defArgs s_value_at) (defBody s_value_at) (defScope s_value_at) .none kV5 dc5 pm5 an5 cd5 ct5),sl5⟩) (c5 : PySem.W.codeIn K cd5 "value_at" = true) (k5 : PySem.W.keepIn K (.ref f5) = true)
  (a6 : PySem.W.nsIn K mainGlobals "_law_mixed" = some (some (.ref f6))) (l6 : K.lookup f6 = some ⟨oc6,od6,.func (PySem.W.fnOf "_law_mixed" "_law_mixed" (defArgs s_law_mixed) (defBody s_law_mixed) (defScope s_law_mixed) .none kV6 dc6 pm6 an6 cd6 ct6),sl6⟩) (c6 : PySem.W.codeIn K cd6 "_law_mixed" = true) (k6 : PySem.W.keepIn K (.ref f6) = true)
  (a7 : PySem.W.nsIn K mainGlobals "_law_stream" = some (some (.ref f7))) (l7 : K.lookup f7 = some ⟨oc7,od7,.func (PySem.W.fnOf "_law_stream" "_law_stream" (defArgs s_law_stream) (defBody s_law_stream) (defScope s_law_stream) .none kV7 dc7 pm7 an7 cd7 ct7),sl7⟩) (c7 : PySem.W.codeIn K cd7 "_law_stream" = true) (k7 : PySem.W.keepIn K (.ref f7) = true)
  (a8 : PySem.W.nsIn K mainGlobals "_law_digit" = some (some (.ref f8))) (l8 : K.lookup f8 = some ⟨oc8,od8,.func (PySem.W.fnOf "_law_digit" "_law_digit" (defArgs s_law_digit) (defBody s_law_digit) (defScope s_law_digit) .none kV8 dc8 pm8 an8 cd8 ct8),sl8⟩) (c8 : PySem.W.codeIn K cd8 "_law_digit" = true) (k8 : PySem.W.keepIn K (.ref f8) = true)
  (a9 : PySem.W.nsIn K mainGlobals "_law_leaf" = some (some (.ref f9))) (l9 : K.lookup f9 = some ⟨oc9,od9,.func (PySem.W.fnOf "_law_leaf" "_law_leaf" (defArgs s_law_leaf) (defBody s_law_leaf) (defScope s_law_leaf) .none kV9 dc9 pm9 an9 cd9 ct9),sl9⟩) (c9 : PySem.W.codeIn K cd9 "_law_leaf" = true) (k9 : PySem.W.keepIn K (.ref f9) = true)
  (a10 : PySem.W.nsIn K mainGlobals "_law_record" = some (some (.ref f10))) (l10 : K.lookup f10 = some ⟨oc10,od10,.func (PySem.W.fnOf "_law_record" "_law_record" (defArgs s_law_record) (defBody s_law_record) (defScope s_law_record) .none kV10 dc10 pm10 an10 cd10 ct10),sl10⟩) (c10 : PySem.W.codeIn K cd10 "_law_record" = true) (k10 : PySem.W.keepIn K (.ref f10) = true)
  (a11 : PySem.W.nsIn K mainGlobals "_law_rows" = some (some (.ref f11))) (l11 : K.lookup f11 = some ⟨oc11,od11,.func (PySem.W.fnOf "_law_rows" "_law_rows" (defArgs s_law_rows) (defBody s_law_rows) (defScope s_law_rows) .none kV11 dc11 pm11 an11 cd11 ct11),sl11⟩) (c11 : PySem.W.codeIn K cd11 "_law_rows" = true) (k11 : PySem.W.keepIn K (.ref f11) = true)
  (a12 : PySem.W.nsIn K mainGlobals "_law_kind" = some (some (.ref f12))) (l12 : K.lookup f12 = some ⟨oc12,od12,.func (PySem.W.fnOf "_law_kind" "_law_kind" (defArgs s_law_kind) (defBody s_law_kind) (defScope s_law_kind) .none kV12 dc12 pm12 an12 cd12 ct12),sl12⟩) (c12 : PySem.W.codeIn K cd12 "_law_kind" = true) (k12 : PySem.W.keepIn K (.ref f12) = true)
  (a13 : PySem.W.nsIn K mainGlobals "_law_shape" = some (some (.ref f13))) (l13 : K.lookup f13 = some ⟨oc13,od13,.func (PySem.W.fnOf "_law_shape" "_law_shape" (defArgs s_law_shape) (defBody s_law_shape) (defScope s_law_shape) .none kV13 dc13 pm13 an13 cd13 ct13),sl13⟩) (c13 : PySem.W.codeIn K cd13 "_law_shape" = true) (k13 : PySem.W.keepIn K (.ref f13) = true)
  (a14 : PySem.W.nsIn K mainGlobals "_law_text" = some (some (.ref f14))) (l14 : K.lookup f14 = some ⟨oc14,od14,.func (PySem.W.fnOf "_law_text" "_law_text" (defArgs s_law_text) (defBody s_law_text) (defScope s_law_text) .none kV14 dc14 pm14 an14 cd14 ct14),sl14⟩) (c14 : PySem.W.codeIn K cd14 "_law_text" = true) (k14 : PySem.W.keepIn K (.ref f14) = true)
  (a15 : PySem.W.nsIn K mainGlobals "_law_number" = some (some (.ref f15))) (l15 : K.lookup f15 = some ⟨oc15,od15,.func (PySem.W.fnOf "_law_number" "_law_number" (defArgs s_law_number) (defBody s_law_number) (defScope s_law_number) .none kV15 dc15 pm15 an15 cd15 ct15),sl15⟩) (c15 : PySem.W.codeIn K cd15 "_law_number" = true) (k15 : PySem.W.keepIn K (.ref f15) = true)
  (a16 : PySem.W.nsIn K mainGlobals "_law_pairs" = some (some (.ref f16))) (l16 : K.lookup f16 = some ⟨oc16,od16,.func (PySem.W.fnOf "_law_pairs" "_law_pairs" (defArgs s_law_pairs) (defBody s_law_pairs) (defScope s_law_pairs) .none kV16 dc16 pm16 an16 cd16 ct16),sl16⟩) (c16 : PySem.W.codeIn K cd16 "_law_pairs" = true) (k16 : PySem.W.keepIn K (.ref f16) = true)
  (a17 : PySem.W.nsIn K mainGlobals "_law_value" = some (some (.ref f17))) (l17 : K.lookup f17 = some ⟨oc17,od17,.func (PySem.W.fnOf "_law_value" "_law_value" (defArgs s_law_value) (defBody s_law_value) (defScope s_law_value) .none kV17 dc17 pm17 an17 cd17 ct17),sl17⟩) (c17 : PySem.W.codeIn K cd17 "_law_value" = true) (k17 : PySem.W.keepIn K (.ref f17) = true)
  (a18 : PySem.W.nsIn K mainGlobals "_law_ways" = some (some (.ref f18))) (l18 : K.lookup f18 = some ⟨oc18,od18,.func (PySem.W.fnOf "_law_ways" "_law_ways" (defArgs s_law_ways) (defBody s_law_ways) (defScope s_law_ways) .none kV18 dc18 pm18 an18 cd18 ct18),sl18⟩) (c18 : PySem.W.codeIn K cd18 "_law_ways" = true) (k18 : PySem.W.keepIn K (.ref f18) = true)
  (a19 : PySem.W.nsIn K mainGlobals "_law_places" = some (some (.ref f19))) (l19 : K.lookup f19 = some ⟨oc19,od19,.func (PySem.W.fnOf "_law_places" "_law_places" (defArgs s_law_places) (defBody s_law_places) (defScope s_law_places) .none kV19 dc19 pm19 an19 cd19 ct19),sl19⟩) (c19 : PySem.W.codeIn K cd19 "_law_places" = true) (k19 : PySem.W.keepIn K (.ref f19) = true)
  (a20 : PySem.W.nsIn K mainGlobals "_law_odd" = some (some (.ref f20))) (l20 : K.lookup f20 = some ⟨oc20,od20,.func (PySem.W.fnOf "_law_odd" "_law_odd" (defArgs s_law_odd) (defBody s_law_odd) (defScope s_law_odd) .none kV20 dc20 pm20 an20 cd20 ct20),sl20⟩) (c20 : PySem.W.codeIn K cd20 "_law_odd" = true) (k20 : PySem.W.keepIn K (.ref f20) = true)
  (a21 : PySem.W.nsIn K mainGlobals "law" = some (some (.ref f21))) (l21 : K.lookup f21 = some ⟨oc21,od21,.func (PySem.W.fnOf "law" "law" (defArgs s_law) (defBody s_law) (defScope s_law) .none kV21 dc21 pm21 an21 cd21 ct21),sl21⟩) (c21 : PySem.W.codeIn K cd21 "law" = true) (k21 : PySem.W.keepIn K (.ref f21) = true)
  (z0 : PySem.W.nsIn K mainGlobals "dict" = some none)
  (z1 : PySem.W.nsIn K mainGlobals "enumerate" = some none)
  (z2 : PySem.W.nsIn K mainGlobals "int" = some none)
  (z3 : PySem.W.nsIn K mainGlobals "len" = some none)
  (z4 : PySem.W.nsIn K mainGlobals "list" = some none)
  (z5 : PySem.W.nsIn K mainGlobals "min" = some none)
  (z6 : PySem.W.nsIn K mainGlobals "range" = some none)
  (z7 : PySem.W.nsIn K mainGlobals "sorted" = some none)
  (z8 : PySem.W.nsIn K mainGlobals "tuple" = some none) : Tx K mg :=
 ⟨⟨f0,_,fun_mk (st := s_field_kind) l0 c0 k0,(fun_mk (st := s_field_kind) l0 c0 k0).binds (ps := ["kind","name"]) fun _ _ _ _ _ _ us hl => of_len2 hl fun _ _ => rfl,PySem.W.mg_of X G a0⟩,
  ⟨f1,_,fun_mk (st := s_item_kind) l1 c1 k1,(fun_mk (st := s_item_kind) l1 c1 k1).binds (ps := ["kind"]) fun _ _ _ _ _ _ us hl => of_len1 hl fun _ => rfl,PySem.W.mg_of X G a1⟩,
  ⟨f2,_,fun_mk (st := s_field_of) l2 c2 k2,(fun_mk (st := s_field_of) l2 c2 k2).binds (ps := ["record","name"]) fun _ _ _ _ _ _ us hl => of_len2 hl fun _ _ => rfl,PySem.W.mg_of X G a2⟩,
  ⟨f3,_,fun_mk (st := s_entries) l3 c3 k3,(fun_mk (st := s_entries) l3 c3 k3).binds (ps := ["kind","value"]) fun _ _ _ _ _ _ us hl => of_len2 hl fun _ _ => rfl,PySem.W.mg_of X G a3⟩,
  ⟨f4,_,fun_mk (st := s_inner_kind) l4 c4 k4,(fun_mk (st := s_inner_kind) l4 c4 k4).binds (ps := ["kind","entry"]) fun _ _ _ _ _ _ us hl => of_len2 hl fun _ _ => rfl,PySem.W.mg_of X G a4⟩,
  ⟨f5,_,fun_mk (st := s_value_at) l5 c5 k5,(fun_mk (st := s_value_at) l5 c5 k5).binds (ps := ["kind","value","where"]) fun _ _ _ _ _ _ us hl => of_len3 hl fun _ _ _ => rfl,PySem.W.mg_of X G a5⟩,
  ⟨f6,_,fun_mk (st := s_law_mixed) l6 c6 k6,(fun_mk (st := s_law_mixed) l6 c6 k6).binds (ps := ["cell","k"]) fun _ _ _ _ _ _ us hl => of_len2 hl fun _ _ => rfl,PySem.W.mg_of X G a6⟩,
  ⟨f7,_,fun_mk (st := s_law_stream) l7 c7 k7,(fun_mk (st := s_law_stream) l7 c7 k7).binds (ps := ["script","k"]) fun _ _ _ _ _ _ us hl => of_len2 hl fun _ _ => rfl,PySem.W.mg_of X G a7⟩,
  ⟨f8,_,fun_mk (st := s_law_digit) l8 c8 k8,(fun_mk (st := s_law_digit) l8 c8 k8).binds (ps := ["row","many"]) fun _ _ _ _ _ _ us hl => of_len2 hl fun _ _ => rfl,PySem.W.mg_of X G a8⟩,
  ⟨f9,_,fun_mk (st := s_law_leaf) l9 c9 k9,(fun_mk (st := s_law_leaf) l9 c9 k9).binds (ps := ["row"]) fun _ _ _ _ _ _ us hl => of_len1 hl fun _ => rfl,PySem.W.mg_of X G a9⟩,
  ⟨f10,_,fun_mk (st := s_law_record) l10 c10 k10,(fun_mk (st := s_law_record) l10 c10 k10).binds (ps := ["row","deep","names"]) fun _ _ _ _ _ _ us hl => of_len3 hl fun _ _ _ => rfl,PySem.W.mg_of X G a10⟩,
  ⟨f11,_,fun_mk (st := s_law_rows) l11 c11 k11,(fun_mk (st := s_law_rows) l11 c11 k11).binds (ps := ["row","deep"]) fun _ _ _ _ _ _ us hl => of_len2 hl fun _ _ => rfl,PySem.W.mg_of X G a11⟩,
  ⟨f12,_,fun_mk (st := s_law_kind) l12 c12 k12,(fun_mk (st := s_law_kind) l12 c12 k12).binds (ps := ["row","deep"]) fun _ _ _ _ _ _ us hl => of_len2 hl fun _ _ => rfl,PySem.W.mg_of X G a12⟩,
  ⟨f13,_,fun_mk (st := s_law_shape) l13 c13 k13,(fun_mk (st := s_law_shape) l13 c13 k13).binds (ps := ["row"]) fun _ _ _ _ _ _ us hl => of_len1 hl fun _ => rfl,PySem.W.mg_of X G a13⟩,
  ⟨f14,_,fun_mk (st := s_law_text) l14 c14 k14,(fun_mk (st := s_law_text) l14 c14 k14).binds (ps := ["row","most"]) fun _ _ _ _ _ _ us hl => of_len2 hl fun _ _ => rfl,PySem.W.mg_of X G a14⟩,
  ⟨f15,_,fun_mk (st := s_law_number) l15 c15 k15,(fun_mk (st := s_law_number) l15 c15 k15).binds (ps := ["row","low","high"]) fun _ _ _ _ _ _ us hl => of_len3 hl fun _ _ _ => rfl,PySem.W.mg_of X G a15⟩,
  ⟨f16,_,fun_mk (st := s_law_pairs) l16 c16 k16,(fun_mk (st := s_law_pairs) l16 c16 k16).binds (ps := ["row","kind"]) fun _ _ _ _ _ _ us hl => of_len2 hl fun _ _ => rfl,PySem.W.mg_of X G a16⟩,
  ⟨f17,_,fun_mk (st := s_law_value) l17 c17 k17,(fun_mk (st := s_law_value) l17 c17 k17).binds (ps := ["row","kind"]) fun _ _ _ _ _ _ us hl => of_len2 hl fun _ _ => rfl,PySem.W.mg_of X G a17⟩,
  ⟨f18,_,fun_mk (st := s_law_ways) l18 c18 k18,(fun_mk (st := s_law_ways) l18 c18 k18).binds (ps := ["kind","path"]) fun _ _ _ _ _ _ us hl => of_len2 hl fun _ _ => rfl,PySem.W.mg_of X G a18⟩,
  ⟨f19,_,fun_mk (st := s_law_places) l19 c19 k19,(fun_mk (st := s_law_places) l19 c19 k19).binds (ps := ["kind","value","path"]) fun _ _ _ _ _ _ us hl => of_len3 hl fun _ _ _ => rfl,PySem.W.mg_of X G a19⟩,
  ⟨f20,_,fun_mk (st := s_law_odd) l20 c20 k20,(fun_mk (st := s_law_odd) l20 c20 k20).binds (ps := ["where","row"]) fun _ _ _ _ _ _ us hl => of_len2 hl fun _ _ => rfl,PySem.W.mg_of X G a20⟩,
  ⟨f21,_,fun_mk (st := s_law) l21 c21 k21,(fun_mk (st := s_law) l21 c21 k21).binds (ps := ["script"]) fun _ _ _ _ _ _ us hl => of_len1 hl fun _ => rfl,PySem.W.mg_of X G a21⟩,
  PySem.W.mg_none_of X G z0,
  PySem.W.mg_none_of X G z1,
  PySem.W.mg_none_of X G z2,
  PySem.W.mg_none_of X G z3,
  PySem.W.mg_none_of X G z4,
  PySem.W.mg_none_of X G z5,
  PySem.W.mg_none_of X G z6,
  PySem.W.mg_none_of X G z7,
  PySem.W.mg_none_of X G z8⟩
theorem law_binds {K : PySem.W.Frag} {f : Addr} {fd : FuncData} (F : Fun K "law" "law" s_law f fd) : ∀ (s : Shared) (u : Value),BindsTo s fd ⟨[u],[]⟩ [("script",u)] := by
 obtain ⟨oc,od,kV,doc,pm,an,cdv,ct,osl,rfl,lk,hcd⟩ := F.ex
 exact fun s u => .of_eq rfl
noncomputable def hT (t : Nat) : Value := .str "/claim/cut.py" t
noncomputable def hE (P : Params) (x : Str) (t : Nat) (v : Value) : DictEntry := { hash := PyData.keyHash P x,key := .str x t,val := v }
noncomputable def hF (x y m : Str) (st : Stmt) (t c : Nat) : Obj := { cls := .type "function",data := .func (PySem.W.fnOf x y (defArgs st) (defBody st) (defScope st) .none .none .none (.str m t) none (.ref c) .none) }
noncomputable def hC (x y : Str) (t u v : Nat) (r : List Value) : Obj := { cls := .type "code",data := .fields (Array.mk (.str x t :: .str y u :: hT v :: r)) }
noncomputable def hK : Params → PySem.W.Frag := fun P =>
 (nat_lit 2,{ cls := .none,data := .dict #[] }) ::
 (nat_lit 3,{ cls := .type "dict",data := .dict #[hE P "__name__" 165 (.str ("law_oldhands_k11_no_places") 240),hE P "__doc__" 166 (.none),hE P "__package__" 167 (.none),hE P "__loader__" 168 (.builtin "__main__.__loader__#opaque"),hE P "__spec__" 169 (.none),hE P "__annotations__" 170 (.ref 6),hE P "__builtins__" 171 (.ref 4),hE P "__file__" 173 (.str ("/claim/cut.py") 172),hE P "__cached__" 174 (.none),hE P "field_kind" 198 (.ref 21),hE P "item_kind" 205 (.ref 28),hE P "field_of" 217 (.ref 35),hE P "entries" 225 (.ref 40),hE P "inner_kind" 233 (.ref 47),hE P "value_at" 239 (.ref 52),hE P "_law_mixed" 250 (.ref 59),hE P "_law_stream" 261 (.ref 66),hE P "_law_digit" 270 (.ref 73),hE P "_law_leaf" 279 (.ref 80),hE P "_law_record" 290 (.ref 87),hE P "_law_rows" 301 (.ref 94),hE P "_law_kind" 310 (.ref 101),hE P "_law_shape" 318 (.ref 108),hE P "_law_text" 328 (.ref 115),hE P "_law_number" 338 (.ref 122),hE P "_law_pairs" 344 (.ref 127),hE P "_law_value" 350 (.ref 132),hE P "_law_ways" 361 (.ref 139),hE P "_law_places" 367 (.ref 144),hE P "_law_odd" 379 (.ref 151),hE P "law" 398 (.ref 158)] 31 }) ::
 (nat_lit 20,hC "field_kind" "field_kind" 189 190 191 [.int 2 0,.int 2 0,.int 0 0,.int 0 0,.int 3 0,.ref 15,.bool Bool.true,.int 181 0,.ref 16,.none,.ref 17,.ref 18,.ref 19,.int 196 0,.int 2 0,hT 197]) ::
 (nat_lit 21,hF "field_kind" "field_kind" "oldhands.kinds" (top 1) 187 20) ::
 (nat_lit 27,hC "item_kind" "item_kind" 199 200 201 [.int 9 0,.int 1 0,.int 0 0,.int 0 0,.int 3 0,.ref 22,.bool Bool.true,.int 181 0,.ref 23,.none,.ref 24,.ref 25,.ref 26,.int 203 0,.int 9 0,hT 204]) ::
 (nat_lit 28,hF "item_kind" "item_kind" "oldhands.kinds" (top 2) 187 27) ::
 (nat_lit 34,hC "field_of" "field_of" 208 209 210 [.int 16 0,.int 2 0,.int 0 0,.int 0 0,.int 3 0,.ref 29,.bool Bool.true,.int 181 0,.ref 30,.none,.ref 31,.ref 32,.ref 33,.int 215 0,.int 16 0,hT 216]) ::
 (nat_lit 35,hF "field_of" "field_of" "oldhands.values" (top 4) 206 34) ::
 (nat_lit 39,hC "entries" "entries" 220 221 222 [.int 22 0,.int 2 0,.int 0 0,.int 0 0,.int 3 0,.ref 36,.bool Bool.true,.int 181 0,.ref 37,.none,.none,.none,.ref 38,.int 223 0,.int 22 0,hT 224]) ::
 (nat_lit 40,hF "entries" "entries" "oldhands.spots" (top 6) 218 39) ::
 (nat_lit 46,hC "inner_kind" "inner_kind" 226 227 228 [.int 30 0,.int 2 0,.int 0 0,.int 0 0,.int 3 0,.ref 41,.bool Bool.true,.int 181 0,.ref 42,.none,.ref 43,.ref 44,.ref 45,.int 231 0,.int 30 0,hT 232]) ::
 (nat_lit 47,hF "inner_kind" "inner_kind" "oldhands.spots" (top 7) 218 46) ::
 (nat_lit 51,hC "value_at" "value_at" 234 235 236 [.int 34 0,.int 3 0,.int 0 0,.int 0 0,.int 3 0,.ref 48,.bool Bool.true,.int 181 0,.ref 49,.none,.none,.none,.ref 50,.int 237 0,.int 34 0,hT 238]) ::
 (nat_lit 52,hF "value_at" "value_at" "oldhands.spots" (top 8) 218 51) ::
 (nat_lit 58,hC "_law_mixed" "_law_mixed" 242 243 244 [.int 45 0,.int 2 0,.int 0 0,.int 0 0,.int 3 0,.ref 53,.bool Bool.true,.int 181 0,.ref 54,.none,.ref 55,.ref 56,.ref 57,.int 248 0,.int 45 0,hT 249]) ::
 (nat_lit 59,hF "_law_mixed" "_law_mixed" "law_oldhands_k11_no_places" (top 10) 240 58) ::
 (nat_lit 65,hC "_law_stream" "_law_stream" 251 252 253 [.int 48 0,.int 2 0,.int 0 0,.int 0 0,.int 3 0,.ref 60,.bool Bool.true,.int 181 0,.ref 61,.none,.ref 62,.ref 63,.ref 64,.int 259 0,.int 48 0,hT 260]) ::
 (nat_lit 66,hF "_law_stream" "_law_stream" "law_oldhands_k11_no_places" (top 11) 240 65) ::
 (nat_lit 72,hC "_law_digit" "_law_digit" 262 263 264 [.int 58 0,.int 2 0,.int 0 0,.int 0 0,.int 3 0,.ref 67,.bool Bool.true,.int 181 0,.ref 68,.none,.ref 69,.ref 70,.ref 71,.int 268 0,.int 58 0,hT 269]) ::
 (nat_lit 73,hF "_law_digit" "_law_digit" "law_oldhands_k11_no_places" (top 12) 240 72) ::
 (nat_lit 79,hC "_law_leaf" "_law_leaf" 271 272 273 [.int 62 0,.int 1 0,.int 0 0,.int 0 0,.int 3 0,.ref 74,.bool Bool.true,.int 181 0,.ref 75,.none,.ref 76,.ref 77,.ref 78,.int 277 0,.int 62 0,hT 278]) ::
 (nat_lit 80,hF "_law_leaf" "_law_leaf" "law_oldhands_k11_no_places" (top 13) 240 79) ::
 (nat_lit 86,hC "_law_record" "_law_record" 280 281 282 [.int 70 0,.int 3 0,.int 0 0,.int 0 0,.int 3 0,.ref 81,.bool Bool.true,.int 181 0,.ref 82,.none,.ref 83,.ref 84,.ref 85,.int 288 0,.int 70 0,hT 289]) ::
 (nat_lit 87,hF "_law_record" "_law_record" "law_oldhands_k11_no_places" (top 14) 240 86) ::
 (nat_lit 93,hC "_law_rows" "_law_rows" 291 292 293 [.int 76 0,.int 2 0,.int 0 0,.int 0 0,.int 3 0,.ref 88,.bool Bool.true,.int 181 0,.ref 89,.none,.ref 90,.ref 91,.ref 92,.int 299 0,.int 76 0,hT 300]) ::
 (nat_lit 94,hF "_law_rows" "_law_rows" "law_oldhands_k11_no_places" (top 15) 240 93) ::
 (nat_lit 100,hC "_law_kind" "_law_kind" 302 303 304 [.int 81 0,.int 2 0,.int 0 0,.int 0 0,.int 3 0,.ref 95,.bool Bool.true,.int 181 0,.ref 96,.none,.ref 97,.ref 98,.ref 99,.int 308 0,.int 81 0,hT 309]) ::
 (nat_lit 101,hF "_law_kind" "_law_kind" "law_oldhands_k11_no_places" (top 16) 240 100) ::
 (nat_lit 107,hC "_law_shape" "_law_shape" 311 312 313 [.int 90 0,.int 1 0,.int 0 0,.int 0 0,.int 3 0,.ref 102,.bool Bool.true,.int 181 0,.ref 103,.none,.ref 104,.ref 105,.ref 106,.int 316 0,.int 90 0,hT 317]) ::
 (nat_lit 108,hF "_law_shape" "_law_shape" "law_oldhands_k11_no_places" (top 17) 240 107) ::
 (nat_lit 114,hC "_law_text" "_law_text" 319 320 321 [.int 95 0,.int 2 0,.int 0 0,.int 0 0,.int 3 0,.ref 109,.bool Bool.true,.int 181 0,.ref 110,.none,.ref 111,.ref 112,.ref 113,.int 326 0,.int 95 0,hT 327]) ::
 (nat_lit 115,hF "_law_text" "_law_text" "law_oldhands_k11_no_places" (top 18) 240 114) ::
 (nat_lit 121,hC "_law_number" "_law_number" 329 330 331 [.int 100 0,.int 3 0,.int 0 0,.int 0 0,.int 3 0,.ref 116,.bool Bool.true,.int 181 0,.ref 117,.none,.ref 118,.ref 119,.ref 120,.int 336 0,.int 100 0,hT 337]) ::
 (nat_lit 122,hF "_law_number" "_law_number" "law_oldhands_k11_no_places" (top 19) 240 121) ::
 (nat_lit 126,hC "_law_pairs" "_law_pairs" 339 340 341 [.int 107 0,.int 2 0,.int 0 0,.int 0 0,.int 3 0,.ref 123,.bool Bool.true,.int 181 0,.ref 124,.none,.none,.none,.ref 125,.int 342 0,.int 107 0,hT 343]) ::
 (nat_lit 127,hF "_law_pairs" "_law_pairs" "law_oldhands_k11_no_places" (top 20) 240 126) ::
 (nat_lit 131,hC "_law_value" "_law_value" 345 346 347 [.int 109 0,.int 2 0,.int 0 0,.int 0 0,.int 3 0,.ref 128,.bool Bool.true,.int 181 0,.ref 129,.none,.none,.none,.ref 130,.int 348 0,.int 109 0,hT 349]) ::
 (nat_lit 132,hF "_law_value" "_law_value" "law_oldhands_k11_no_places" (top 21) 240 131) ::
 (nat_lit 138,hC "_law_ways" "_law_ways" 351 352 353 [.int 125 0,.int 2 0,.int 0 0,.int 0 0,.int 3 0,.ref 133,.bool Bool.true,.int 181 0,.ref 134,.none,.ref 135,.ref 136,.ref 137,.int 359 0,.int 125 0,hT 360]) ::
 (nat_lit 139,hF "_law_ways" "_law_ways" "law_oldhands_k11_no_places" (top 22) 240 138) ::
 (nat_lit 143,hC "_law_places" "_law_places" 362 363 364 [.int 135 0,.int 3 0,.int 0 0,.int 0 0,.int 3 0,.ref 140,.bool Bool.true,.int 181 0,.ref 141,.none,.none,.none,.ref 142,.int 365 0,.int 135 0,hT 366]) ::
 (nat_lit 144,hF "_law_places" "_law_places" "law_oldhands_k11_no_places" (top 23) 240 143) ::
 (nat_lit 150,hC "_law_odd" "_law_odd" 368 369 370 [.int 152 0,.int 2 0,.int 0 0,.int 0 0,.int 3 0,.ref 145,.bool Bool.true,.int 181 0,.ref 146,.none,.ref 147,.ref 148,.ref 149,.int 377 0,.int 152 0,hT 378]) ::
 (nat_lit 151,hF "_law_odd" "_law_odd" "law_oldhands_k11_no_places" (top 24) 240 150) ::
 (nat_lit 157,hC "law" "law" 380 381 382 [.int 164 0,.int 1 0,.int 0 0,.int 0 0,.int 3 0,.ref 152,.bool Bool.true,.int 181 0,.ref 153,.none,.ref 154,.ref 155,.ref 156,.int 396 0,.int 164 0,hT 397]) ::
 (nat_lit 158,hF "law" "law" "law_oldhands_k11_no_places" (top 25) 240 157) :: []
noncomputable def hA : List Addr := [2,3,20,21,27,28,34,35,39,40,46,47,51,52,58,59,65,66,72,73,79,80,86,87,93,94,100,101,107,108,114,115,121,122,126,127,131,132,138,139,143,144,150,151,157,158]
theorem hKA : ∀ P,hA = (hK P).map (·.1) := fun _ => by kernel_rfl
noncomputable abbrev hH : PySem.W.Hook := PySem.W.kHook hK hA hKA
noncomputable abbrev hX (s : Shared) : Bool := PySem.W.xlAt PySem.Challenge.pw_oldhands_k11_no_places [] s && PySem.W.recOk (PySem.W.RowW.records (PySem.W.OpenRow.toRowW PySem.Challenge.rw_oldhands_k11_no_places.row)) s
theorem hl : PySem.W.LeftO PySem.Challenge.pw_oldhands_k11_no_places PySem.Challenge.pw_oldhands_k11_no_places [] hX hH.obs hH.val 1554 := fun w => by kernel_rfl
theorem said : PySem.Challenge.rw_oldhands_k11_no_places.wellSaid = true := by kernel_rfl
end K11
open PySem PySem.W PyProof.Rows
set_option maxRecDepth 100000 in
set_option maxHeartbeats 0 in
theorem PySem.Challenge.cw_oldhands_k11_no_places_holds : PySem.Challenge.rw_oldhands_k11_no_places.Holds := by
 w_on
 refine PySem.W.holds_law K11.said fun said => ?_
 refine PySem.W.holds_open (q := PySem.Challenge.pw_oldhands_k11_no_places) (loose := []) (Xt := K11.hX) (XP := PySem.W.XL PySem.Challenge.pw_oldhands_k11_no_places []) (Yf := K11.hH.obs) (Ya := K11.hH.val) (YP := PySem.W.InK K11.hK) (N := 1554) K11.hl K11.hH.of K11.hH.keeps (fun s e => PySem.W.xl_of s (Bool.and_eq_true_iff.mp e).1) PySem.W.XL.keeps (by rfl) (by rfl) (by rfl) (fun s e => PySem.W.recFacts_of (Bool.and_eq_true_iff.mp e).2) (by rfl) said (by decide +kernel) ⟨rfl,rfl,rfl,rfl,rfl,by decide +kernel⟩ ?hw ?hc
 case hw => w_witness2
 k_fill
 refine L2.walk_ofK (l := PySem.Challenge.rw_oldhands_k11_no_places) (K := K11.hK) (n := 63) (k := K11.depth) (x := "script") (CX := L2.CX0) (sp := K11.spLaw) rfl (by decide) rfl ⟨rfl,by decide,by decide⟩ (fun w h Y => Y) ?F (fun _ _ a ns hl _ hS => ⟨a,ns,rfl,hS,hl,fun _ => rfl⟩) (fun _ _ _ _ z => z)
 case F =>
  intro w mg fa h KX G hmg
  have T : K11.Tx (L2.KOf KX) mg := by
   dsimp only [L2.KOf]
   refine' K11.tx_mk KX G ?ya0 ?yl0 ?yc0 ?yk0 ?ya1 ?yl1 ?yc1 ?yk1 ?ya2 ?yl2 ?yc2 ?yk2 ?ya3 ?yl3 ?yc3 ?yk3 ?ya4 ?yl4 ?yc4 ?yk4 ?ya5 ?yl5 ?yc5 ?yk5 ?ya6 ?yl6 ?yc6 ?yk6 ?ya7 ?yl7 ?yc7 ?yk7 ?ya8 ?yl8 ?yc8 ?yk8 ?ya9 ?yl9 ?yc9 ?yk9 ?ya10 ?yl10 ?yc10 ?yk10 ?ya11 ?yl11 ?yc11 ?yk11 ?ya12 ?yl12 ?yc12 ?yk12 ?ya13 ?yl13 ?yc13 ?yk13 ?ya14 ?yl14 ?yc14 ?yk14 ?ya15 ?yl15 ?yc15 ?yk15 ?ya16 ?yl16 ?yc16 ?yk16 ?ya17 ?yl17 ?yc17 ?yk17 ?ya18 ?yl18 ?yc18 ?yk18 ?ya19 ?yl19 ?yc19 ?yk19 ?ya20 ?yl20 ?yc20 ?yk20 ?ya21 ?yl21 ?yc21 ?yk21 ?yz0 ?yz1 ?yz2 ?yz3 ?yz4 ?yz5 ?yz6 ?yz7 ?yz8
   (case ya0 => k_is)
   (case yl0 => k_is)
   (case yc0 => k_is)
   (case yk0 => k_is)
   (case ya1 => k_is)
   (case yl1 => k_is)
   (case yc1 => k_is)
   (case yk1 => k_is)
   (case ya2 => k_is)
   (case yl2 => k_is)
   (case yc2 => k_is)
   (case yk2 => k_is)
   (case ya3 => k_is)
   (case yl3 => k_is)
   (case yc3 => k_is)
   (case yk3 => k_is)
   (case ya4 => k_is)
   (case yl4 => k_is)
   (case yc4 => k_is)
   (case yk4 => k_is)
   (case ya5 => k_is)
   (case yl5 => k_is)
   (case yc5 => k_is)
   (case yk5 => k_is)
   (case ya6 => k_is)
   (case yl6 => k_is)
   (case yc6 => k_is)
   (case yk6 => k_is)
   (case ya7 => k_is)
   (case yl7 => k_is)
   (case yc7 => k_is)
   (case yk7 => k_is)
   (case ya8 => k_is)
   (case yl8 => k_is)
   (case yc8 => k_is)
   (case yk8 => k_is)
   (case ya9 => k_is)
   (case yl9 => k_is)
   (case yc9 => k_is)
   (case yk9 => k_is)
   (case ya10 => k_is)
   (case yl10 => k_is)
   (case yc10 => k_is)
   (case yk10 => k_is)
   (case ya11 => k_is)
   (case yl11 => k_is)
   (case yc11 => k_is)
   (case yk11 => k_is)
   (case ya12 => k_is)
   (case yl12 => k_is)
   (case yc12 => k_is)
   (case yk12 => k_is)
   (case ya13 => k_is)
   (case yl13 => k_is)
   (case yc13 => k_is)
   (case yk13 => k_is)
   (case ya14 => k_is)
   (case yl14 => k_is)
   (case yc14 => k_is)
   (case yk14 => k_is)
   (case ya15 => k_is)
   (case yl15 => k_is)
   (case yc15 => k_is)
   (case yk15 => k_is)
   (case ya16 => k_is)
   (case yl16 => k_is)
   (case yc16 => k_is)
   (case yk16 => k_is)
   (case ya17 => k_is)
   (case yl17 => k_is)
   (case yc17 => k_is)
   (case yk17 => k_is)
   (case ya18 => k_is)
   (case yl18 => k_is)
   (case yc18 => k_is)
   (case yk18 => k_is)
   (case ya19 => k_is)
   (case yl19 => k_is)
   (case yc19 => k_is)
   (case yk19 => k_is)
   (case ya20 => k_is)
   (case yl20 => k_is)
   (case yc20 => k_is)
   (case yk20 => k_is)
   (case ya21 => k_is)
   (case yl21 => k_is)
   (case yc21 => k_is)
   (case yk21 => k_is)
   (case yz0 => k_is)
   (case yz1 => k_is)
   (case yz2 => k_is)
   (case yz3 => k_is)
   (case yz4 => k_is)
   (case yz5 => k_is)
   (case yz6 => k_is)
   (case yz7 => k_is)
   (case yz8 => k_is)
  obtain ⟨fL,dL,L⟩ := T.law
  have e := hmg.symm.trans L.m
  cases e
  exact ⟨dL,K11.law_binds L.F,fun base _ _ => K11.ok_law T L⟩
#print axioms PySem.Challenge.cw_oldhands_k11_no_places_holds
