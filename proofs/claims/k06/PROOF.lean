import PyProof.Rows.All
import Wide.All
import OpenK.AllK
import Wide.FinOn
import Lean
import PyProof.EqAt
import PyProof.EqKinds
import PyProof.TupleCall
import PyProof.NeKinds
import KE.KIntText
import PyProof.StrCalls
import PyProof.ZipIter
import PyProof.Rows.SetFrom
import PyProof.SetRoads
import PyProof.CompUse
import PyProof.Rows.MinMaxN
import PyProof.Rows.SortStr
import PyProof.Rows.SortWalk
import PyProof.Rows.SeqMore2
import KE.KMinKey
import PyProof.Rows.CallKwBuiltin
import PyProof.TupleOfStr
import PyProof.Draws
import PyProof.Rows.TupIter
import KE.KxText
import PyProof.FString5
import PyProof.DictWalks
import PyProof.CollectStr
import PyProof.FactsAll.set_1
import PySem.Challenge.RW_oldhands_k06_fields
set_option Elab.async false
set_option linter.all false
set_option maxRecDepth 100000
set_option maxHeartbeats 4000000
namespace L2
open PySem PySem.Spec PyProof.Rows
noncomputable def defArgs (s : Stmt) : Arguments := match s with
 | .FunctionDef _ a _ _ _ _ _ _ _ _ => a
 | _ => { posonlyargs := [],args := [],vararg := none,kwonlyargs := [],kw_defaults := [],kwarg := none,defaults := [] }
noncomputable def defBody (s : Stmt) : List Stmt := match s with
 | .FunctionDef _ _ b _ _ _ _ _ _ _ => b
 | _ => []
noncomputable def defScope (s : Stmt) : Scope := match s with
 | .FunctionDef _ _ _ _ _ _ sc _ _ _ => sc
 | _ => { kind := .function,names := [],isGenerator := false,isCoroutine := false }
end L2
namespace K06
open PySem L2 PyProof.Rows
noncomputable def top (i : Nat) : Stmt := PySem.Challenge.pw_oldhands_k06_fields.main.body.getD i (.Pass ⟨0,0,0,0⟩)
noncomputable def hT (t : Nat) : Value := .str "/claim/cut.py" t
noncomputable def hE (P : Params) (x : Str) (t : Nat) (v : Value) : DictEntry := { hash := PyData.keyHash P x,key := .str x t,val := v }
noncomputable def hF (x y m : Str) (st : Stmt) (t c : Nat) : Obj := { cls := .type "function",data := .func (PySem.W.fnOf x y (defArgs st) (defBody st) (defScope st) .none .none .none (.str m t) none (.ref c) .none) }
noncomputable def hC (x y : Str) (t u v : Nat) (r : List Value) : Obj := { cls := .type "code",data := .fields (Array.mk (.str x t :: .str y u :: hT v :: r)) }
noncomputable def hK : Params → PySem.W.Frag := fun P =>
 (nat_lit 2,{ cls := .none,data := .dict #[] }) ::
 (nat_lit 3,{ cls := .type "dict",data := .dict #[hE P "__name__" 165 (.str ("law_oldhands_k06_fields") 223),hE P "__doc__" 166 (.none),hE P "__package__" 167 (.none),hE P "__loader__" 168 (.builtin "__main__.__loader__#opaque"),hE P "__spec__" 169 (.none),hE P "__annotations__" 170 (.ref 6),hE P "__builtins__" 171 (.ref 4),hE P "__file__" 173 (.str ("/claim/cut.py") 172),hE P "__cached__" 174 (.none),hE P "field_of" 198 (.ref 21),hE P "record_of" 204 (.ref 26),hE P "with_fields" 216 (.ref 33),hE P "without_fields" 222 (.ref 38),hE P "_law_cell_at" 232 (.ref 45),hE P "_law_mixed" 241 (.ref 52),hE P "_law_own" 252 (.ref 59),hE P "_law_digit" 261 (.ref 66),hE P "_law_names" 267 (.ref 71),hE P "_law_number_kind" 276 (.ref 78),hE P "_law_leaf_kind" 285 (.ref 85),hE P "_law_record_kind" 297 (.ref 92),hE P "_law_rows_kind" 311 (.ref 99),hE P "_law_kind" 321 (.ref 106),hE P "_law_text" 327 (.ref 111),hE P "_law_keys" 333 (.ref 116),hE P "_law_row_values" 339 (.ref 121),hE P "_law_value" 345 (.ref 126),hE P "_law_pool" 355 (.ref 133),hE P "law" 361 (.ref 138)] 29 }) ::
 (nat_lit 20,hC "field_of" "field_of" 189 190 191 [.int 2 0,.int 2 0,.int 0 0,.int 0 0,.int 3 0,.ref 15,.bool Bool.true,.int 181 0,.ref 16,.none,.ref 17,.ref 18,.ref 19,.int 196 0,.int 2 0,hT 197]) ::
 (nat_lit 21,hF "field_of" "field_of" "oldhands.values" (top 1) 187 20) ::
 (nat_lit 25,hC "record_of" "record_of" 199 200 201 [.int 7 0,.int 1 0,.int 0 0,.int 0 0,.int 3 0,.ref 22,.bool Bool.true,.int 181 0,.ref 23,.none,.none,.none,.ref 24,.int 202 0,.int 7 0,hT 203]) ::
 (nat_lit 26,hF "record_of" "record_of" "oldhands.values" (top 2) 187 25) ::
 (nat_lit 32,hC "with_fields" "with_fields" 205 206 207 [.int 9 0,.int 3 0,.int 0 0,.int 0 0,.int 3 0,.ref 27,.bool Bool.true,.int 181 0,.ref 28,.none,.ref 29,.ref 30,.ref 31,.int 214 0,.int 9 0,hT 215]) ::
 (nat_lit 33,hF "with_fields" "with_fields" "oldhands.values" (top 3) 187 32) ::
 (nat_lit 37,hC "without_fields" "without_fields" 217 218 219 [.int 14 0,.int 2 0,.int 0 0,.int 0 0,.int 3 0,.ref 34,.bool Bool.true,.int 181 0,.ref 35,.none,.none,.none,.ref 36,.int 220 0,.int 14 0,hT 221]) ::
 (nat_lit 38,hF "without_fields" "without_fields" "oldhands.values" (top 4) 187 37) ::
 (nat_lit 44,hC "_law_cell_at" "_law_cell_at" 225 226 227 [.int 17 0,.int 2 0,.int 0 0,.int 0 0,.int 3 0,.ref 39,.bool Bool.true,.int 181 0,.ref 40,.none,.ref 41,.ref 42,.ref 43,.int 230 0,.int 17 0,hT 231]) ::
 (nat_lit 45,hF "_law_cell_at" "_law_cell_at" "law_oldhands_k06_fields" (top 6) 223 44) ::
 (nat_lit 51,hC "_law_mixed" "_law_mixed" 233 234 235 [.int 21 0,.int 2 0,.int 0 0,.int 0 0,.int 3 0,.ref 46,.bool Bool.true,.int 181 0,.ref 47,.none,.ref 48,.ref 49,.ref 50,.int 239 0,.int 21 0,hT 240]) ::
 (nat_lit 52,hF "_law_mixed" "_law_mixed" "law_oldhands_k06_fields" (top 7) 223 51) ::
 (nat_lit 58,hC "_law_own" "_law_own" 242 243 244 [.int 24 0,.int 2 0,.int 0 0,.int 0 0,.int 3 0,.ref 53,.bool Bool.true,.int 181 0,.ref 54,.none,.ref 55,.ref 56,.ref 57,.int 250 0,.int 24 0,hT 251]) ::
 (nat_lit 59,hF "_law_own" "_law_own" "law_oldhands_k06_fields" (top 8) 223 58) ::
 (nat_lit 65,hC "_law_digit" "_law_digit" 253 254 255 [.int 32 0,.int 2 0,.int 0 0,.int 0 0,.int 3 0,.ref 60,.bool Bool.true,.int 181 0,.ref 61,.none,.ref 62,.ref 63,.ref 64,.int 259 0,.int 32 0,hT 260]) ::
 (nat_lit 66,hF "_law_digit" "_law_digit" "law_oldhands_k06_fields" (top 9) 223 65) ::
 (nat_lit 70,hC "_law_names" "_law_names" 262 263 264 [.int 36 0,.int 2 0,.int 0 0,.int 0 0,.int 3 0,.ref 67,.bool Bool.true,.int 181 0,.ref 68,.none,.none,.none,.ref 69,.int 265 0,.int 36 0,hT 266]) ::
 (nat_lit 71,hF "_law_names" "_law_names" "law_oldhands_k06_fields" (top 10) 223 70) ::
 (nat_lit 77,hC "_law_number_kind" "_law_number_kind" 268 269 270 [.int 46 0,.int 1 0,.int 0 0,.int 0 0,.int 3 0,.ref 72,.bool Bool.true,.int 181 0,.ref 73,.none,.ref 74,.ref 75,.ref 76,.int 274 0,.int 46 0,hT 275]) ::
 (nat_lit 78,hF "_law_number_kind" "_law_number_kind" "law_oldhands_k06_fields" (top 11) 223 77) ::
 (nat_lit 84,hC "_law_leaf_kind" "_law_leaf_kind" 277 278 279 [.int 50 0,.int 1 0,.int 0 0,.int 0 0,.int 3 0,.ref 79,.bool Bool.true,.int 181 0,.ref 80,.none,.ref 81,.ref 82,.ref 83,.int 283 0,.int 50 0,hT 284]) ::
 (nat_lit 85,hF "_law_leaf_kind" "_law_leaf_kind" "law_oldhands_k06_fields" (top 12) 223 84) ::
 (nat_lit 91,hC "_law_record_kind" "_law_record_kind" 286 287 288 [.int 60 0,.int 3 0,.int 0 0,.int 0 0,.int 3 0,.ref 86,.bool Bool.true,.int 181 0,.ref 87,.none,.ref 88,.ref 89,.ref 90,.int 295 0,.int 60 0,hT 296]) ::
 (nat_lit 92,hF "_law_record_kind" "_law_record_kind" "law_oldhands_k06_fields" (top 13) 223 91) ::
 (nat_lit 98,hC "_law_rows_kind" "_law_rows_kind" 298 299 300 [.int 66 0,.int 3 0,.int 0 0,.int 0 0,.int 3 0,.ref 93,.bool Bool.true,.int 181 0,.ref 94,.none,.ref 95,.ref 96,.ref 97,.int 309 0,.int 66 0,hT 310]) ::
 (nat_lit 99,hF "_law_rows_kind" "_law_rows_kind" "law_oldhands_k06_fields" (top 14) 223 98) ::
 (nat_lit 105,hC "_law_kind" "_law_kind" 312 313 314 [.int 78 0,.int 3 0,.int 0 0,.int 0 0,.int 3 0,.ref 100,.bool Bool.true,.int 181 0,.ref 101,.none,.ref 102,.ref 103,.ref 104,.int 319 0,.int 78 0,hT 320]) ::
 (nat_lit 106,hF "_law_kind" "_law_kind" "law_oldhands_k06_fields" (top 15) 223 105) ::
 (nat_lit 110,hC "_law_text" "_law_text" 322 323 324 [.int 88 0,.int 2 0,.int 0 0,.int 0 0,.int 3 0,.ref 107,.bool Bool.true,.int 181 0,.ref 108,.none,.none,.none,.ref 109,.int 325 0,.int 88 0,hT 326]) ::
 (nat_lit 111,hF "_law_text" "_law_text" "law_oldhands_k06_fields" (top 16) 223 110) ::
 (nat_lit 115,hC "_law_keys" "_law_keys" 328 329 330 [.int 91 0,.int 2 0,.int 0 0,.int 0 0,.int 3 0,.ref 112,.bool Bool.true,.int 181 0,.ref 113,.none,.none,.none,.ref 114,.int 331 0,.int 91 0,hT 332]) ::
 (nat_lit 116,hF "_law_keys" "_law_keys" "law_oldhands_k06_fields" (top 17) 223 115) ::
 (nat_lit 120,hC "_law_row_values" "_law_row_values" 334 335 336 [.int 99 0,.int 2 0,.int 0 0,.int 0 0,.int 3 0,.ref 117,.bool Bool.true,.int 181 0,.ref 118,.none,.none,.none,.ref 119,.int 337 0,.int 99 0,hT 338]) ::
 (nat_lit 121,hF "_law_row_values" "_law_row_values" "law_oldhands_k06_fields" (top 18) 223 120) ::
 (nat_lit 125,hC "_law_value" "_law_value" 340 341 342 [.int 114 0,.int 2 0,.int 0 0,.int 0 0,.int 3 0,.ref 122,.bool Bool.true,.int 181 0,.ref 123,.none,.none,.none,.ref 124,.int 343 0,.int 114 0,hT 344]) ::
 (nat_lit 126,hF "_law_value" "_law_value" "law_oldhands_k06_fields" (top 19) 223 125) ::
 (nat_lit 132,hC "_law_pool" "_law_pool" 346 347 348 [.int 133 0,.int 1 0,.int 0 0,.int 0 0,.int 3 0,.ref 127,.bool Bool.true,.int 181 0,.ref 128,.none,.ref 129,.ref 130,.ref 131,.int 353 0,.int 133 0,hT 354]) ::
 (nat_lit 133,hF "_law_pool" "_law_pool" "law_oldhands_k06_fields" (top 20) 223 132) ::
 (nat_lit 137,hC "law" "law" 356 357 358 [.int 139 0,.int 1 0,.int 0 0,.int 0 0,.int 3 0,.ref 134,.bool Bool.true,.int 181 0,.ref 135,.none,.none,.none,.ref 136,.int 359 0,.int 139 0,hT 360]) ::
 (nat_lit 138,hF "law" "law" "law_oldhands_k06_fields" (top 21) 223 137) :: []
noncomputable def hA : List Addr := [2,3,20,21,25,26,32,33,37,38,44,45,51,52,58,59,65,66,70,71,77,78,84,85,91,92,98,99,105,106,110,111,115,116,120,121,125,126,132,133,137,138]
theorem hKA : ∀ P,hA = (hK P).map (·.1) := fun _ => by kernel_rfl
noncomputable abbrev hH : PySem.W.Hook := PySem.W.kHook hK hA hKA
noncomputable abbrev hQ : Program := PySem.W.view PySem.Challenge.pw_oldhands_k06_fields [21]
noncomputable def hW : List Str := "field_of" :: "record_of" :: "with_fields" :: "without_fields" :: "_law_cell_at" :: "_law_mixed" :: "_law_own" :: "_law_digit" :: "_law_names" :: "_law_number_kind" :: "_law_leaf_kind" :: "_law_record_kind" :: "_law_rows_kind" :: "_law_kind" :: "_law_text" :: "_law_keys" :: "_law_row_values" :: "_law_value" :: "_law_pool" :: []
noncomputable abbrev hX (s : Shared) : Bool := PySem.W.recOk (PySem.W.RowW.records (PySem.W.OpenRow.toRowW PySem.Challenge.rw_oldhands_k06_fields.row)) s
theorem hl : PySem.W.LeftO PySem.Challenge.pw_oldhands_k06_fields hQ hW hX hH.obs hH.val 1352 := fun w => by kernel_rfl
theorem said : PySem.Challenge.rw_oldhands_k06_fields.wellSaid = true := by kernel_rfl
end K06
set_option Elab.async false
set_option linter.all false
set_option maxRecDepth 100000
namespace L2
open PySem PySem.Spec PyProof.Rows
noncomputable abbrev Key := Sum Int Str
noncomputable def keyIs : Key → Value → Bool
 | .inl k,v => Value.isInt k v
 | .inr x,v => Value.isStrOf x v
noncomputable def keyH (w : World) : Key → Int
 | .inl k => hashInt k
 | .inr x => hashStr w x
theorem keyIs_shape : ∀ {k : Key} {v : Value},keyIs k v = true → (∃ i t,k = Sum.inl i ∧ v = Value.int i t) ∨ (∃ x t,k = Sum.inr x ∧ v = Value.str x t)
 | .inl i,v,h => by
  obtain ⟨t,e⟩ := Value.isInt_shape (k := i) (v := v) h
  exact .inl ⟨i,t,rfl,e⟩
 | .inr x,v,h => by
  obtain ⟨t,e⟩ := Value.isStrOf_shape (x := x) (v := v) h
  exact .inr ⟨x,t,rfl,e⟩
theorem keyIs_int (i : Int) (t : Tok) : keyIs (.inl i) (.int i t) = true := by simp [keyIs,Value.isInt]
theorem keyIs_str (x : Str) (t : Tok) : keyIs (.inr x) (.str x t) = true := by simp [keyIs,Value.isStrOf]
theorem key_ll (a b : Int) : decide ((Sum.inl a : Key) = Sum.inl b) = (a == b) := by
 by_cases e : a = b
 ·subst e; simp
 ·have h : ¬ (Sum.inl a : Key) = Sum.inl b := fun q => e (Sum.inl.inj q)
  rw [decide_eq_false h]
  exact (beq_eq_false_iff_ne.mpr e).symm
theorem key_rr (a b : Str) : decide ((Sum.inr a : Key) = Sum.inr b) = decide (a = b) := by
 by_cases e : a = b
 ·subst e; simp
 ·have h : ¬ (Sum.inr a : Key) = Sum.inr b := fun q => e (Sum.inr.inj q)
  rw [decide_eq_false h,decide_eq_false e]
theorem key_lr (a : Int) (b : Str) : decide ((Sum.inl a : Key) = Sum.inr b) = false := decide_eq_false (fun q => nomatch q)
theorem key_rl (a : Str) (b : Int) : decide ((Sum.inr a : Key) = Sum.inl b) = false := decide_eq_false (fun q => nomatch q)
noncomputable def mixKind (prog : Program) (w : World) : PySem.KeyKind prog w Key where
 is := keyIs
 hash := keyH w
 inj := fun v a b ha hb => by
  rcases keyIs_shape ha with ⟨i,t,rfl,rfl⟩ | ⟨x,t,rfl,rfl⟩
  ·rcases keyIs_shape hb with ⟨j,u,rfl,e⟩ | ⟨y,u,rfl,e⟩
   ·injection e with e1 _; rw [e1]
   ·exact nomatch e
  ·rcases keyIs_shape hb with ⟨j,u,rfl,e⟩ | ⟨y,u,rfl,e⟩
   ·exact nomatch e
   ·injection e with e1 _; rw [e1]
 byValue := fun k v h => by
  rcases keyIs_shape h with ⟨i,t,rfl,rfl⟩ | ⟨x,t,rfl,rfl⟩ <;> rfl
 pyHash := fun hv h => by
  rcases keyIs_shape hv with ⟨i,t,rfl,rfl⟩ | ⟨x,t,rfl,rfl⟩
  ·exact wpAny_pyHash_int h
  ·exact wpAny_pyHash_str h
 eqBool := fun hu hv h => by
  rcases keyIs_shape hu with ⟨i,t,rfl,rfl⟩ | ⟨x,t,rfl,rfl⟩
  ·rcases keyIs_shape hv with ⟨j,u,rfl,rfl⟩ | ⟨y,u,rfl,rfl⟩
   ·rw [key_ll] at h; exact wpAny_eqBool_int h
   ·rw [key_lr] at h; exact SeqAt.EqAt.int_str i t y u _ _ _ _ h
  ·rcases keyIs_shape hv with ⟨j,u,rfl,rfl⟩ | ⟨y,u,rfl,rfl⟩
   ·rw [key_rl] at h; exact SeqAt.EqAt.str_int x t j u _ _ _ _ h
   ·rw [key_rr] at h; exact wpAny_eqBool_str h
 «strs» := fun k x t v h => by
  rcases keyIs_shape h with ⟨i,u,rfl,e⟩ | ⟨y,u,rfl,e⟩
  ·exact nomatch e
  ·injection e with e1 _
   subst e1
   cases v <;> rfl
theorem mixKind_int (prog : Program) (w : World) (i : Int) (t : Tok) : (mixKind prog w).is (.inl i) (.int i t) = true := keyIs_int i t
theorem mixKind_str (prog : Program) (w : World) (x : Str) (t : Tok) : (mixKind prog w).is (.inr x) (.str x t) = true := keyIs_str x t
end L2
namespace L2
open PySem PySem.Spec PyProof.Rows
inductive V where
 | non | bl (b : Bool) | int (i : Int) | str (x : Str) | byt (b : Array UInt8) | flt (b : UInt64) | ref (a : Addr) | ty (n : String)
 deriving DecidableEq
noncomputable def RelV : V → Value → Prop
 | .non,u => u = Value.none
 | .bl b,u => u = Value.bool b
 | .int i,u => ∃ t,u = Value.int i t
 | .str x,u => ∃ t,u = Value.str x t
 | .byt b,u => ∃ t,u = Value.bytes b t
 | .flt b,u => ∃ t,u = Value.float b t
 | .ref a,u => u = Value.ref a
 | .ty n,u => u = Value.type n
noncomputable abbrev Vals : List V → List Value → Prop := Paired RelV
theorem Vals.length {xs : List V} {us : List Value} (r : Vals xs us) : xs.length = us.length := Paired.length r
theorem Vals.get : ∀ {xs : List V} {us : List Value} {i : Nat} {x : V},Vals xs us → xs[i]? = some x → ∃ u,us[i]? = some u ∧ RelV x u
 | _,_,_,_,.nil,e => by simp at e
 | _,_,0,_,.cons r _,e => by simp at e; subst e; exact ⟨_,rfl,r⟩
 | _,_,i + 1,x,.cons _ t,e => by
  obtain ⟨u,h1,h2⟩ := Vals.get (i := i) (x := x) t (by simpa using e)
  exact ⟨u,by simpa using h1,h2⟩
theorem Vals.set {x : V} {u : Value} (r : RelV x u) : ∀ {xs : List V} {us : List Value} (i : Nat),Vals xs us → Vals (xs.set i x) (us.set i u)
 | _,_,_,.nil => .nil
 | _,_,0,.cons _ t => .cons r t
 | _,_,i + 1,.cons q t => .cons q (Vals.set r i t)
theorem Vals.append : ∀ {xs ys : List V} {us ws : List Value},Vals xs us → Vals ys ws → Vals (xs ++ ys) (us ++ ws)
 | _,_,_,_,.nil,s => s
 | _,_,_,_,.cons r t,s => .cons r (Vals.append t s)
theorem Vals.take : ∀ {xs : List V} {us : List Value} (n : Nat),Vals xs us → Vals (xs.take n) (us.take n)
 | _,_,0,_ => .nil
 | _,_,_ + 1,.nil => .nil
 | _,_,n + 1,.cons r t => .cons r (Vals.take n t)
theorem Vals.drop : ∀ {xs : List V} {us : List Value} (n : Nat),Vals xs us → Vals (xs.drop n) (us.drop n)
 | _,_,0,r => r
 | _,_,_ + 1,.nil => .nil
 | _,_,n + 1,.cons _ t => Vals.drop n t
noncomputable def RelO : Option V → Option Value → Prop
 | some v,some u => RelV v u
 | none,none => True
 | _,_ => False
noncomputable def KV {κ : Type} : List (κ × V) → List (κ × Value) → Prop := Paired fun (p : κ × V) (q : κ × Value) => p.1 = q.1 ∧ RelV p.2 q.2
noncomputable def kV : Key → V
 | .inl i => .int i
 | .inr x => .str x
inductive HO where
 | lst (xs : List V)
 | tup (xs : List V)
 | dK (kvs : List (Key × V)) | dT (kvs : List (List Key × V))
 | set (S : Int → Bool) (n : Nat)
 | ins (C dx : Addr) (fs : List (Str × V))
 | own (x : Addr)
 | xd (fs : List (Str × V))
 | met (f x : Addr)
 | rng (lo hi : Int)
 | frz (o : Obj) (u : HO)
 | tbl (ps : Array Value)
 | ext (φ : Heap → Prop)
noncomputable abbrev Hp := Addr → Option HO
noncomputable def upd (H : Hp) (a : Addr) (o : HO) : Hp := fun b => if b = a then some o else H b
theorem upd_same {H : Hp} {a : Addr} {o : HO} : upd H a o a = some o := by unfold upd; rw [if_pos rfl]
theorem upd_ne {H : Hp} {a b : Addr} {o : HO} (h : b ≠ a) : upd H a o b = H b := by unfold upd; rw [if_neg h]
theorem ne_of {H : Hp} {a b : Addr} {o u : HO} (h : H a = some o) (h' : H b = some u) (d : o ≠ u) : a ≠ b := by
 intro e; subst e; rw [h] at h'; exact d (Option.some.inj h')
theorem ne_of_none {H : Hp} {a b : Addr} {o : HO} (h : H a = some o) (h' : H b = none) : a ≠ b := by
 intro e; subst e; rw [h] at h'; cases h'
section
variable (P : Program) (w : World)
noncomputable def ObjOk (H : Hp) (h : Heap) (a : Addr) : HO → Prop
 | .lst xs => xs.length ≤ sizeLine ∧ ∃ (its : List Value) (n : Nat),Vals xs its ∧ h.get? a = some { cls := .type "list",data := .seq its.toArray n }
 | .tup xs => xs.length ≤ sizeLine ∧ ∃ its : List Value,Vals xs its ∧ IsTup h a its.toArray
 | .dK kvs => kvs.length ≤ sizeLine ∧ (a == sysModules) = false ∧ ∃ vs,KV kvs vs ∧ h.DictOf (mixKind P w) a vs
 | .dT kvs => kvs.length ≤ sizeLine ∧ (a == sysModules) = false ∧ ∃ xs : List (List Key × Addr × Value),
   Paired (fun (p : List Key × V) (q : List Key × Addr × Value) => p.1 = q.1 ∧ H q.2.1 = some (.tup (p.1.map kV)) ∧ RelV p.2 q.2.2) kvs xs ∧
   ∃ o es ep,h.get? a = some o ∧ o.ExactDict ∧ o.data = .dict es ep ∧ es.toList = xs.map (entryOfKey (tupleKind (mixKind P w))) ∧ (xs.map (·.1)).Nodup
 | .set S n => h.SetOf (intKind P w) a S n
 | .ins C dx fs => H dx = some (.own a) ∧ fs.length ≤ 1000 ∧ dx ≠ a ∧ h.get? a = some (PySem.W.instObj C dx) ∧
   ∃ mA,h.Ns1 dx mA ∧ (∀ f,RelO (fs.lookup f) (mA f)) ∧ PySem.Within mA (fs.map (·.1))
 | .own _ => ∃ o,h.get? a = some o
 | .xd fs => ∃ mA,h.Ns1 a mA ∧ ∀ f,RelO (fs.lookup f) (mA f)
 | .rng lo hi => ∃ t u v,h.get? a = some { cls := .type "range",data := .fields #[.int lo t,.int hi u,.int 1 v] }
 | .frz o u => h.get? a = some o ∧ ObjOk H h a u
 | .tbl ps => h.get? a = some { cls := .none,data := .fields ps }
 | .met f x => h.get? a = some (PySem.W.methodObj (.ref f) (.ref x))
 | .ext φ => φ h ∧ (∃ o,h.get? a = some o) ∧ ∀ h1 h2 : Heap,φ h1 → (∀ o,h1.get? a = some o → h2.get? a = some o) → φ h2
noncomputable def HOk (H : Hp) (h : Heap) : Prop := ∀ a o,H a = some o → ObjOk P w H h a o
end
section
variable {P : Program} {w : World} {H H' : Hp} {h h' : Heap} {a : Addr} {o : HO}
theorem ObjOk.lt (x : ObjOk P w H h a o) : a < h.objs.size := by
 cases o with
 | lst xs => obtain ⟨_,_,_,_,e⟩ := x; exact Heap.lt_size e
 | tup xs => obtain ⟨_,_,_,p⟩ := x; exact p.lt
 | dK kvs => obtain ⟨_,_,_,_,o,_,_,e,_⟩ := x; exact Heap.lt_size e
 | dT kvs => obtain ⟨_,_,_,_,o,_,_,e,_⟩ := x; exact Heap.lt_size e
 | set S n => obtain ⟨o,_,_,_,e,_⟩ := x; exact Heap.lt_size e
 | ins C dx fs => obtain ⟨_,_,_,e,_⟩ := x; exact Heap.lt_size e
 | own y => obtain ⟨_,e⟩ := x; exact Heap.lt_size e
 | xd fs => obtain ⟨_,⟨_,_,_,e,_⟩,_⟩ := x; exact Heap.lt_size e
 | rng lo hi => obtain ⟨_,_,_,e⟩ := x; exact Heap.lt_size e
 | frz ob u => obtain ⟨e,_⟩ := x; exact Heap.lt_size e
 | tbl ps => exact Heap.lt_size (show h.get? a = some _ from x)
 | met f y => exact Heap.lt_size (show h.get? a = some _ from x)
 | ext φ => obtain ⟨_,⟨_,e⟩,_⟩ := x; exact Heap.lt_size e
theorem Paired.mapP {α β : Type} {F G : α → β → Prop} : ∀ {l₁ : List α} {l₂ : List β},Paired F l₁ l₂ → (∀ a b,F a b → G a b) → Paired G l₁ l₂
 | _,_,.nil,_ => .nil
 | _,_,.cons r t,f => .cons (f _ _ r) (Paired.mapP t f)
theorem ObjOk.stay (x : ObjOk P w H h a o) (k : ∀ b u,(b = a ∨ H b = some (.own a)) → h.get? b = some u → h'.get? b = some u)
  (ho : ∀ b,H b = some (.own a) → H' b = some (.own a)) (ht : ∀ b xs,H b = some (.tup xs) → H' b = some (.tup xs)) : ObjOk P w H' h' a o := by
 induction o with
 | lst xs => obtain ⟨z,its,n,r,e⟩ := x; exact ⟨z,its,n,r,k _ _ (.inl rfl) e⟩
 | tup xs => obtain ⟨z,its,r,ob,e,c⟩ := x; exact ⟨z,its,r,ob,k _ _ (.inl rfl) e,c⟩
 | dK kvs => obtain ⟨z,y,vs,r,ob,es,ep,e,c⟩ := x; exact ⟨z,y,vs,r,ob,es,ep,k _ _ (.inl rfl) e,c⟩
 | dT kvs =>
  obtain ⟨z,y,xs,r,ob,es,ep,e,c⟩ := x
  exact ⟨z,y,xs,Paired.mapP r fun p q z => ⟨z.1,ht _ _ z.2.1,z.2.2⟩,ob,es,ep,k _ _ (.inl rfl) e,c⟩
 | set S n => obtain ⟨ob,es,ep,t,e,c⟩ := x; exact ⟨ob,es,ep,t,k _ _ (.inl rfl) e,c⟩
 | ins C dx fs =>
  obtain ⟨d,z,ne,e,mA,⟨od,es,ep,e2,c⟩,r⟩ := x
  exact ⟨ho _ d,z,ne,k _ _ (.inl rfl) e,mA,⟨od,es,ep,k _ _ (.inr d) e2,c⟩,r⟩
 | own y => obtain ⟨ob,e⟩ := x; exact ⟨ob,k _ _ (.inl rfl) e⟩
 | xd fs => obtain ⟨mA,⟨od,es,ep,e,c⟩,r⟩ := x; exact ⟨mA,⟨od,es,ep,k _ _ (.inl rfl) e,c⟩,r⟩
 | rng lo hi => obtain ⟨t,u,v,e⟩ := x; exact ⟨t,u,v,k _ _ (.inl rfl) e⟩
 | frz ob u ih => obtain ⟨e,q⟩ := x; exact ⟨k _ _ (.inl rfl) e,ih q⟩
 | tbl ps =>
  have e : h.get? a = some { cls := .none,data := .fields ps } := x
  show h'.get? a = some { cls := .none,data := .fields ps }
  exact k a _ (.inl rfl) e
 | met f y =>
  have e : h.get? a = some (PySem.W.methodObj (.ref f) (.ref y)) := x
  show h'.get? a = some (PySem.W.methodObj (.ref f) (.ref y))
  exact k a _ (.inl rfl) e
 | ext φ => obtain ⟨p,⟨o,e⟩,st⟩ := x; exact ⟨st _ _ p fun o q => k _ _ (.inl rfl) q,⟨o,k _ _ (.inl rfl) e⟩,st⟩
theorem HOk.lt (x : HOk P w H h) (e : H a = some o) : a < h.objs.size := (x a o e).lt
theorem HOk.fresh (x : HOk P w H h) (e : h.objs.size ≤ a) : H a = none := by
 cases q : H a with
 | none => rfl
 | some u => exact absurd (Nat.lt_of_lt_of_le (x.lt q) e) (Nat.lt_irrefl _)
theorem HOk.kept (x : HOk P w H h) (k : ∀ b u,h.get? b = some u → h'.get? b = some u) : HOk P w H h' := fun a o e =>
 (x a o e).stay (fun b u _ q => k b u q) (fun _ q => q) fun _ _ q => q
theorem HOk.laid (x : HOk P w H h) (k : ∀ b u,h.get? b = some u → h'.get? b = some u) (hp : h.objs.size ≤ a) (new : ObjOk P w (upd H a o) h' a o) : HOk P w (upd H a o) h' := fun b u e => by
 have hn := x.fresh hp
 by_cases hb : b = a
 ·subst hb; rw [upd_same] at e; cases e; exact new
 ·rw [upd_ne hb] at e
  exact (x b u e).stay (fun c v _ q => k c v q) (fun c q => by rw [upd_ne (ne_of_none q hn)]; exact q) fun c xs q => by rw [upd_ne (ne_of_none q hn)]; exact q
end
noncomputable def Rd (H : Hp) (a : Addr) (u : HO) : Prop := H a = some u ∨ ∃ o,H a = some (.frz o u)
theorem Rd.ok {P : Program} {w : World} {H : Hp} {h : Heap} {a : Addr} {u : HO} (r : Rd H a u) (x : HOk P w H h) : ObjOk P w H h a u := by
 rcases r with r | ⟨o,r⟩
 ·exact x a u r
 ·obtain ⟨_,q⟩ := x a _ r
  exact q
noncomputable def Mut : Option HO → Prop
 | some (.lst _) => True
 | some (.dK _) => True
 | some (.dT _) => True
 | some (.set _ _) => True
 | some (.ins _ _ _) => True
 | some (.ext _) => True
 | _ => False
section
variable {P : Program} {w : World} {H : Hp} {h h' : Heap} {x e : Addr} {o' : HO}
theorem HOk.write (ok : HOk P w H h) (mu : Mut (H x)) (he : e = x ∨ H e = some (.own x)) (k : ∀ b u,b ≠ e → h.get? b = some u → h'.get? b = some u) (heo : ∃ u,h'.get? e = some u)
  (new : ObjOk P w (upd H x o') h' x o') : HOk P w (upd H x o') h' := fun b u q => by
 have nown : ∀ c y,H c = some (.own y) → c ≠ x := fun c y r z => by subst z; rw [r] at mu; exact mu
 have ntup : ∀ c xs,H c = some (.tup xs) → c ≠ x := fun c xs r z => by subst z; rw [r] at mu; exact mu
 by_cases hb : b = x
 ·subst hb; rw [upd_same] at q; cases q; exact new
 ·rw [upd_ne hb] at q
  by_cases hbe : b = e
  ·have q' : H b = some (.own x) := by
    rcases he with z | z
    ·exact absurd (hbe.trans z) hb
    ·rw [hbe]; exact z
   rw [q] at q'; cases q'
   obtain ⟨v,hv⟩ := heo
   exact ⟨v,by rw [hbe]; exact hv⟩
  ·refine (ok b u q).stay (fun c v hc r => k c v ?_ r) (fun c r => by rw [upd_ne (nown c b r)]; exact r) fun c xs r => by rw [upd_ne (ntup c xs r)]; exact r
   rcases hc with rfl | hc
   ·exact hbe
   ·rintro rfl
    rcases he with z | z
    ·exact nown c b hc z
    ·rw [hc] at z; cases z; exact hb rfl
end
structure Un (fs ex : List Addr) (H H' : Hp) (h h' : Heap) : Prop where
 keep : ∀ b o,h.get? b = some o → H b = none → b ∉ fs → b ∉ ex → h'.get? b = some o
 slot : ∀ b o,h.get? b = some o → H b = none → b ∈ fs → b ∉ ex → ∃ sl,h'.get? b = some { o with slots := sl }
 free : ∀ b o,h.get? b = some o → H b = none → b ∉ ex → H' b = none
 there : ∀ b o,h.get? b = some o → b ∉ ex → ∃ o',h'.get? b = some o'
 tups : ∀ b xs,H b = some (.tup xs) → H' b = some (.tup xs)
 frzs : ∀ b o u,H b = some (.frz o u) → H' b = some (.frz o u)
 tbls : ∀ b ps,H b = some (.tbl ps) → ∃ more,H' b = some (.tbl (ps ++ more))
section
variable {fs fs' ex ex' : List Addr} {H H1 H2 : Hp} {h h1 h2 h' : Heap} {a x e : Addr} {o : HO}
theorem Un.any (u : Un fs ex H H1 h h1) {b : Addr} {ob : Obj} (q : h.get? b = some ob) (n : H b = none) (hx : b ∉ ex) : ∃ sl,h1.get? b = some { ob with slots := sl } := by
 by_cases hb : b ∈ fs
 ·exact u.slot b ob q n hb hx
 ·exact ⟨ob.slots,u.keep b ob q n hb hx⟩
theorem Un.kept (k : ∀ b u,h.get? b = some u → h'.get? b = some u) : Un fs ex H H h h' :=
 ⟨fun b ob q _ _ _ => k b ob q,fun b ob q _ _ _ => ⟨ob.slots,k b ob q⟩,fun _ _ _ n _ => n,fun b ob q _ => ⟨ob,k b ob q⟩,fun _ _ q => q,fun _ _ _ q => q,fun _ ps q => ⟨#[],by rw [q]; simp⟩⟩
theorem Un.refl : Un fs ex H H h h := Un.kept fun _ _ q => q
theorem Un.laid (k : ∀ b u,h.get? b = some u → h'.get? b = some u) (hp : h.objs.size ≤ a) (hn : H a = none) : Un fs ex H (upd H a o) h h' where
 keep := fun b u q _ _ _ => k b u q
 slot := fun b u q _ _ _ => ⟨u.slots,k b u q⟩
 free := fun b u q n _ => by rw [upd_ne (Nat.ne_of_lt (Nat.lt_of_lt_of_le (Heap.lt_size q) hp))]; exact n
 there := fun b u q _ => ⟨u,k b u q⟩
 tups := fun b xs q => by rw [upd_ne (ne_of_none q hn)]; exact q
 frzs := fun b u xs q => by rw [upd_ne (ne_of_none q hn)]; exact q
 tbls := fun b ps q => ⟨#[],by rw [upd_ne (ne_of_none q hn),q]; simp⟩
theorem Un.write (mu : Mut (H x)) (he : e = x ∨ H e = some (.own x)) (k : ∀ b u,b ≠ e → h.get? b = some u → h'.get? b = some u) (heo : ∃ u,h'.get? e = some u) : Un fs ex H (upd H x o) h h' := by
 have hx : ∀ b,H b = none → b ≠ x := fun b n z => by subst z; rw [n] at mu; exact mu
 have hb : ∀ b,H b = none → b ≠ e := fun b n z => by
  subst z
  rcases he with r | r
  ·exact hx b n r
  ·rw [n] at r; cases r
 have hm : ∀ b u,H b = some u → ¬ Mut (some u) → b ≠ x := fun b u q nm z => by subst z; rw [q] at mu; exact nm mu
 refine ⟨fun b u q n _ _ => k b u (hb b n) q,fun b u q n _ _ => ⟨u.slots,k b u (hb b n) q⟩,fun b u q n _ => by rw [upd_ne (hx b n)]; exact n,fun b u q _ => ?_,
  fun b xs q => by rw [upd_ne (hm b _ q fun z => z)]; exact q,fun b u xs q => by rw [upd_ne (hm b _ q fun z => z)]; exact q,fun b ps q => ⟨#[],by rw [upd_ne (hm b _ q fun z => z),q]; simp⟩⟩
 by_cases hbe : b = e
 ·subst hbe; exact heo
 ·exact ⟨u,k b u hbe q⟩
end
noncomputable def trk (h : Heap) (H : Hp) : List Addr := (List.range h.objs.size).filter fun a => (H a).isSome
noncomputable def hidT (h : Heap) (H : Hp) : Heap := PySem.W.hideAll h (trk h H)
theorem hidT_size (h : Heap) (H : Hp) : (hidT h H).objs.size = h.objs.size := PySem.W.hideAll_size _ _
theorem hidT_get {h : Heap} {H : Hp} {b : Addr} {o : Obj} (e : h.get? b = some o) (n : H b = none) : (hidT h H).get? b = some o :=
 PySem.W.hideAll_get _ e fun hm => by
  have q : (H b).isSome = true := (List.mem_filter.mp hm).2
  rw [n] at q; simp at q
theorem of_hidT {h : Heap} {H : Hp} {b : Addr} {o : Obj} (e : (hidT h H).get? b = some o) : h.get? b = some o ∧ H b = none := by
 have e' : h.get? b = some o := PySem.W.of_hideAll (trk h H) e
 refine ⟨e',?_⟩
 cases q : H b with
 | none => rfl
 | some x =>
  have hm : b ∈ trk h H := List.mem_filter.mpr ⟨List.mem_range.mpr (Heap.lt_size e'),by simp [q]⟩
  have z : (hidT h H).get? b = none := PySem.W.hideAll_none (trk h H) hm
  rw [z] at e; cases e
noncomputable def allNews (g h : Heap) (L : Addr) : List (Addr × Obj) := (List.range h.objs.size).filterMap fun a => if a = L ∨ (g.get? a).isSome = true then none else (h.get? a).map fun o => (a,o)
noncomputable def rest (g h : Heap) (L d : Addr) : List (Addr × Obj) := (allNews g h L).filter fun p => decide (p.1 ≠ d)
end L2
namespace L2
open PySem PySem.Spec PyProof.Rows
structure Mod (K : PySem.W.Frag) (mg : Str → Option Value) (base : Heap) : Prop where
 kin : K.In base
 glob : base.Ns mainGlobals mg
 blt : ∃ mb,base.Ns builtinsNs mb ∧ ∀ x : Str,x ≠ "__name__" → mb x = bootBuiltins x
 nolimit : base.NoLimit
structure Cx where
 prog : Program
 w : World
 K : PySem.W.Frag
 mg : Str → Option Value
 base : Heap
 A : Around
 N : List Str
 s₀ : Shared
 H₀ : Hp
 env : Env
 outer : List Env
 stack : List Env
 ex : List Addr
 fn : Str → Bool
 calm : Bool
 pn : List (Addr × Obj)
 xe : Value → Shared → Prop
noncomputable def frs (l : List Env) : List Addr := l.filterMap (·.frame)
noncomputable abbrev Cx.fs (X : Cx) : List Addr := frs X.outer
noncomputable def Vis (sc : Scope) (x : Str) : Prop := sc.names.lookup x = some .local ∨ sc.names.lookup x = some .cell ∨ sc.names.lookup x = some .free
noncomputable def Loc (sc : Scope) (x : Str) : Prop := sc.names.lookup x = some .local ∨ sc.names.lookup x = some .cell
noncomputable def Look (env : Env) (h : Heap) (m : Str → Option Value) (x : Str) (u : Value) : Prop :=
 (env.kindOf x = some .local ∧ m x = some u) ∨ ((env.kindOf x = some .cell ∨ env.kindOf x = some .free) ∧ ∃ c,env.cells.lookup x = some c ∧ h.IsCell c (some u))
structure Cx.Ok (X : Cx) : Prop where
 mod : Mod X.K X.mg X.base
 kind : X.env.scope.kind = .function
 glob : X.env.globals = mainGlobals
 blt : X.env.builtins = builtinsNs
 above : X.s₀.heap.objs.size ≤ X.env.locals
 inj : ∀ x y c,X.env.cells.lookup x = some c → X.env.cells.lookup y = some c → x = y
 has : ∀ x,(X.env.kindOf x = some .cell ∨ X.env.kindOf x = some .free) → ∃ c,X.env.cells.lookup x = some c
 cab : ∀ x c,X.fn x = true → X.env.cells.lookup x = some c → X.s₀.heap.objs.size ≤ c
 hd : X.calm = true → X.A.handled = none
 frames : X.A.frames = some X.stack
 stk : X.stack = X.outer ∨ (X.stack = X.env :: X.outer ∧ X.env.frame = some X.env.locals)
 exf : ∀ b ∈ X.ex,b ≠ X.env.locals ∧ ∀ x c,X.env.cells.lookup x = some c → c ≠ b
 bs : ∀ b o,X.base.get? b = some o → X.s₀.heap.get? b = some o ∧ X.H₀ b = none
 bsz : X.base.objs.size ≤ X.s₀.heap.objs.size
 noex : ∀ b o,X.base.get? b = some o → b ∉ X.ex
 exfs : ∀ b ∈ X.ex,b ∉ X.fs
 funs : X.s₀.heap.FunFrames X.base X.outer
 frf : ∀ b ∈ X.fs,X.H₀ b = none
structure Inv (X : Cx) (pins : List (Addr × Obj)) (σ : List (Option V)) (H : Hp) (s : Shared) : Prop where
 ok : X.Ok
 os : s.os = X.s₀.os
 bare : AllBare s.gens
 base : Un X.fs X.ex X.H₀ H X.s₀.heap s.heap
 loc : ∃ m,s.heap.Ns X.env.locals m ∧ ∀ (i : Nat) (x : Str) (v : V),X.N[i]? = some x → σ[i]? = some (some v) → Vis X.env.scope x → ∃ u,RelV v u ∧ Look X.env s.heap m x u
 cell : ∀ x c,X.env.cells.lookup x = some c → ∃ v,s.heap.IsCell c v
 free : H X.env.locals = none
 freeC : ∀ x c,X.env.cells.lookup x = some c → H c = none
 pin : ∀ p ∈ X.pn ++ pins,s.heap.get? p.1 = some p.2 ∧ H p.1 = none ∧ p.1 ≠ X.env.locals ∧ p.1 ∉ X.fs ∧ ∀ v,p.2.data ≠ .cell v
 hok : HOk X.prog X.w H s.heap
 len : σ.length = X.N.length
section
variable {X : Cx} {pins : List (Addr × Obj)} {σ : List (Option V)} {H H' : Hp} {s : Shared} {h' : Heap}
theorem Cx.Ok.nofr (ok : X.Ok) {b : Addr} {o : Obj} (e : X.base.get? b = some o) : b ∉ X.fs := fun hb => by
 have := (ok.funs.mem hb).1
 rw [e] at this; cases this
theorem Inv.bs (I : Inv X pins σ H s) : ∀ b o,X.base.get? b = some o → s.heap.get? b = some o ∧ H b = none := fun b o e =>
 ⟨I.base.keep b o (I.ok.bs b o e).1 (I.ok.bs b o e).2 (I.ok.nofr e) (I.ok.noex b o e),I.base.free b o (I.ok.bs b o e).1 (I.ok.bs b o e).2 (I.ok.noex b o e)⟩
theorem Inv.bk (I : Inv X pins σ H s) : ∀ b o,X.base.get? b = some o → s.heap.get? b = some o := fun b o e => (I.bs b o e).1
theorem Inv.mod (I : Inv X pins σ H s) : Mod X.K X.mg X.base := I.ok.mod
theorem Inv.kIn (I : Inv X pins σ H s) : X.K.In s.heap := I.ok.mod.kin.keeps I.bk
theorem Inv.lt (I : Inv X pins σ H s) : X.env.locals < s.heap.objs.size := let ⟨_,hn,_⟩ := I.loc; hn.lt
theorem Inv.sz (I : Inv X pins σ H s) : X.s₀.heap.objs.size ≤ s.heap.objs.size := Nat.le_trans I.ok.above (Nat.le_of_lt I.lt)
theorem Inv.nofs (I : Inv X pins σ H s) {a : Addr} (h : s.heap.objs.size ≤ a) : a ∉ X.fs := fun hb => by
 obtain ⟨_,o,ho,_⟩ := I.ok.funs.mem hb
 exact absurd (Nat.lt_of_lt_of_le (Heap.lt_size ho) (Nat.le_trans I.sz h)) (Nat.lt_irrefl _)
theorem Inv.cne (I : Inv X pins σ H s) : ∀ x c,X.env.cells.lookup x = some c → c ≠ X.env.locals := fun x c e z => by
 obtain ⟨v,o,ho,hd⟩ := I.cell x c e
 obtain ⟨m,⟨o',es,ep,ho',hd',_⟩,_⟩ := I.loc
 rw [z,ho'] at ho; cases ho; rw [hd'] at hd; cases hd
theorem Inv.funs (I : Inv X pins σ H s) : s.heap.FunFrames X.base X.outer := by
 have all : ∀ (l : List Env),(∀ b ∈ frs l,b ∈ X.fs) → X.s₀.heap.FunFrames X.base l → s.heap.FunFrames X.base l := by
  intro l
  induction l with
  | nil => intro _ _; trivial
  | cons env r ih =>
   intro hs hl
   obtain ⟨hk,⟨L,o,hf,hn,ho,hd⟩,hr⟩ := hl
   have hL : L ∈ X.fs := hs L (by unfold frs; rw [List.filterMap_cons,hf]; exact List.mem_cons_self)
   obtain ⟨sl,e⟩ := I.base.slot L o ho (I.ok.frf L hL) hL fun z => I.ok.exfs L z hL
   exact ⟨hk,⟨L,_,hf,hn,e,hd⟩,ih (fun b hb => hs b (by unfold frs; rw [List.filterMap_cons,hf]; exact List.mem_cons_of_mem _ hb)) hr⟩
 exact all X.outer (fun _ hb => hb) I.ok.funs
theorem Inv.stack (I : Inv X pins σ H s) : s.heap.FunFrames X.base X.stack := by
 rcases I.ok.stk with e | ⟨e,hf⟩
 ·rw [e]; exact I.funs
 ·rw [e]
  obtain ⟨m,hn,_⟩ := I.loc
  refine .cons (by rw [I.ok.kind]; decide) hf hn ?_ I.funs
  exact Heap.get?_none_of_le (Nat.le_trans I.ok.bsz I.ok.above)
theorem Inv.stkSub (I : Inv X pins σ H s) : ∀ b ∈ frs X.stack,b ∈ X.env.locals :: X.fs := fun b hb => by
 rcases I.ok.stk with e | ⟨e,hf⟩
 ·rw [e] at hb; exact List.mem_cons_of_mem _ hb
 ·rw [e] at hb
  unfold frs at hb
  rw [List.filterMap_cons,hf] at hb
  exact hb
theorem Inv.stkFree (I : Inv X pins σ H s) : ∀ b ∈ frs X.stack,H b = none := fun b hb => by
 rcases List.mem_cons.mp (I.stkSub b hb) with e | hb
 ·rw [e]; exact I.free
 ·obtain ⟨_,o,ho,_⟩ := I.ok.funs.mem hb
  exact I.base.free b o ho (I.ok.frf b hb) fun z => I.ok.exfs b z hb
theorem Inv.step {g' : Array GenState} {t' : Nat} {d' : Drawn} {ch : List Addr} (I : Inv X pins σ H s)
  (hch : ∀ b ∈ ch,(b ∈ X.ex ∨ X.s₀.heap.objs.size ≤ b) ∧ b ≠ X.env.locals ∧ (∀ x c,X.env.cells.lookup x = some c → c ≠ b) ∧ ∀ p ∈ X.pn ++ pins,p.1 ≠ b)
  (keep : ∀ b o,b ≠ X.env.locals → b ∉ X.fs → b ∉ ch → s.heap.get? b = some o → H b = none → h'.get? b = some o)
  (slot : ∀ b o,b ≠ X.env.locals → b ∈ X.fs → b ∉ ch → s.heap.get? b = some o → H b = none → ∃ sl,h'.get? b = some { o with slots := sl }) (free : ∀ b o,b ∉ ch → s.heap.get? b = some o → H b = none → H' b = none)
  (there : ∀ b o,b ∉ ch → s.heap.get? b = some o → ∃ o',h'.get? b = some o')
  (tups : ∀ b xs,H b = some (.tup xs) → H' b = some (.tup xs)) (frzs : ∀ b o u,H b = some (.frz o u) → H' b = some (.frz o u)) (tbls : ∀ b ps,H b = some (.tbl ps) → ∃ more,H' b = some (.tbl (ps ++ more)))
  (ns : ∀ m,s.heap.Ns X.env.locals m → h'.Ns X.env.locals m) (hok : HOk X.prog X.w H' h') (hg : AllBare g') :
  Inv X pins σ H' { s with heap := h',gens := g',drawn := d',toks := t' } := by
 have neL : ∀ b o,X.s₀.heap.get? b = some o → b ≠ X.env.locals := fun b o e => Nat.ne_of_lt (Nat.lt_of_lt_of_le (Heap.lt_size e) I.ok.above)
 have neC : ∀ b o,X.s₀.heap.get? b = some o → b ∉ X.ex → b ∉ ch := fun b o e hx hb => by
  rcases (hch b hb).1 with z | z
  ·exact hx z
  ·exact absurd (Nat.lt_of_lt_of_le (Heap.lt_size e) z) (Nat.lt_irrefl _)
 have cellK : ∀ x c,X.env.cells.lookup x = some c → ∀ v,s.heap.IsCell c v → h'.IsCell c v := fun x c e v ⟨o,ho,hd⟩ => by
  have nch : c ∉ ch := fun z => (hch c z).2.2.1 x c e rfl
  by_cases hc : c ∈ X.fs
  ·obtain ⟨sl,q⟩ := slot c o (I.cne x c e) hc nch ho (I.freeC x c e)
   exact ⟨_,q,hd⟩
  ·exact ⟨o,keep c o (I.cne x c e) hc nch ho (I.freeC x c e),hd⟩
 refine ⟨I.ok,I.os,hg,⟨fun b o e n hb hx => ?_,fun b o e n hb hx => ?_,fun b o e n hx => ?_,fun b o e hx => ?_,fun b xs e => tups b xs (I.base.tups b xs e),fun b o xs e => frzs b o xs (I.base.frzs b o xs e),fun b ps e => ?_⟩,?_,fun x c e => ?_,?_,fun x c e => ?_,fun p hp => ?_,hok,I.len⟩
 ·exact keep b o (neL b o e) hb (neC b o e hx) (I.base.keep b o e n hb hx) (I.base.free b o e n hx)
 ·obtain ⟨sl,e1⟩ := I.base.slot b o e n hb hx
  obtain ⟨sl',e2⟩ := slot b _ (neL b o e) hb (neC b o e hx) e1 (I.base.free b o e n hx)
  exact ⟨sl',e2⟩
 ·obtain ⟨o',e1⟩ := I.base.there b o e hx
  exact free b o' (neC b o e hx) e1 (I.base.free b o e n hx)
 ·obtain ⟨o',e1⟩ := I.base.there b o e hx
  exact there b o' (neC b o e hx) e1
 ·obtain ⟨m1,e1⟩ := I.base.tbls b ps e
  obtain ⟨m2,e2⟩ := tbls b _ e1
  exact ⟨m1 ++ m2,by rw [e2,Array.append_assoc]⟩
 ·obtain ⟨m,hn,hl⟩ := I.loc
  refine ⟨m,ns m hn,fun i x v e1 e2 e3 => ?_⟩
  obtain ⟨u,r,l⟩ := hl i x v e1 e2 e3
  refine ⟨u,r,?_⟩
  rcases l with l | ⟨k,c,e,z⟩
  ·exact .inl l
  ·exact .inr ⟨k,c,e,cellK x c e _ z⟩
 ·obtain ⟨v,z⟩ := I.cell x c e
  exact ⟨v,cellK x c e v z⟩
 ·obtain ⟨m,⟨o,_,_,ho,_⟩,_⟩ := I.loc
  exact free _ o (fun z => (hch _ z).2.1 rfl) ho I.free
 ·obtain ⟨v,o,ho,hd⟩ := I.cell x c e
  exact free c o (fun z => (hch c z).2.2.1 x c e rfl) ho (I.freeC x c e)
 ·obtain ⟨e,n,ne,nf,d⟩ := I.pin p hp
  have nch : p.1 ∉ ch := fun z => (hch p.1 z).2.2.2 p hp rfl
  exact ⟨keep p.1 p.2 ne nf nch e n,free p.1 p.2 nch e n,ne,nf,d⟩
theorem Inv.un {t' : Nat} (I : Inv X pins σ H s) (u : Un X.fs [] H H' s.heap h') (hok : HOk X.prog X.w H' h') : Inv X pins σ H' { s with heap := h',toks := t' } := by
 obtain ⟨m,⟨o,es,ep,ho,r⟩,_⟩ := id I.loc
 obtain ⟨sl,hL⟩ := u.any ho I.free (by simp)
 exact I.step (g' := s.gens) (d' := s.drawn) (ch := []) (fun _ z => nomatch z) (fun b o _ hb _ e n => u.keep b o e n hb (by simp)) (fun b o _ hb _ e n => u.slot b o e n hb (by simp)) (fun b o _ e n => u.free b o e n (by simp)) (fun b o _ e => u.there b o e (by simp)) u.tups u.frzs u.tbls (fun m' hm => by
  obtain ⟨o',es',ep',ho',r'⟩ := hm
  rw [ho] at ho'; cases ho'
  exact ⟨_,es',ep',hL,r'⟩) hok I.bare
theorem Inv.call {g' : Array GenState} {t' : Nat} {d' : Drawn} {ch : List Addr} (I : Inv X pins σ H s) (u : Un (frs X.stack) ch H H' s.heap h') (hok : HOk X.prog X.w H' h') (hg : AllBare g')
  (hch : ∀ b ∈ ch,(b ∈ X.ex ∨ X.s₀.heap.objs.size ≤ b) ∧ b ≠ X.env.locals ∧ (∀ x c,X.env.cells.lookup x = some c → c ≠ b) ∧ ∀ p ∈ X.pn ++ pins,p.1 ≠ b) :
  Inv X pins σ H' { s with heap := h',gens := g',drawn := d',toks := t' } := by
 obtain ⟨m,⟨o,es,ep,ho,r⟩,_⟩ := id I.loc
 obtain ⟨sl,hL⟩ := u.any ho I.free fun z => (hch _ z).2.1 rfl
 exact I.step (ch := ch) hch (fun b o hL hb hc e n => u.keep b o e n (fun z => (List.mem_cons.mp (I.stkSub b z)).elim hL hb) hc) (fun b o _ _ hc e n => u.any e n hc) (fun b o hc e n => u.free b o e n hc) (fun b o hc e => u.there b o e hc) u.tups u.frzs u.tbls (fun m' hm => by
  obtain ⟨o',es',ep',ho',r'⟩ := hm
  rw [ho] at ho'; cases ho'
  exact ⟨_,es',ep',hL,r'⟩) hok hg
theorem Inv.turned {t' : Nat} {it : Addr} (I : Inv X pins σ H s) (k : ∀ b o,b ≠ it → s.heap.get? b = some o → h'.get? b = some o) (hn : H it = none) (hL : it ≠ X.env.locals)
  (h1 : it ∈ X.ex ∨ X.s₀.heap.objs.size ≤ it) (h2 : ∀ x c,X.env.cells.lookup x = some c → c ≠ it) (h3 : ∀ p ∈ X.pn ++ pins,p.1 ≠ it) : Inv X pins σ H { s with heap := h',toks := t' } := by
 have nit : ∀ b u,H b = some u → b ≠ it := fun b u e z => by rw [z,hn] at e; cases e
 refine I.step (g' := s.gens) (d' := s.drawn) (ch := [it]) (fun b hb => ?_) (fun b o _ _ hc e _ => k b o (fun z => hc (by simp [z])) e) (fun b o _ _ hc e _ => ⟨o.slots,k b o (fun z => hc (by simp [z])) e⟩) (fun _ _ _ _ n => n)
  (fun b o hc e => ⟨o,k b o (fun z => hc (by simp [z])) e⟩) (fun _ _ e => e) (fun _ _ _ e => e) (fun b ps e => ⟨#[],by rw [e]; simp⟩) (fun m hm => ?_) (fun b u e => ?_) I.bare
 ·have e : b = it := by simpa using hb
  subst e
  exact ⟨h1,hL,h2,h3⟩
 ·obtain ⟨o,es,ep,ho,r⟩ := hm
  exact ⟨o,es,ep,k _ o (Ne.symm hL) ho,r⟩
 ·refine (I.hok b u e).stay (fun c v hc q => k c v ?_ q) (fun _ q => q) fun _ _ q => q
  rcases hc with z | z
  ·rw [z]; exact nit b u e
  ·exact nit c _ z
theorem Inv.tok (I : Inv X pins σ H s) (t : Nat) : Inv X pins σ H { s with toks := t } := I.un (h' := s.heap) (t' := t) Un.refl I.hok
theorem Inv.kept {t' : Nat} (I : Inv X pins σ H s) (k : ∀ b u,s.heap.get? b = some u → h'.get? b = some u) : Inv X pins σ H { s with heap := h',toks := t' } := I.un (Un.kept k) (I.hok.kept k)
theorem Inv.laid {a : Addr} {o : HO} {t' : Nat} (I : Inv X pins σ H s) (k : ∀ b u,s.heap.get? b = some u → h'.get? b = some u) (hp : s.heap.objs.size ≤ a) (new : ObjOk X.prog X.w (upd H a o) h' a o) :
  Inv X pins σ (upd H a o) { s with heap := h',toks := t' } := I.un (Un.laid k hp (I.hok.fresh hp)) (I.hok.laid k hp new)
theorem Inv.write {x e : Addr} {o : HO} {t' : Nat} (I : Inv X pins σ H s) (mu : Mut (H x)) (he : e = x ∨ H e = some (.own x)) (k : ∀ b u,b ≠ e → s.heap.get? b = some u → h'.get? b = some u) (heo : ∃ u,h'.get? e = some u)
  (new : ObjOk X.prog X.w (upd H x o) h' x o) : Inv X pins σ (upd H x o) { s with heap := h',toks := t' } := I.un (Un.write mu he k heo) (I.hok.write mu he k heo new)
theorem Inv.pins_of {pins' : List (Addr × Obj)} (I : Inv X pins σ H s) (h : ∀ p ∈ pins',s.heap.get? p.1 = some p.2 ∧ H p.1 = none ∧ p.1 ≠ X.env.locals ∧ p.1 ∉ X.fs ∧ ∀ v,p.2.data ≠ .cell v) : Inv X pins' σ H s :=
 ⟨I.ok,I.os,I.bare,I.base,I.loc,I.cell,I.free,I.freeC,fun p hp => (List.mem_append.mp hp).elim (fun z => I.pin p (List.mem_append_left _ z)) (h p),I.hok,I.len⟩
theorem nodup_ix {N : List Str} (hN : N.Nodup) {i j : Nat} {x : Str} (a : N[i]? = some x) (b : N[j]? = some x) : i = j := by
 obtain ⟨h1,e1⟩ := List.getElem?_eq_some_iff.mp a
 obtain ⟨h2,e2⟩ := List.getElem?_eq_some_iff.mp b
 exact (List.getElem_inj hN).mp (e1.trans e2.symm)
theorem store_ok2 {M : Model} {A : Around} {E : Value → Shared → Prop} {i : Nat} {x : Str} {v : V} {u : Value} {Q : Unit → Shared → Prop} (I : Inv X pins σ H s) (hN : X.N.Nodup) (hi : X.N[i]? = some x) (hx : Loc X.env.scope x) (r : RelV v u)
  (h : ∀ s',Inv X pins (σ.set i (some v)) H s' → (∃ a,Heap.SameBut a s.heap s'.heap ∧ (a = X.env.locals ∨ X.env.cells.lookup x = some a)) → Q () s') (hf : X.fn x = true ∨ X.env.scope.names.lookup x = some .local := by first | exact .inl rfl | exact .inr rfl | assumption) : wpAny M A (storeName X.env x u) Q E s := by
 obtain ⟨m,hn,hl⟩ := id I.loc
 have hcls : (X.env.scope.kind == .class || (X.env.scope.kind == .module && X.env.locals != X.env.globals)) = false := by rw [I.ok.kind]; rfl
 have hiσ : i < σ.length := by rw [I.len]; exact (List.getElem?_eq_some_iff.mp hi).1
 have cne := I.cne
 have tracked : ∀ {a : Addr} {h' : Heap},(∃ o,s.heap.get? a = some o ∧ H a = none) → Heap.SameBut a s.heap h' → HOk X.prog X.w H h' := fun {a h'} ha hs b ob e => by
  obtain ⟨_,_,hfree⟩ := ha
  refine (I.hok b ob e).stay (fun c w' hc q => (hs.2 c ?_).trans q) (fun _ q => q) fun _ _ q => q
  rintro rfl
  rcases hc with rfl | hc
  ·rw [hfree] at e; cases e
  ·rw [hfree] at hc; cases hc
 rcases hx with hk | hk
 ·refine wpAny_storeName_local hk hn (fun h' hn' hs => ?_) hcls
  obtain ⟨oL,_,_,hoL,_⟩ := id hn
  refine h _ ⟨I.ok,I.os,I.bare,⟨fun b o e n hb hx => ?_,fun b o e n hb hx => ?_,I.base.free,fun b o e hx => ?_,I.base.tups,I.base.frzs,I.base.tbls⟩,⟨_,hn',fun j y v' e1 e2 e3 => ?_⟩,fun y c e => ?_,I.free,I.freeC,fun p hp => ?_,tracked ⟨oL,hoL,I.free⟩ hs,by simpa using I.len⟩ ⟨_,hs,.inl rfl⟩
  ·exact (hs.2 b (Nat.ne_of_lt (Nat.lt_of_lt_of_le (Heap.lt_size e) I.ok.above))).trans (I.base.keep b o e n hb hx)
  ·obtain ⟨sl,e1⟩ := I.base.slot b o e n hb hx
   exact ⟨sl,(hs.2 b (Nat.ne_of_lt (Nat.lt_of_lt_of_le (Heap.lt_size e) I.ok.above))).trans e1⟩
  ·obtain ⟨o',e1⟩ := I.base.there b o e hx
   exact ⟨o',(hs.2 b (Nat.ne_of_lt (Nat.lt_of_lt_of_le (Heap.lt_size e) I.ok.above))).trans e1⟩
  ·by_cases hj : j = i
   ·subst hj
    rw [hi] at e1; cases e1
    rw [List.getElem?_set_self hiσ] at e2
    cases e2
    exact ⟨u,r,.inl ⟨hk,by simp⟩⟩
   ·rw [List.getElem?_set_ne (Ne.symm hj)] at e2
    obtain ⟨u',r',q⟩ := hl j y v' e1 e2 e3
    refine ⟨u',r',?_⟩
    rcases q with ⟨k,e⟩ | ⟨k,c,e,z⟩
    ·refine .inl ⟨k,?_⟩
     have : y ≠ x := fun e => hj (nodup_ix hN e1 (e ▸ hi))
     simp [this,e]
    ·exact .inr ⟨k,c,e,z.sameBut hs (cne y c e)⟩
  ·obtain ⟨w',z⟩ := I.cell y c e
   exact ⟨w',z.sameBut hs (cne y c e)⟩
  ·obtain ⟨e,n,ne,nf,d⟩ := I.pin p hp
   exact ⟨(hs.2 p.1 ne).trans e,n,ne,nf,d⟩
 ·have hfn : X.fn x = true := by
   rcases hf with z | z
   ·exact z
   ·rw [z] at hk; cases hk
  obtain ⟨c,hc⟩ := I.ok.has x (.inl hk)
  obtain ⟨w',z⟩ := I.cell x c hc
  refine wpAny_storeName_cell I.ok.kind hk hc z (fun h' hc' hs => ?_)
  obtain ⟨oc,hoc,hocd⟩ := id z
  refine h { s with heap := h' } ⟨I.ok,I.os,I.bare,⟨fun b o e n hb hx => ?_,fun b o e n hb hx => ?_,I.base.free,fun b o e hx => ?_,I.base.tups,I.base.frzs,I.base.tbls⟩,⟨m,hn.sameBut hs (Ne.symm (cne x c hc)),fun j y v' e1 e2 e3 => ?_⟩,fun y c' e => ?_,I.free,I.freeC,fun p hp => ?_,tracked ⟨oc,hoc,I.freeC x c hc⟩ hs,by simpa using I.len⟩ ⟨c,hs,.inr hc⟩
  ·exact (hs.2 b (Nat.ne_of_lt (Nat.lt_of_lt_of_le (Heap.lt_size e) (I.ok.cab x c hfn hc)))).trans (I.base.keep b o e n hb hx)
  ·obtain ⟨sl,e1⟩ := I.base.slot b o e n hb hx
   exact ⟨sl,(hs.2 b (Nat.ne_of_lt (Nat.lt_of_lt_of_le (Heap.lt_size e) (I.ok.cab x c hfn hc)))).trans e1⟩
  ·obtain ⟨o',e1⟩ := I.base.there b o e hx
   exact ⟨o',(hs.2 b (Nat.ne_of_lt (Nat.lt_of_lt_of_le (Heap.lt_size e) (I.ok.cab x c hfn hc)))).trans e1⟩
  ·by_cases hj : j = i
   ·subst hj
    rw [hi] at e1; cases e1
    rw [List.getElem?_set_self hiσ] at e2
    cases e2
    exact ⟨u,r,.inr ⟨.inl hk,c,hc,hc'⟩⟩
   ·rw [List.getElem?_set_ne (Ne.symm hj)] at e2
    obtain ⟨u',r',q⟩ := hl j y v' e1 e2 e3
    refine ⟨u',r',?_⟩
    rcases q with q | ⟨k,c',e,z'⟩
    ·exact .inl q
    ·refine .inr ⟨k,c',e,z'.sameBut hs ?_⟩
     rintro rfl
     exact hj (nodup_ix hN e1 (I.ok.inj _ _ _ e hc ▸ hi))
  ·by_cases hcc : c' = c
   ·subst hcc; exact ⟨_,hc'⟩
   ·obtain ⟨w2,z2⟩ := I.cell y c' e
    exact ⟨w2,z2.sameBut hs hcc⟩
  ·obtain ⟨e,n,ne,nf,d⟩ := I.pin p hp
   refine ⟨(hs.2 p.1 ?_).trans e,n,ne,nf,d⟩
   intro q
   rw [q,hoc] at e
   have q' : oc = p.2 := Option.some.inj e
   exact d w' (by rw [← q']; exact hocd)
theorem store_ok {M : Model} {A : Around} {E : Value → Shared → Prop} {i : Nat} {x : Str} {v : V} {u : Value} {Q : Unit → Shared → Prop} (I : Inv X pins σ H s) (hN : X.N.Nodup) (hi : X.N[i]? = some x) (hx : Loc X.env.scope x) (r : RelV v u)
  (h : ∀ s',Inv X pins (σ.set i (some v)) H s' → Q () s') (hf : X.fn x = true ∨ X.env.scope.names.lookup x = some .local := by first | exact .inl rfl | exact .inr rfl | assumption) : wpAny M A (storeName X.env x u) Q E s :=
 store_ok2 I hN hi hx r (fun s' I' _ => h s' I') hf
theorem Inv.call' {s' : Shared} {ch : List Addr} (I : Inv X pins σ H s) (ho : s'.os = s.os) (u : Un (frs X.stack) ch H H' s.heap s'.heap) (hok : HOk X.prog X.w H' s'.heap) (hg : AllBare s'.gens)
  (hch : ∀ b ∈ ch,(b ∈ X.ex ∨ X.s₀.heap.objs.size ≤ b) ∧ b ≠ X.env.locals ∧ (∀ x c,X.env.cells.lookup x = some c → c ≠ b) ∧ ∀ p ∈ X.pn ++ pins,p.1 ≠ b) : Inv X pins σ H' s' := by
 obtain ⟨h',g',d',t',o'⟩ := s'
 have e : o' = s.os := ho
 subst e
 exact I.call (g' := g') (t' := t') (d' := d') u hok hg hch
end
noncomputable abbrev XK := Value → Option Addr → Hp → Prop
noncomputable abbrev St := List (Option V)
noncomputable abbrev VK := V → Hp → Prop
noncomputable abbrev TE := St → Hp → VK → Prop
noncomputable abbrev TT := St → Hp → (Bool → Hp → Prop) → Prop
noncomputable abbrev TA := St → Hp → (List V → Hp → Prop) → Prop
structure Ends where
 nx : St → Hp → Prop
 rt : VK
 bk : St → Hp → Prop := fun _ _ => False
 ct : St → Hp → Prop := fun _ _ => False
noncomputable abbrev TS := Ends → St → Hp → Prop
noncomputable def EP (X : Cx) (pins : List (Addr × Obj)) (σ : St) (Q : VK) (u : Value) (s' : Shared) : Prop := ∃ v H',Inv X pins σ H' s' ∧ RelV v u ∧ Q v H'
noncomputable def TP (X : Cx) (pins : List (Addr × Obj)) (σ : St) (Q : Bool → Hp → Prop) (b : Bool) (s' : Shared) : Prop := ∃ H',Inv X pins σ H' s' ∧ Q b H'
noncomputable def AP (X : Cx) (pins : List (Addr × Obj)) (σ : St) (Q : List V → Hp → Prop) (us : List Value) (s' : Shared) : Prop := ∃ vs H',Inv X pins σ H' s' ∧ Vals vs us ∧ Q vs H'
noncomputable def SP (X : Cx) (pins : List (Addr × Obj)) (D : Ends) (f : Flow) (s' : Shared) : Prop :=
 match f with
 | .next => ∃ σ' H',Inv X pins σ' H' s' ∧ D.nx σ' H'
 | .brk => ∃ σ' H',Inv X pins σ' H' s' ∧ D.bk σ' H'
 | .cont => ∃ σ' H',Inv X pins σ' H' s' ∧ D.ct σ' H'
 | .ret u => ∃ v σ' H',Inv X pins σ' H' s' ∧ RelV v u ∧ D.rt v H'
noncomputable def PE (X : Cx) (e : Expr) (t : TE) : Prop :=
 ∀ (pins : List (Addr × Obj)) (s : Shared) (σ : St) (H : Hp) (Q : VK),Inv X pins σ H s → t σ H Q → wpAny (model X.prog X.w) X.A (eval e X.env) (EP X pins σ Q) X.xe s
noncomputable def PT (X : Cx) (e : Expr) (t : TT) : Prop :=
 ∀ (pins : List (Addr × Obj)) (s : Shared) (σ : St) (H : Hp) (Q : Bool → Hp → Prop),Inv X pins σ H s → t σ H Q → wpAny (model X.prog X.w) X.A (isTrue e X.env (eval e X.env)) (TP X pins σ Q) X.xe s
noncomputable def PW (X : Cx) (e : Expr) (t : TT) : Prop :=
 ∀ (whole : Sem Value) (pins : List (Addr × Obj)) (s : Shared) (σ : St) (H : Hp) (Q : Bool → Hp → Prop),Inv X pins σ H s → t σ H Q → wpAny (model X.prog X.w) X.A (isTrue e X.env whole) (TP X pins σ Q) X.xe s
theorem PW.pt {X : Cx} {e : Expr} {t : TT} (h : PW X e t) : PT X e t := h _
noncomputable def PA (X : Cx) (es : List Expr) (t : TA) : Prop :=
 ∀ (pos : Pos) (pins : List (Addr × Obj)) (s : Shared) (σ : St) (H : Hp) (Q : List V → Hp → Prop),Inv X pins σ H s → t σ H Q → wpAny (model X.prog X.w) X.A (spliced (backTo pos (starEach es X.env))) (AP X pins σ Q) X.xe s
noncomputable def PS (X : Cx) (st : Stmt) (t : TS) : Prop :=
 ∀ (pins : List (Addr × Obj)) (s : Shared) (σ : St) (H : Hp) (D : Ends),Inv X pins σ H s → t D σ H → wpAny (model X.prog X.w) X.A (exec st X.env) (SP X pins D) X.xe s
noncomputable def PSs (X : Cx) (st : List Stmt) (t : TS) : Prop :=
 ∀ (pins : List (Addr × Obj)) (s : Shared) (σ : St) (H : Hp) (D : Ends),Inv X pins σ H s → t D σ H → wpAny (model X.prog X.w) X.A (execs st X.env) (SP X pins D) X.xe s
theorem thn {α : Type} {t : Sem α} {Q Q' : α → Shared → Prop} {M : Model} {A : Around} {E : Value → Shared → Prop} {s : Shared} (h : wpAny M A t Q E s) (hQ : ∀ a s,Q a s → Q' a s) : wpAny M A t Q' E s := wpAny_mono h hQ fun _ _ x => x
end L2
namespace L2
open PySem PySem.Spec PyProof.Rows
section
variable {X : Cx}
inductive IVar (i : Nat) (σ : St) (H : Hp) (Q : VK) : Prop
 | mk (v : V) : (σ[i]? = some (some v)) → (Q v H) → IVar i σ H Q
noncomputable def tVar (i : Nat) : TE := fun σ H Q => IVar i σ H Q
noncomputable def tC (v : V) : TE := fun _ H Q => Q v H
theorem pe_var {i : Nat} {x : Str} {pos : Pos} (hN : X.N[i]? = some x) (hv : Vis X.env.scope x) (hd : (x == ("__debug__" : Str)) = false := by decide) (hcd : (x == ("__classdict__" : Str)) = false := by decide) : PE X (.Name x pos) (tVar i) := by
 intro pins s σ H Q I h
 obtain ⟨v,e,h⟩ := h
 obtain ⟨m,hn,hl⟩ := I.loc
 obtain ⟨u,r,l⟩ := hl i x v hN e hv
 have fin : EP X pins σ Q u s := ⟨v,H,I,r,h⟩
 rcases l with ⟨hk,hm⟩ | ⟨hk,c,hc,hcell⟩
 ·exact wpAny_Name (wpAny_loadName_local I.ok.kind hk hn hm fin) hd
 ·rcases hk with hk | hk
  ·exact wpAny_Name (wpAny_loadName_cell I.ok.kind hk hc hcell fin) hd
  ·exact wpAny_Name (wpAny_loadName_free I.ok.kind hk hc hcell fin hcd) hd
theorem pe_int {i j pos} : PE X (.Constant (.int i) j pos) (tC (.int i)) := fun _ _ _ H _ I h => wpAny_Constant_int ⟨.int i,H,I.tok _,⟨_,rfl⟩,h⟩
theorem pe_bl {b j pos} : PE X (.Constant (.bool b) j pos) (tC (.bl b)) := fun _ _ _ H _ I h => Constant_bool ⟨.bl b,H,I,rfl,h⟩
theorem pe_non {j pos} : PE X (.Constant .none j pos) (tC .non) := fun _ _ _ H _ I h => Constant_none ⟨.non,H,I,rfl,h⟩
theorem pe_str {x j pos} : PE X (.Constant (.str x) j pos) (tC (.str x)) := fun _ _ _ H _ I h => Calls.Constant_str ⟨.str x,H,I.tok _,⟨_,rfl⟩,h⟩
noncomputable def Gl (X : Cx) (x : Str) : Prop := X.env.kindOf x = some .globalImplicit
theorem ld_glob {E : Value → Shared → Prop} {pins : List (Addr × Obj)} {s : Shared} {σ : St} {H : Hp} {x : Str} {u : Value} {pos : Pos} {Q : Value → Shared → Prop} (I : Inv X pins σ H s) (hg : Gl X x) (hm : X.mg x = some u) (h : Q u s)
  (hd : (x == ("__debug__" : Str)) = false := by decide) : wpAny (model X.prog X.w) X.A (eval (.Name x pos) X.env) Q E s :=
 Calls.Name_function_global I.ok.kind hg (Calls.loadGlobal_global (by rw [I.ok.glob]; exact I.mod.glob.keeps I.bk) hm h) hd
theorem ld_blt {E : Value → Shared → Prop} {pins : List (Addr × Obj)} {s : Shared} {σ : St} {H : Hp} {x : Str} {u : Value} {pos : Pos} {Q : Value → Shared → Prop} (I : Inv X pins σ H s) (hg : Gl X x) (hm : X.mg x = none) (hv : bootBuiltins x = some u) (h : Q u s)
  (hn : x ≠ "__name__" := by decide) (hd : (x == ("__debug__" : Str)) = false := by decide) : wpAny (model X.prog X.w) X.A (eval (.Name x pos) X.env) Q E s := by
 obtain ⟨mb,h1,h2⟩ := I.mod.blt
 exact Calls.Name_function_global I.ok.kind hg (Calls.loadGlobal_builtin (by rw [I.ok.glob]; exact I.mod.glob.keeps I.bk) hm (by rw [I.ok.blt]; exact h1.keeps I.bk) ((h2 x hn).trans hv) h) hd
theorem pe_bltn {x : Str} {v : V} {u : Value} {pos : Pos} (hg : Gl X x) (hm : X.mg x = none) (hv : bootBuiltins x = some u) (r : RelV v u) (hn : x ≠ "__name__" := by decide) (hd : (x == ("__debug__" : Str)) = false := by decide) : PE X (.Name x pos) (tC v) :=
 fun _ _ _ H _ I h => ld_blt I hg hm hv ⟨v,H,I,r,h⟩ hn hd
variable {a b : Expr} {ta tb : TE} {pos : Pos}
noncomputable def tB (t : TE) : TT := fun σ H Q => t σ H fun x H1 => ∃ c,x = .bl c ∧ Q c H1
theorem pt_val {e : Expr} {t : TE} (h : PE X e t) (he : ∀ whole,isTrue e X.env whole = (do let v ← whole; standAt e.pos; holding [v] (truthy v)) := by intro _; rfl) : PT X e (tB t) := by
 intro pins s σ H Q I hw
 refine isTrue_plain (thn (h pins s σ H _ I hw) fun v s1 ⟨x,H1,I1,r1,q1⟩ => ?_) (he _)
 obtain ⟨d,rfl,q⟩ := q1
 cases r1
 exact wpAny_truthy_bool ⟨H1,I1,q⟩
variable {tA tB' : TT} {rest : List Expr}
noncomputable def tAnd (t u : TT) : TT := fun σ H Q => t σ H fun c H1 => if c = true then u σ H1 Q else Q false H1
noncomputable def tOr (t u : TT) : TT := fun σ H Q => t σ H fun c H1 => if c = true then Q true H1 else u σ H1 Q
noncomputable def tNot (t : TT) : TT := fun σ H Q => t σ H fun c H1 => Q (!c) H1
theorem pw_and1 (ha : PT X a tA) : PW X (.BoolOp .And [a] pos) tA := by
 intro wh pins s σ H Q I h
 refine isTrue_and (thn (ha pins s σ H Q I h) fun c s1 e => ?_)
 cases c with
 | true => exact isTrue_and_nil e
 | false => exact e
theorem pw_or1 (ha : PT X a tA) : PW X (.BoolOp .Or [a] pos) tA := by
 intro wh pins s σ H Q I h
 refine isTrue_or (thn (ha pins s σ H Q I h) fun c s1 e => ?_)
 cases c with
 | false => exact isTrue_or_nil e
 | true => exact e
theorem pw_and (ha : PT X a tA) (hb : PW X (.BoolOp .And (b :: rest) pos) tB') : PW X (.BoolOp .And (a :: b :: rest) pos) (tAnd tA tB') := by
 intro wh pins s σ H Q I h
 refine isTrue_and (thn (ha pins s σ H _ I h) fun c s1 ⟨H1,I1,q1⟩ => ?_)
 cases c with
 | true => exact hb wh pins s1 σ H1 Q I1 q1
 | false => exact ⟨H1,I1,q1⟩
theorem pw_or (ha : PT X a tA) (hb : PW X (.BoolOp .Or (b :: rest) pos) tB') : PW X (.BoolOp .Or (a :: b :: rest) pos) (tOr tA tB') := by
 intro wh pins s σ H Q I h
 refine isTrue_or (thn (ha pins s σ H _ I h) fun c s1 ⟨H1,I1,q1⟩ => ?_)
 cases c with
 | true => exact ⟨H1,I1,q1⟩
 | false => exact hb wh pins s1 σ H1 Q I1 q1
theorem pt_not (ha : PT X a tA) : PT X (.UnaryOp .Not a pos) (tNot tA) := by
 intro pins s σ H Q I h
 exact isTrue_not (ha pins s σ H (fun c H1 => Q (!c) H1) I h)
end
end L2
namespace L2
open PySem PySem.Spec PyProof.Rows
noncomputable def SqL (K : PySem.W.Frag) (H : Hp) (a : Addr) (xs : List V) : Prop :=
 Rd H a (.lst xs) ∨
  ∃ (o : Obj) (its : Array Value) (n : Nat),K.lookup a = some o ∧ o.cls = .type "list" ∧ o.dict = none ∧ o.data = .seq its n ∧ its.size ≤ sizeLine ∧ Vals xs its.toList
noncomputable def SqT (K : PySem.W.Frag) (H : Hp) (a : Addr) (xs : List V) : Prop :=
 Rd H a (.tup xs) ∨
  ∃ (o : Obj) (its : Array Value) (n : Nat),K.lookup a = some o ∧ o.cls = .type "tuple" ∧ o.data = .seq its n ∧ its.size ≤ sizeLine ∧ Vals xs its.toList
noncomputable def absV : Value → Option V
 | .none => some .non
 | .bool b => some (.bl b)
 | .int i _ => some (.int i)
 | .str x _ => some (.str x)
 | .bytes b _ => some (.byt b)
 | .float b _ => some (.flt b)
 | .ref a => some (.ref a)
 | .type n => some (.ty n)
 | _ => none
theorem RelV.abs {x : V} {u : Value} (r : RelV x u) : absV u = some x := by
 cases x with
 | non => cases r; rfl
 | bl _ => cases r; rfl
 | int _ => obtain ⟨t,rfl⟩ := r; rfl
 | str _ => obtain ⟨t,rfl⟩ := r; rfl
 | byt _ => obtain ⟨t,rfl⟩ := r; rfl
 | flt _ => obtain ⟨t,rfl⟩ := r; rfl
 | ref _ => cases r; rfl
 | ty _ => cases r; rfl
theorem RelV.inj {x y : V} {u : Value} (r : RelV x u) (q : RelV y u) : x = y := Option.some.inj (r.abs.symm.trans q.abs)
theorem Vals.inj : ∀ {xs ys : List V} {us : List Value},Vals xs us → Vals ys us → xs = ys
 | _,_,_,.nil,.nil => rfl
 | _,_,_,.cons r t,.cons r' t' => by rw [r.inj r',Vals.inj t t']
section
variable {X : Cx} {pins : List (Addr × Obj)} {σ : St} {H : Hp} {s : Shared} {a : Addr} {xs ys : List V}
theorem SqL.of {K : PySem.W.Frag} (h : H a = some (.lst xs)) : SqL K H a xs := .inl (.inl h)
theorem Inv.list (I : Inv X pins σ H s) (h : SqL X.K H a xs) : ∃ its : List Value,Vals xs its ∧ PlainL s.heap a its.toArray ∧ xs.length ≤ sizeLine := by
 rcases h with h | ⟨o,its,n,hk,hc,hd,hs,hz,r⟩
 ·obtain ⟨z,its,n,r,e⟩ := h.ok I.hok
  exact ⟨its,r,⟨_,n,e,rfl,rfl,rfl⟩,z⟩
 ·refine ⟨its.toList,r,⟨o,n,I.kIn a o hk,hc,hd,by simpa using hs⟩,?_⟩
  have e := r.length
  simp only [Array.length_toList] at e
  lia
theorem Inv.tuple (I : Inv X pins σ H s) (h : SqT X.K H a xs) : ∃ its : List Value,Vals xs its ∧ IsTup s.heap a its.toArray ∧ xs.length ≤ sizeLine := by
 rcases h with h | ⟨o,its,n,hk,hc,hs,hz,r⟩
 ·obtain ⟨z,its,r,p⟩ := h.ok I.hok
  exact ⟨its,r,p,z⟩
 ·refine ⟨its.toList,r,⟨o,I.kIn a o hk,hc,n,by simpa using hs⟩,?_⟩
  have e := r.length
  simp only [Array.length_toList] at e
  lia
theorem Inv.list_inj (I : Inv X pins σ H s) (h : SqL X.K H a xs) (h' : SqL X.K H a ys) : xs = ys := by
 obtain ⟨its,r,⟨o,n,e,_,_,d⟩,_⟩ := I.list h
 obtain ⟨its',r',⟨o',n',e',_,_,d'⟩,_⟩ := I.list h'
 rw [e] at e'; cases e'
 rw [d] at d'
 injection d' with d1 _
 have : its = its' := by simpa using congrArg Array.toList d1
 subst this
 exact r.inj r'
theorem Inv.tuple_inj (I : Inv X pins σ H s) (h : SqT X.K H a xs) (h' : SqT X.K H a ys) : xs = ys := by
 obtain ⟨its,r,⟨o,e,_,n,d⟩,_⟩ := I.tuple h
 obtain ⟨its',r',⟨o',e',_,n',d'⟩,_⟩ := I.tuple h'
 rw [e] at e'; cases e'
 rw [d] at d'
 injection d' with d1 _
 have : its = its' := by simpa using congrArg Array.toList d1
 subst this
 exact r.inj r'
end
noncomputable abbrev Cx.wish (X : Cx) (E : Value → Shared → Prop) : Cx := { X with xe := E }
noncomputable abbrev Cx.nox (X : Cx) : Cx := X.wish fun _ _ => False
theorem Cx.Ok.wish {X : Cx} (ok : X.Ok) (E : Value → Shared → Prop) : (X.wish E).Ok :=
 ⟨ok.mod,ok.kind,ok.glob,ok.blt,ok.above,ok.inj,ok.has,ok.cab,ok.hd,ok.frames,ok.stk,ok.exf,ok.bs,ok.bsz,ok.noex,ok.exfs,ok.funs,ok.frf⟩
theorem Cx.Ok.unwish {X : Cx} {E : Value → Shared → Prop} (ok : (X.wish E).Ok) : X.Ok :=
 ⟨ok.mod,ok.kind,ok.glob,ok.blt,ok.above,ok.inj,ok.has,ok.cab,ok.hd,ok.frames,ok.stk,ok.exf,ok.bs,ok.bsz,ok.noex,ok.exfs,ok.funs,ok.frf⟩
section
variable {X : Cx} {pins : List (Addr × Obj)} {σ : St} {H : Hp} {s : Shared} {E : Value → Shared → Prop}
theorem Inv.wish (I : Inv X pins σ H s) (E : Value → Shared → Prop) : Inv (X.wish E) pins σ H s := ⟨I.ok.wish E,I.os,I.bare,I.base,I.loc,I.cell,I.free,I.freeC,I.pin,I.hok,I.len⟩
theorem Inv.unwish (I : Inv (X.wish E) pins σ H s) : Inv X pins σ H s := ⟨I.ok.unwish,I.os,I.bare,I.base,I.loc,I.cell,I.free,I.freeC,I.pin,I.hok,I.len⟩
theorem SP.unwish {D : Ends} {f : Flow} {s' : Shared} (h : SP (X.wish E) pins D f s') : SP X pins D f s' := by
 cases f with
 | next => obtain ⟨σ',H',I,q⟩ := h; exact ⟨σ',H',I.unwish,q⟩
 | brk => obtain ⟨σ',H',I,q⟩ := h; exact ⟨σ',H',I.unwish,q⟩
 | cont => obtain ⟨σ',H',I,q⟩ := h; exact ⟨σ',H',I.unwish,q⟩
 | ret u => obtain ⟨v,σ',H',I,r,q⟩ := h; exact ⟨v,σ',H',I.unwish,r,q⟩
theorem PSs.nox {st : List Stmt} {t : TS} (h : PSs X.nox st t) : PSs X st t := fun pins s σ H D I hw =>
 wpAny_mono (h pins s σ H D (I.wish _) hw) (fun _ _ q => q.unwish) fun _ _ z => False.elim z
end
section
variable {X : Cx} {st : Stmt} {rest : List Stmt} {t u : TS} {e : Expr} {te : TE} {pos : Pos}
noncomputable def tNext : TS := fun D σ H => D.nx σ H
noncomputable def tSeq (t u : TS) : TS := fun D σ H => t { D with nx := u D } σ H
theorem pss_nil : PSs X [] tNext := fun _ _ σ H _ I h => wpAny_execs_nil ⟨σ,H,I,h⟩
theorem pss_cons (h1 : PS X st t) (h2 : PSs X rest u) : PSs X (st :: rest) (tSeq t u) := by
 intro pins s σ H D I h
 refine wpAny_execs_cons (thn (h1 pins s σ H { D with nx := u D } I h) fun f s1 q => ?_)
 cases f with
 | next =>
  obtain ⟨σ',H',I',q⟩ := q
  exact h2 pins s1 σ' H' D I' q
 | ret v => exact q
 | brk => exact q
 | cont => exact q
theorem pss_one (h1 : PS X st t) : PSs X [st] t := by
 intro pins s σ H D I h
 refine wpAny_execs_cons (thn (h1 pins s σ H D I h) fun f s1 q => ?_)
 cases f with
 | next => exact wpAny_execs_nil q
 | ret v => exact q
 | brk => exact q
 | cont => exact q
theorem Inv.quiet {pins : List (Addr × Obj)} {σ : St} {H : Hp} {s : Shared} (I : Inv X pins σ H s) : interactive X.env = false := by simp [interactive,I.ok.kind]
noncomputable def tDrop (te : TE) : TS := fun D σ H => te σ H fun _ H1 => D.nx σ H1
theorem ps_expr (he : PE X e te) (hs : swapsWith e none pos.line X.env = pure false := by rfl) : PS X (.Expr e pos) (tDrop te) := by
 intro pins s σ H D I h
 exact wpAny_Expr_any (thn (he pins s σ H _ I h) fun v s1 ⟨x,H1,I1,r1,q1⟩ => ⟨σ,H1,I1,q1⟩) I.quiet hs
noncomputable def tRet (te : TE) : TS := fun D σ H => te σ H D.rt
theorem ps_ret (he : PE X e te) : PS X (.Return (some e) pos) (tRet te) := by
 intro pins s σ H D I h
 exact wpAny_Return_some (thn (he pins s σ H _ I h) fun v s1 ⟨x,H1,I1,r1,q1⟩ => ⟨x,σ,H1,I1,r1,q1⟩)
noncomputable def tIfS (c : TT) (t u : TS) : TS := fun D σ H => c σ H fun b H1 => if b = true then t D σ H1 else u D σ H1
theorem ps_if {c : Expr} {a b : List Stmt} {tc : TT} (hc : PT X c tc) (ha : PSs X a t) (hb : PSs X b u) : PS X (.If c a b pos) (tIfS tc t u) := by
 intro pins s σ H D I h
 refine wpAny_If (thn (hc pins s σ H _ I h) fun d s1 ⟨H1,I1,q1⟩ => ?_)
 cases d with
 | true => exact ha pins s1 σ H1 D I1 q1
 | false => exact hb pins s1 σ H1 D I1 q1
end
noncomputable abbrev TG := V → St → Hp → (St → Hp → Prop) → Prop
noncomputable abbrev TGs := List V → St → Hp → (St → Hp → Prop) → Prop
noncomputable def PG (X : Cx) (target : Expr) (t : TG) : Prop :=
 ∀ (pins : List (Addr × Obj)) (s : Shared) (σ : St) (H : Hp) (v : V) (u : Value) (Q : St → Hp → Prop),Inv X pins σ H s → RelV v u → t v σ H Q →
  wpAny (model X.prog X.w) X.A (assign target X.env u) (fun _ s' => ∃ σ' H',Inv X pins σ' H' s' ∧ Q σ' H') X.xe s
noncomputable def PGs (X : Cx) (ts : List Expr) (t : TGs) : Prop :=
 ∀ (pins : List (Addr × Obj)) (s : Shared) (σ : St) (H : Hp) (vs : List V) (us : List Value) (Q : St → Hp → Prop),Inv X pins σ H s → Vals vs us → t vs σ H Q →
  wpAny (model X.prog X.w) X.A (assignInOrder ((assignEach ts X.env).map (·.2)) us) (fun _ s' => ∃ σ' H',Inv X pins σ' H' s' ∧ Q σ' H') X.xe s
noncomputable abbrev TSet := V → V → V → Hp → (Hp → Prop) → Prop
noncomputable def PSet (X : Cx) (t : TSet) : Prop :=
 ∀ (pins : List (Addr × Obj)) (s : Shared) (σ : St) (H : Hp) (o i v : V) (ov iv u : Value) (Q : Hp → Prop),Inv X pins σ H s → RelV o ov → RelV i iv → RelV v u → t o i v H Q →
  wpAny (model X.prog X.w) X.A (setItem ov iv u) (fun _ s' => ∃ H',Inv X pins σ H' s' ∧ Q H') X.xe s
section
variable {X : Cx} {pos : Pos}
noncomputable def gName (i : Nat) : TG := fun v σ H Q => Q (σ.set i (some v)) H
theorem pg_name {i : Nat} {x : Str} (hN : X.N.Nodup) (hi : X.N[i]? = some x) (hx : Loc X.env.scope x) (hf : X.fn x = true ∨ X.env.scope.names.lookup x = some .local := by first | exact .inl rfl | exact .inr rfl | assumption) : PG X (.Name x pos) (gName i) := by
 intro pins s σ H v u Q I r h
 exact wpAny_assign_Name (store_ok I hN hi hx r (fun s' I' => ⟨_,H,I',h⟩) hf)
noncomputable def gNil : TGs := fun vs σ H Q => vs = [] ∧ Q σ H
noncomputable def gCons (t : TG) (u : TGs) : TGs := fun vs σ H Q => ∃ v r,vs = v :: r ∧ t v σ H fun σ' H' => u r σ' H' Q
theorem pgs_nil : PGs X [] gNil := by
 intro pins s σ H vs us Q I r h
 obtain ⟨e,h⟩ := h
 subst e
 cases r
 exact assignInOrder_nil ⟨σ,H,I,h⟩
theorem pgs_cons {e : Expr} {es : List Expr} {t : TG} {u : TGs} (h1 : PG X e t) (h2 : PGs X es u)
  (hs : (assignEach (e :: es) X.env).map (·.2) = assign e X.env :: (assignEach es X.env).map (·.2) := by rfl) : PGs X (e :: es) (gCons t u) := by
 intro pins s σ H vs us Q I r h
 obtain ⟨v,vr,e1,h⟩ := h
 subst e1
 cases r with
 | cons r rr =>
  rw [hs]
  refine assignInOrder_cons (thn (h1 pins s σ H _ _ _ I r h) fun _ s1 ⟨σ1,H1,I1,q1⟩ => ?_)
  exact h2 pins s1 σ1 H1 _ _ Q I1 rr q1
noncomputable def gTup (K : PySem.W.Frag) (n : Nat) (t : TGs) : TG := fun v σ H Q => ∃ a xs,v = .ref a ∧ SqT K H a xs ∧ xs.length = n ∧ t xs σ H Q
theorem pg_tup {es : List Expr} {k : Nat} {t : TGs} {n : Nat} (hc : X.calm = true) (h : PGs X es t)
  (hn : (assignEach es X.env).length = n := by rfl) (hst : (assignEach es X.env).findIdx? (·.1) = none := by rfl) : PG X (.Tuple es k pos) (gTup X.K n t) := by
 intro pins s σ H v u Q I r hw
 obtain ⟨a,xs,e1,hq,hl,hw⟩ := hw
 subst e1
 cases r
 obtain ⟨its,rv,ht,hz⟩ := I.tuple hq
 refine assign_Tuple_tuple (I.ok.hd hc) ht (by simp [hn,← hl,rv.length]) hst fun h' hx => ?_
 have I1 : Inv X pins σ H { s with heap := h' } := I.kept (t' := s.toks) fun b o e => hx b o (Nat.ne_of_lt (Heap.lt_size e)) e
 exact h pins _ σ H xs _ Q I1 (by simpa using rv) hw
noncomputable def gSub (to ti : TE) (t : TSet) : TG := fun v σ H Q => to σ H fun o H1 => ti σ H1 fun i H2 => t o i v H2 fun H3 => Q σ H3
theorem pg_sub {o i : Expr} {to ti : TE} {t : TSet} (ho : PE X o to) (hi : PE X i ti) (hs : PSet X t)
  (ha : ∀ v,assign (.Subscript o i pos) X.env v = (do
   let ov ← holding [v] (eval o X.env)
   let iv ← holding [v,ov] (eval i X.env)
   standAt pos
   holding [v,ov,iv] (setItem ov iv v)
   release [v,ov,iv] []) := by intro _; rfl) : PG X (.Subscript o i pos) (gSub to ti t) := by
 intro pins s σ H v u Q I r h
 rw [ha]
 refine wpAny_bind (wpAny_holding (thn (ho pins s σ H _ I h) fun ov s1 ⟨x,H1,I1,r1,q1⟩ => ?_))
 refine wpAny_bind (wpAny_holding (thn (hi pins s1 σ H1 _ I1 q1) fun iv s2 ⟨y,H2,I2,r2,q2⟩ => ?_))
 refine wpAny_bind (wpAny_standAt (wpAny_bind (wpAny_holding (thn (hs pins s2 σ H2 x y v ov iv u _ I2 r1 r2 r q2) fun _ s3 ⟨H3,I3,q3⟩ => ?_))))
 exact wpAny_release ⟨σ,H3,I3,q3⟩
noncomputable def tAsg (te : TE) (g : TG) : TS := fun D σ H => te σ H fun x H1 => g x σ H1 D.nx
theorem ps_asg {tg e : Expr} {te : TE} {g : TG} (he : PE X e te) (hg : PG X tg g) (hs : swapsWithSole [tg] e pos.line X.env = pure false := by rfl) (hw : swappedStores [tg] e X.env = pure none := by rfl)
  (h1 : (assignEach [tg] X.env).map (·.2) = [assign tg X.env] := by rfl) : PS X (.Assign [tg] e pos) (tAsg te g) := by
 intro pins s σ H D I h
 refine wpAny_Assign_stores (thn (he pins s σ H _ I h) fun v s1 ⟨x,H1,I1,r1,q1⟩ => ?_) hs hw
 rw [h1]
 exact thn (hg pins s1 σ H1 x v _ I1 r1 q1) fun _ s2 q => q
theorem ps_set {i : Nat} {x : Str} {e : Expr} {te : TE} {pos' : Pos} (hN : X.N.Nodup) (hi : X.N[i]? = some x) (hx : Loc X.env.scope x) (he : PE X e te) (hs : swapsWith e (some (.Name x pos')) pos.line X.env = pure false := by rfl) (hf : X.fn x = true ∨ X.env.scope.names.lookup x = some .local := by first | exact .inl rfl | exact .inr rfl | assumption) :
  PS X (.Assign [.Name x pos'] e pos) (tAsg te (gName i)) := by
 intro pins s σ H D I h
 refine wpAny_Assign_Name (thn (he pins s σ H _ I h) fun v s1 ⟨y,H1,I1,r1,q1⟩ => ?_) hs
 exact store_ok I1 hN hi hx r1 (fun s2 I2 => ⟨_,H1,I2,q1⟩) hf
end
section
variable {X : Cx} {pos : Pos}
end
structure It where
 go : Nat → Hp → Prop
 yld : Nat → Hp → V → Hp → Prop
 stop : Nat → Hp → Prop
noncomputable def FpOk (X : Cx) (pins : List (Addr × Obj)) (H : Hp) (b : Addr) : Prop :=
 H b = none ∧ b ≠ X.env.locals ∧ b ∉ X.fs ∧ (b ∈ X.ex ∨ X.s₀.heap.objs.size ≤ b) ∧ (∀ x c,X.env.cells.lookup x = some c → c ≠ b) ∧ ∀ p ∈ X.pn ++ pins,p.1 ≠ b
theorem Inv.fpOk {X : Cx} {pins : List (Addr × Obj)} {σ : St} {H H' : Hp} {s : Shared} {b : Addr} (I : Inv X pins σ H s) (hb : s.heap.objs.size ≤ b) (hn : H' b = none) : FpOk X pins H' b := by
 refine ⟨hn,Nat.ne_of_gt (Nat.lt_of_lt_of_le I.lt hb),I.nofs hb,.inr (Nat.le_trans I.sz hb),fun x c e z => ?_,fun p hp z => ?_⟩
 ·obtain ⟨v,q⟩ := I.cell x c e
  exact absurd (Nat.lt_of_lt_of_le q.lt (by rw [z]; exact hb)) (Nat.lt_irrefl _)
 ·exact absurd (Nat.lt_of_lt_of_le (Heap.lt_size (I.pin p hp).1) (by rw [z]; exact hb)) (Nat.lt_irrefl _)
structure Turn (P : Program) (w : World) (K : PySem.W.Frag) (tg : Expr) (J : It) (fp : List Addr) (it : Addr) (tn : Nat → Heap → Prop) : Prop where
 mem : it ∈ fp
 obj : ∀ i h,tn i h → ∀ b ∈ fp,∃ o,h.get? b = some o ∧ ∀ v,o.data ≠ .cell v
 keep : ∀ i h h',tn i h → (∀ b ∈ fp,∀ o,h.get? b = some o → h'.get? b = some o) → tn i h'
 item : ∀ (X : Cx),X.prog = P → X.w = w → X.K = K → X.calm = true → ∀ (i : Nat) (pins : List (Addr × Obj)) (s : Shared) (σ : St) (H : Hp) (E : Value → Shared → Prop),Inv X pins σ H s → (∀ b ∈ fp,FpOk X pins H b) → tn i s.heap → J.go i H →
  wpAny (model P w) X.A (pyNext (.ref it)) (fun r s1 => ∃ u,r = some u ∧
   wpAny (model P w) X.A (letOwnedTupleGo tg (.ref it) u) (fun _ s2 => ∃ x H',Inv X pins σ H' s2 ∧ RelV x u ∧ J.yld i H x H' ∧ tn (i + 1) s2.heap ∧ ∀ b ∈ fp,H' b = none) E s1) E s
 done : ∀ (X : Cx),X.prog = P → X.w = w → X.K = K → X.calm = true → ∀ (i : Nat) (pins : List (Addr × Obj)) (s : Shared) (σ : St) (H : Hp) (E : Value → Shared → Prop),Inv X pins σ H s → (∀ b ∈ fp,FpOk X pins H b) → tn i s.heap → J.stop i H →
  wpAny (model P w) X.A (pyNext (.ref it)) (fun r s1 => r = none ∧ Inv X pins σ H s1) E s
 self : ∀ (A : Around) (i : Nat) (s : Shared) (Q : Value → Shared → Prop) (E : Value → Shared → Prop),tn i s.heap → Q (.ref it) s → wpAny (model P w) A (pyIter (.ref it)) Q E s
noncomputable abbrev TI := St → Hp → (It → Hp → Prop) → Prop
noncomputable def PIE (X : Cx) (pins : List (Addr × Obj)) (σ : St) (tg : Expr) (R : It → Hp → Prop) (itv : Value) (s2 : Shared) : Prop :=
 ∃ (it : Addr) (fp : List Addr) (tn : Nat → Heap → Prop) (J : It) (H' : Hp),itv = .ref it ∧ Inv X pins σ H' s2 ∧ Turn X.prog X.w X.K tg J fp it tn ∧ tn 0 s2.heap ∧ (∀ b ∈ fp,FpOk X pins H' b) ∧ R J H'
noncomputable def PI (X : Cx) (tg iter : Expr) (wi : TI) : Prop :=
 ∀ (pins : List (Addr × Obj)) (s : Shared) (σ : St) (H : Hp) (R : It → Hp → Prop),Inv X pins σ H s → wi σ H R →
  wpAny (model X.prog X.w) X.A (eval iter X.env) (fun v s1 => wpAny (model X.prog X.w) X.A (pyIter v) (PIE X pins σ tg R) X.xe s1) X.xe s
theorem go_of {M : Model} {A : Around} {E : Value → Shared → Prop} {s : Shared} {tg : Expr} {it : Addr} {u : Value} {o : Obj} {n : String} {vs : Array Value} {Q : Unit → Shared → Prop} (ho : s.heap.get? it = some o) (hc : o.cls = .type n) (hd : o.data = .fields vs)
    (hn : ["enumerate","zip","dict_itemiterator","dict_reverseitemiterator","odict_iterator","itertools.zip_longest","itertools.pairwise"].contains n = false) (hQ : Q () s) : wpAny M A (letOwnedTupleGo tg (.ref it) u) Q E s := by
  unfold letOwnedTupleGo
  cases tg <;> first
    | exact wpAny_pure hQ
    | (cases u <;> first
        | exact wpAny_pure hQ
        | (refine wpAny_bind (wpAny_load ho ?_)
           rw [hc,hd]
           show wpAny M A (if (["enumerate","zip","dict_itemiterator","dict_reverseitemiterator","odict_iterator","itertools.zip_longest","itertools.pairwise"].contains n && vs[0]? == some (rawInt _)) = true then _ else _) Q E s
           rw [if_neg (by intro h; rw [hn,Bool.false_and] at h; cases h)]
           exact wpAny_pure hQ))
noncomputable def Itl (K : PySem.W.Frag) (a : Addr) : It :=
 ⟨fun i H => ∃ xs x,SqL K H a xs ∧ xs[i]? = some x,fun i H x H' => H' = H ∧ ∀ xs,SqL K H a xs → xs[i]? = some x,fun i H => ∃ xs,SqL K H a xs ∧ xs.length ≤ i⟩
noncomputable def Itt (K : PySem.W.Frag) (a : Addr) : It :=
 ⟨fun i H => ∃ xs x,SqT K H a xs ∧ xs[i]? = some x,fun i H x H' => H' = H ∧ ∀ xs,SqT K H a xs → xs[i]? = some x,fun i H => ∃ xs,SqT K H a xs ∧ xs.length ≤ i⟩
noncomputable def Itr (lo : Int) (n : Nat) : It := ⟨fun i _ => i < n,fun i H x H' => H' = H ∧ x = .int (lo + i),fun i _ => n ≤ i⟩
theorem turn_list {P : Program} {w : World} {K : PySem.W.Frag} {tg : Expr} (a it : Addr) : Turn P w K tg (Itl K a) [it] it (fun i h => h.IsListIter it a i) where
 mem := by simp
 obj := fun i h st b hb => by
  have e : b = it := by simpa using hb
  subst e
  obtain ⟨o,e,c,d⟩ := st
  exact ⟨o,e,fun v z => by rw [d] at z; cases z⟩
 keep := fun i h h' st k => st.at fun o e => k it (by simp) o e
 item := by
  intro X hP hw hK hc i pins s σ H E I hf st hg
  subst hP hw hK
  obtain ⟨xs,x,hq,hx⟩ := hg
  obtain ⟨its,rv,p,hz⟩ := I.list hq
  obtain ⟨u,hu,ru⟩ := rv.get hx
  obtain ⟨f0,f1,f2,f3,f4,f5⟩ := hf it (by simp)
  refine wpAny_pyNext_list_item st p.isList (x := u) (by simpa using hu) fun h' st' sb => ?_
  have I1 : Inv X pins σ H { s with heap := h' } := I.turned (t' := s.toks) (fun b o hb e => (sb.2 b hb).trans e) f0 f1 f3 f4 f5
  obtain ⟨o,e,c,d⟩ := id st'
  exact ⟨u,rfl,go_of (s := { s with heap := h' }) e c d (by decide) ⟨x,H,I1,ru,⟨rfl,fun ys hy => by rw [I.list_inj hy hq]; exact hx⟩,st',fun b hb => (hf b hb).1⟩⟩
 done := by
  intro X hP hw hK hc i pins s σ H E I hf st hg
  subst hP hw hK
  obtain ⟨xs,hq,hx⟩ := hg
  obtain ⟨its,rv,p,hz⟩ := I.list hq
  obtain ⟨f0,f1,f2,f3,f4,f5⟩ := hf it (by simp)
  have hl := rv.length
  exact wpAny_pyNext_list_end (I.ok.hd hc) st p.isList (by simp; lia) fun h' eb => ⟨rfl,I.turned (t' := s.toks) (fun b o hb e => eb b o hb e) f0 f1 f3 f4 f5⟩
 self := fun _ _ _ _ _ st h => wpAny_pyIter_listiter st h
theorem turn_tuple {P : Program} {w : World} {K : PySem.W.Frag} {tg : Expr} (a it : Addr) : Turn P w K tg (Itt K a) [it] it (fun i h => h.IsTupleIter it a i) where
 mem := by simp
 obj := fun i h st b hb => by
  have e : b = it := by simpa using hb
  subst e
  obtain ⟨o,e,c,d⟩ := st
  exact ⟨o,e,fun v z => by rw [d] at z; cases z⟩
 keep := fun i h h' st k => st.at fun o e => k it (by simp) o e
 item := by
  intro X hP hw hK hc i pins s σ H E I hf st hg
  subst hP hw hK
  obtain ⟨xs,x,hq,hx⟩ := hg
  obtain ⟨its,rv,p,hz⟩ := I.tuple hq
  obtain ⟨u,hu,ru⟩ := rv.get hx
  obtain ⟨f0,f1,f2,f3,f4,f5⟩ := hf it (by simp)
  refine wpAny_pyNext_tuple_item st (show s.heap.IsTuple a its.toArray from p) (x := u) (by simpa using hu) fun h' st' sb => ?_
  have I1 : Inv X pins σ H { s with heap := h' } := I.turned (t' := s.toks) (fun b o hb e => (sb.2 b hb).trans e) f0 f1 f3 f4 f5
  obtain ⟨o,e,c,d⟩ := id st'
  exact ⟨u,rfl,go_of (s := { s with heap := h' }) e c d (by decide) ⟨x,H,I1,ru,⟨rfl,fun ys hy => by rw [I.tuple_inj hy hq]; exact hx⟩,st',fun b hb => (hf b hb).1⟩⟩
 done := by
  intro X hP hw hK hc i pins s σ H E I hf st hg
  subst hP hw hK
  obtain ⟨xs,hq,hx⟩ := hg
  obtain ⟨its,rv,p,hz⟩ := I.tuple hq
  obtain ⟨f0,f1,f2,f3,f4,f5⟩ := hf it (by simp)
  have hl := rv.length
  exact wpAny_pyNext_tuple_end (I.ok.hd hc) st (show s.heap.IsTuple a its.toArray from p) (by simp; lia) fun h' eb => ⟨rfl,I.turned (t' := s.toks) (fun b o hb e => eb b o hb e) f0 f1 f3 f4 f5⟩
 self := fun _ _ _ _ _ st h => wpAny_pyIter_tupleiter st h
theorem turn_range {P : Program} {w : World} {K : PySem.W.Frag} {tg : Expr} (it : Addr) (lo : Int) (n : Nat) : Turn P w K tg (Itr lo n) [it] it (fun i h => IsRangeIter h it (lo + (i : Nat) * 1) ((n : Int) - (i : Nat)) 1) where
 mem := by simp
 obj := fun i h st b hb => by
  have e : b = it := by simpa using hb
  subst e
  exact ⟨_,st,fun v z => by
   have z' : Data.fields _ = Data.cell v := z
   cases z'⟩
 keep := fun i h h' st k => k it (by simp) _ st
 item := by
  intro X hP hw hK hc i pins s σ H E I hf st hg
  subst hP hw hK
  obtain ⟨f0,f1,f2,f3,f4,f5⟩ := hf it (by simp)
  have W := Walks.range (prog := X.prog) (w := X.w) (I.ok.hd hc) it lo 1 n
  refine W.item i s _ _ hg st fun v h' tk hv st' kk => ?_
  obtain ⟨t,rfl⟩ := hv
  have I1 : Inv X pins σ H { s with heap := h',toks := tk } := I.turned (fun b o hb e => kk b o (by simpa using hb) e) f0 f1 f3 f4 f5
  refine ⟨_,rfl,go_of (s := { s with heap := h',toks := tk }) (n := "range_iterator") st' rfl rfl (by decide) ⟨.int (lo + i),H,I1,⟨t,?_⟩,⟨rfl,rfl⟩,st',fun b hb => (hf b hb).1⟩⟩
  rw [Int.mul_one]
 done := by
  intro X hP hw hK hc i pins s σ H E I hf st hg
  subst hP hw hK
  obtain ⟨f0,f1,f2,f3,f4,f5⟩ := hf it (by simp)
  exact wpAny_pyNext_range_end (I.ok.hd hc) st (by have : n ≤ i := hg; lia) fun h' eb => ⟨rfl,I.turned (t' := s.toks) (fun b o hb e => eb b o hb e) f0 f1 f3 f4 f5⟩
 self := fun _ _ _ _ _ st h => wpAny_pyIter_rangeiter st h
end L2
namespace L2
open PySem PySem.Spec PyProof.Rows
section
variable {X : Cx} {tg : Expr}
noncomputable def iList (K : PySem.W.Frag) (tl : TE) : TI := fun σ H R => tl σ H fun x H1 => ∃ a,x = .ref a ∧ (∃ xs,SqL K H1 a xs) ∧ R (Itl K a) H1
noncomputable def iTup (K : PySem.W.Frag) (tl : TE) : TI := fun σ H R => tl σ H fun x H1 => ∃ a,x = .ref a ∧ (∃ xs,SqT K H1 a xs) ∧ R (Itt K a) H1
theorem pi_list {l : Expr} {tl : TE} (hl : PE X l tl) : PI X tg l (iList X.K tl) := by
 intro pins s σ H R I h
 refine thn (hl pins s σ H _ I h) fun v s1 ⟨x,H1,I1,r1,q1⟩ => ?_
 obtain ⟨a,e,⟨xs,hq⟩,q⟩ := q1
 subst e
 cases r1
 obtain ⟨its,rv,p,hz⟩ := I1.list hq
 refine wpAny_pyIter_list p.isList ?_
 refine ⟨s1.heap.objs.size,[s1.heap.objs.size],_,_,H1,rfl,I1.kept (t' := s1.toks) fun b o e => Heap.get?_push_of_some _ e,turn_list a _,⟨_,Heap.get?_push_size _ rfl,rfl,rfl⟩,fun b hb => ?_,q⟩
 have e : b = s1.heap.objs.size := by simpa using hb
 subst e
 exact I1.fpOk (Nat.le_refl _) (I1.hok.fresh (Nat.le_refl _))
theorem pi_tup {l : Expr} {tl : TE} (hl : PE X l tl) : PI X tg l (iTup X.K tl) := by
 intro pins s σ H R I h
 refine thn (hl pins s σ H _ I h) fun v s1 ⟨x,H1,I1,r1,q1⟩ => ?_
 obtain ⟨a,e,⟨xs,hq⟩,q⟩ := q1
 subst e
 cases r1
 obtain ⟨its,rv,p,hz⟩ := I1.tuple hq
 refine wpAny_pyIter_tuple (show s1.heap.IsTuple a its.toArray from p) ?_
 refine ⟨s1.heap.objs.size,[s1.heap.objs.size],_,_,H1,rfl,I1.kept (t' := s1.toks) fun b o e => Heap.get?_push_of_some _ e,turn_tuple a _,⟨_,Heap.get?_push_size _ rfl,rfl,rfl⟩,fun b hb => ?_,q⟩
 have e : b = s1.heap.objs.size := by simpa using hb
 subst e
 exact I1.fpOk (Nat.le_refl _) (I1.hok.fresh (Nat.le_refl _))
theorem range_it {pins : List (Addr × Obj)} {σ : St} {H : Hp} {s : Shared} {R : It → Hp → Prop} {E : Value → Shared → Prop} {lo hi : Int} {t u v : Tok} {tk : Nat} (I : Inv X pins σ H s) (h1 : -(2 ^ 62) ≤ lo) (h2 : lo < 2 ^ 62) (h3 : -(2 ^ 62) ≤ hi) (h4 : hi < 2 ^ 62)
  (q : R (Itr lo (hi - lo).toNat) H) : wpAny (model X.prog X.w) X.A (pyIter (.ref s.heap.objs.size)) (PIE X pins σ tg R) E { s with heap := s.heap.push { cls := .type "range",data := .fields #[.int lo t,.int hi u,.int 1 v] },toks := tk } := by
 refine wpAny_pyIter_range (IsRange.new ..) (small_one h1 h2 h3 h4) ?_
 have I1 : Inv X pins σ H { s with heap := s.heap.push { cls := .type "range",data := .fields #[.int lo t,.int hi u,.int 1 v] },toks := tk } := I.kept fun b o e => Heap.get?_push_of_some _ e
 refine ⟨(s.heap.push { cls := .type "range",data := .fields #[.int lo t,.int hi u,.int 1 v] }).objs.size,[(s.heap.push { cls := .type "range",data := .fields #[.int lo t,.int hi u,.int 1 v] }).objs.size],_,_,H,rfl,
  I1.kept (t' := tk) fun b o e => Heap.get?_push_of_some _ e,turn_range _ lo (hi - lo).toNat,?_,fun b hb => ?_,q⟩
 ·have e1 : lo + ((0 : Nat) : Int) * 1 = lo := by simp
  have e2 : (((hi - lo).toNat : Nat) : Int) - ((0 : Nat) : Int) = Builtin.Range.rangeSize lo hi 1 := by rw [rangeSize_one]; split <;> lia
  show IsRangeIter _ _ (lo + ((0 : Nat) : Int) * 1) ((((hi - lo).toNat : Nat) : Int) - ((0 : Nat) : Int)) 1
  rw [e1,e2]
  exact Heap.get?_push_size _ rfl
 ·have e : b = (s.heap.push { cls := .type "range",data := .fields #[.int lo t,.int hi u,.int 1 v] }).objs.size := by simpa using hb
  subst e
  exact I1.fpOk (Nat.le_refl _) (I1.hok.fresh (Nat.le_refl _))
noncomputable def iRng1 (ta : TA) : TI := fun σ H R => ta σ H fun vs H1 => ∃ j : Int,vs = [.int j] ∧ -(2 ^ 62) ≤ j ∧ j < 2 ^ 62 ∧ R (Itr 0 j.toNat) H1
theorem pi_range1 {a : Expr} {ta : TA} {p pos : Pos} (hg : Gl X "range") (hm : X.mg "range" = none) (ha : PA X [a] ta) (hs : starEach [a] X.env = [(false,eval a X.env)] := by rfl) : PI X tg (.Call (.Name "range" p) [a] [] pos) (iRng1 ta) := by
 intro pins s σ H R I h
 refine Call_ (ld_blt I hg hm boot_range (PyProof.Rows.callWith_type1 (thn (ha pos pins s σ H _ I h) fun us s1 ⟨vs,H1,I1,r1,q1⟩ => ?_) hs rfl))
 obtain ⟨j,e,q1,q2,q⟩ := q1
 subst e
 cases r1 with
 | cons r rr =>
  cases rr
  obtain ⟨t,rfl⟩ := r
  exact call_range_1 (range_it I1 (by lia) (by lia) q1 q2 (by simpa using q))
noncomputable def tFor (wi : TI) (g : TG) (tb : TS) : TS := fun D σ H => wi σ H fun J H1 => ∃ W : Nat → Nat → St → Hp → Prop,(∃ m,W 0 m σ H1) ∧ ∀ i m σ H,W i m σ H →
 (J.stop i H ∧ D.nx σ H) ∨ (J.go i H ∧ ∃ N : St → Hp → Prop,(∀ σ' H',N σ' H' → ∃ m',m' < m ∧ W (i + 1) m' σ' H') ∧ ∀ x H',J.yld i H x H' → g x σ H' fun σ2 H2 => tb { D with nx := N,ct := N,bk := D.nx } σ2 H2)
noncomputable def pinsAt (fp : List Addr) (h : Heap) : List (Addr × Obj) := fp.filterMap fun b => (h.get? b).map fun o => (b,o)
theorem mem_pinsAt {fp : List Addr} {h : Heap} {b : Addr} {o : Obj} (hb : b ∈ fp) (e : h.get? b = some o) : (b,o) ∈ pinsAt fp h := List.mem_filterMap.mpr ⟨b,hb,by rw [e]; rfl⟩
theorem of_pinsAt {fp : List Addr} {h : Heap} {p : Addr × Obj} (hp : p ∈ pinsAt fp h) : p.1 ∈ fp ∧ h.get? p.1 = some p.2 := by
 obtain ⟨b,hb,e⟩ := List.mem_filterMap.mp hp
 cases q : h.get? b with
 | none => rw [q] at e; cases e
 | some o =>
  rw [q] at e
  have e' : (b,o) = p := Option.some.inj e
  subst e'
  exact ⟨hb,q⟩
theorem Inv.pinned {pins : List (Addr × Obj)} {σ : St} {H : Hp} {s : Shared} {fp : List Addr} (I : Inv X pins σ H s) (hf : ∀ b ∈ fp,FpOk X pins H b) (ho : ∀ b ∈ fp,∃ o,s.heap.get? b = some o ∧ ∀ v,o.data ≠ .cell v) : Inv X (pins ++ pinsAt fp s.heap) σ H s :=
 I.pins_of fun p hp => (List.mem_append.mp hp).elim (fun z => I.pin p (List.mem_append_right _ z)) fun z => by
  obtain ⟨hb,e⟩ := of_pinsAt z
  obtain ⟨f0,f1,f2,_⟩ := hf p.1 hb
  obtain ⟨o,e',d⟩ := ho p.1 hb
  rw [e] at e'; cases e'
  exact ⟨e,f0,f1,f2,d⟩
theorem Inv.unpinned {pins pl : List (Addr × Obj)} {σ : St} {H : Hp} {s : Shared} (I : Inv X (pins ++ pl) σ H s) : Inv X pins σ H s := I.pins_of fun p hp => I.pin p (List.mem_append_right _ (List.mem_append_left _ hp))
theorem ps_for {iter : Expr} {body : List Stmt} {wi : TI} {g : TG} {tb : TS} {pos : Pos} (hp : PassesOwn (model X.prog X.w) X.A X.env X.xe) (hc : X.calm = true) (hi : PI X tg iter wi) (hg : PG X tg g) (hb : PSs X body tb)
  (hs : ∀ x,foldedSetIterable iter X.env x = pure x := by intro _; rfl) : PS X (.For tg iter body [] pos) (tFor wi g tb) := by
 intro pins s σ H D I h
 refine wpAny_For (thn (hi pins s σ H _ I h) fun v s1 h1 => thn h1 fun itv s2 h2 => ?_) hs
 obtain ⟨it,fp,tn,J,H2,e,I2,T,st2,f2,W,⟨m0,w0⟩,turn⟩ := h2
 subst e
 have stat : ∀ {H' : Hp},(∀ b ∈ fp,H' b = none) → ∀ b ∈ fp,FpOk X pins H' b := fun hn b hb => ⟨hn b hb,(f2 b hb).2⟩
 refine codeAny_forLoop_any (fun n s' => ∃ i σ' H',Inv X pins σ' H' s' ∧ tn i s'.heap ∧ (∀ b ∈ fp,H' b = none) ∧ W i n σ' H') ?_ m0 ⟨0,σ,H2,I2,st2,fun b hb => (f2 b hb).1,w0⟩
 rintro n s3 ⟨i,σ3,H3,I3,st3,fr3,w3⟩
 rcases turn i n σ3 H3 w3 with ⟨stop,qn⟩ | ⟨go,N,hN,step⟩
 ·refine wpAny_passesOwn hp (thn (T.done X rfl rfl rfl hc i pins s3 σ3 H3 X.xe I3 (stat fr3) st3 stop) fun r s4 ⟨hr,I4⟩ => ?_)
  subst hr
  exact wpAny_execs_nil ⟨σ3,H3,I4,qn⟩
 ·refine wpAny_passesOwn hp (thn (T.item X rfl rfl rfl hc i pins s3 σ3 H3 X.xe I3 (stat fr3) st3 go) fun r s4 ⟨u,hr,h4⟩ => ?_)
  subst hr
  refine wpAny_passesOwn hp (thn h4 fun _ s5 ⟨x,H5,I5,r5,y5,st5,fr5⟩ => ?_)
  have I5' := I5.pinned (stat fr5) (T.obj _ _ st5)
  refine wpAny_passesOwn hp (thn (hg _ s5 σ3 H5 x u _ I5' r5 (step x H5 y5)) fun _ s6 ⟨σ6,H6,I6,q6⟩ => ?_)
  refine wpAny_passesOwn hp (thn (hb _ s6 σ6 H6 _ I6 q6) fun f s7 q7 => ?_)
  have again : ∀ {σ7 : St} {H7 : Hp},Inv X (pins ++ pinsAt fp s5.heap) σ7 H7 s7 → N σ7 H7 → ∃ m,m < n ∧ ∃ i σ' H',Inv X pins σ' H' s7 ∧ tn i s7.heap ∧ (∀ b ∈ fp,H' b = none) ∧ W i m σ' H' := fun {σ7 H7} I7 n7 => by
   obtain ⟨m',hm,w7⟩ := hN σ7 H7 n7
   refine ⟨m',hm,i + 1,σ7,H7,I7.unpinned,T.keep _ _ _ st5 fun b hb o e => (I7.pin (b,o) (List.mem_append_right _ (List.mem_append_right _ (mem_pinsAt hb e)))).1,fun b hb => ?_,w7⟩
   obtain ⟨o,e,d⟩ := T.obj _ _ st5 b hb
   exact (I7.pin (b,o) (List.mem_append_right _ (List.mem_append_right _ (mem_pinsAt hb e)))).2.1
  cases f with
  | next => obtain ⟨σ7,H7,I7,n7⟩ := q7; exact again I7 n7
  | cont => obtain ⟨σ7,H7,I7,n7⟩ := q7; exact again I7 n7
  | brk => obtain ⟨σ7,H7,I7,q7⟩ := q7; exact ⟨σ7,H7,I7.unpinned,q7⟩
  | ret v => obtain ⟨x7,σ7,H7,I7,r7,q7⟩ := q7; exact ⟨x7,σ7,H7,I7.unpinned,r7,q7⟩
end
theorem for_list {K : PySem.W.Frag} {a : Addr} {xs : List V} {g : TG} {tb : TS} {D : Ends} {σ : St} {H : Hp} (Pv : Nat → St → Hp → Prop) (h0 : Pv 0 σ H) (hl : ∀ i σ H,i ≤ xs.length → Pv i σ H → SqL K H a xs)
  (hs : ∀ i x σ H,xs[i]? = some x → Pv i σ H → g x σ H fun σ2 H2 => tb { D with nx := Pv (i + 1),ct := Pv (i + 1),bk := D.nx } σ2 H2) (hd : ∀ σ H,Pv xs.length σ H → D.nx σ H) :
  ∃ W : Nat → Nat → St → Hp → Prop,(∃ m,W 0 m σ H) ∧ ∀ i m σ H,W i m σ H →
   ((Itl K a).stop i H ∧ D.nx σ H) ∨ ((Itl K a).go i H ∧ ∃ N : St → Hp → Prop,(∀ σ' H',N σ' H' → ∃ m',m' < m ∧ W (i + 1) m' σ' H') ∧ ∀ x H',(Itl K a).yld i H x H' → g x σ H' fun σ2 H2 => tb { D with nx := N,ct := N,bk := D.nx } σ2 H2) := by
 refine ⟨fun i m σ H => m = xs.length - i ∧ i ≤ xs.length ∧ Pv i σ H,⟨xs.length,by simp,Nat.zero_le _,h0⟩,?_⟩
 rintro i m σ H ⟨rfl,hi,p⟩
 have q := hl i σ H hi p
 by_cases hlt : i < xs.length
 ·refine .inr ⟨⟨xs,xs[i],q,by simp [hlt]⟩,Pv (i + 1),fun σ' H' p' => ⟨xs.length - (i + 1),by lia,rfl,hlt,p'⟩,fun x H' y => ?_⟩
  obtain ⟨e,y⟩ := y
  subst e
  exact hs i x σ _ (y xs q) p
 ·have e : i = xs.length := by lia
  subst e
  exact .inl ⟨⟨xs,q,Nat.le_refl _⟩,hd σ H p⟩
theorem for_tup {K : PySem.W.Frag} {a : Addr} {xs : List V} {g : TG} {tb : TS} {D : Ends} {σ : St} {H : Hp} (Pv : Nat → St → Hp → Prop) (h0 : Pv 0 σ H) (hl : ∀ i σ H,i ≤ xs.length → Pv i σ H → SqT K H a xs)
  (hs : ∀ i x σ H,xs[i]? = some x → Pv i σ H → g x σ H fun σ2 H2 => tb { D with nx := Pv (i + 1),ct := Pv (i + 1),bk := D.nx } σ2 H2) (hd : ∀ σ H,Pv xs.length σ H → D.nx σ H) :
  ∃ W : Nat → Nat → St → Hp → Prop,(∃ m,W 0 m σ H) ∧ ∀ i m σ H,W i m σ H →
   ((Itt K a).stop i H ∧ D.nx σ H) ∨ ((Itt K a).go i H ∧ ∃ N : St → Hp → Prop,(∀ σ' H',N σ' H' → ∃ m',m' < m ∧ W (i + 1) m' σ' H') ∧ ∀ x H',(Itt K a).yld i H x H' → g x σ H' fun σ2 H2 => tb { D with nx := N,ct := N,bk := D.nx } σ2 H2) := by
 refine ⟨fun i m σ H => m = xs.length - i ∧ i ≤ xs.length ∧ Pv i σ H,⟨xs.length,by simp,Nat.zero_le _,h0⟩,?_⟩
 rintro i m σ H ⟨rfl,hi,p⟩
 have q := hl i σ H hi p
 by_cases hlt : i < xs.length
 ·refine .inr ⟨⟨xs,xs[i],q,by simp [hlt]⟩,Pv (i + 1),fun σ' H' p' => ⟨xs.length - (i + 1),by lia,rfl,hlt,p'⟩,fun x H' y => ?_⟩
  obtain ⟨e,y⟩ := y
  subst e
  exact hs i x σ _ (y xs q) p
 ·have e : i = xs.length := by lia
  subst e
  exact .inl ⟨⟨xs,q,Nat.le_refl _⟩,hd σ H p⟩
theorem for_range {lo : Int} {n : Nat} {g : TG} {tb : TS} {D : Ends} {σ : St} {H : Hp} (Pv : Nat → St → Hp → Prop) (h0 : Pv 0 σ H)
  (hs : ∀ i σ H,i < n → Pv i σ H → g (.int (lo + i)) σ H fun σ2 H2 => tb { D with nx := Pv (i + 1),ct := Pv (i + 1),bk := D.nx } σ2 H2) (hd : ∀ σ H,Pv n σ H → D.nx σ H) :
  ∃ W : Nat → Nat → St → Hp → Prop,(∃ m,W 0 m σ H) ∧ ∀ i m σ H,W i m σ H →
   ((Itr lo n).stop i H ∧ D.nx σ H) ∨ ((Itr lo n).go i H ∧ ∃ N : St → Hp → Prop,(∀ σ' H',N σ' H' → ∃ m',m' < m ∧ W (i + 1) m' σ' H') ∧ ∀ x H',(Itr lo n).yld i H x H' → g x σ H' fun σ2 H2 => tb { D with nx := N,ct := N,bk := D.nx } σ2 H2) := by
 refine ⟨fun i m σ H => m = n - i ∧ i ≤ n ∧ Pv i σ H,⟨n,by simp,Nat.zero_le _,h0⟩,?_⟩
 rintro i m σ H ⟨rfl,hi,p⟩
 by_cases hlt : i < n
 ·refine .inr ⟨hlt,Pv (i + 1),fun σ' H' p' => ⟨n - (i + 1),by lia,rfl,hlt,p'⟩,fun x H' y => ?_⟩
  obtain ⟨e,y⟩ := y
  subst e y
  exact hs i σ _ hlt p
 ·have e : i = n := by lia
  subst e
  exact .inl ⟨Nat.le_refl _,hd σ H p⟩
end L2
namespace L2
open PySem PySem.Spec PyProof.Rows
noncomputable abbrev R2 := V → V → Hp → VK → Prop
noncomputable def OpR (X : Cx) (f : Value → Value → Sem Value) (r : R2) : Prop :=
 ∀ (pins : List (Addr × Obj)) (s : Shared) (σ : St) (H : Hp) (x y : V) (v u : Value) (Q : VK),Inv X pins σ H s → RelV x v → RelV y u → r x y H Q →
  wpAny (model X.prog X.w) X.A (f v u) (EP X pins σ Q) X.xe s
noncomputable def CallR (X : Cx) (f : Value) (r : List V → Hp → VK → Prop) : Prop :=
 ∀ (pins : List (Addr × Obj)) (s : Shared) (σ : St) (H : Hp) (xs : List V) (us : List Value) (Q : VK),Inv X pins σ H s → Vals xs us → r xs H Q →
  wpAny (model X.prog X.w) X.A (call f us) (EP X pins σ Q) X.xe s
noncomputable def tOp (r : R2) (ta tb : TE) : TE := fun σ H Q => ta σ H fun x H1 => tb σ H1 fun y H2 => r x y H2 Q
inductive IRI (C : Int → Int → Prop) (g : Int → Int → V) (x y : V) (H : Hp) (Q : VK) : Prop
 | mk (i j : Int) : (x = .int i) → (y = .int j) → (C i j) → (Q (g i j) H) → IRI C g x y H Q
noncomputable def rI (C : Int → Int → Prop) (g : Int → Int → V) : R2 := fun x y H Q => IRI C g x y H Q
inductive IRI0 (g : Int → Int → V) (x y : V) (H : Hp) (Q : VK) : Prop
 | mk (i j : Int) : (x = .int i) → (y = .int j) → (Q (g i j) H) → IRI0 g x y H Q
noncomputable def rI0 (g : Int → Int → V) : R2 := fun x y H Q => IRI0 g x y H Q
section
variable {X : Cx} {a b c : Expr} {ta tb tc : TE} {pos : Pos}
theorem binT (ha : PE X a ta) (hb : PE X b tb) {pins : List (Addr × Obj)} {s : Shared} {σ : St} {H : Hp} {R : V → V → Hp → Prop} (I : Inv X pins σ H s)
  (h : ta σ H fun x H1 => tb σ H1 fun y H2 => R x y H2) {Q : Value → Shared → Prop} {f : Value → Value → Sem Value}
  (hf : ∀ v u s2 x y H2,Inv X pins σ H2 s2 → RelV x v → RelV y u → R x y H2 → wpAny (model X.prog X.w) X.A (f v u) Q X.xe s2) :
  wpAny (model X.prog X.w) X.A (eval a X.env) (fun v s₁ => wpAny (model X.prog X.w) X.A (eval b X.env) (fun u s₂ => wpAny (model X.prog X.w) X.A (f v u) Q X.xe s₂) X.xe s₁) X.xe s := by
 refine thn (ha pins s σ H _ I h) fun v s1 ⟨x,H1,I1,r1,q1⟩ => ?_
 refine thn (hb pins s1 σ H1 _ I1 q1) fun u s2 ⟨y,H2,I2,r2,q2⟩ => ?_
 exact hf v u s2 x y H2 I2 r1 r2 q2
theorem pe_op {op : Operator} {r : R2} (ho : OpR X (binaryOp op) r) (ha : PE X a ta) (hb : PE X b tb) : PE X (.BinOp a op b pos) (tOp r ta tb) := by
 intro pins s σ H Q I h
 exact wpAny_BinOp (binT ha hb I h fun v u s2 x y H2 I2 rx ry q => ho pins s2 σ H2 x y v u Q I2 rx ry q)
theorem opI {f : Value → Value → Sem Value} {C : Int → Int → Prop} {g : Int → Int → Int}
  (rule : ∀ (i j : Int) (t u : Tok) (s : Shared) (Q : Value → Shared → Prop) (E : Value → Shared → Prop),C i j → Q (.int (g i j) s.toks) { s with toks := s.toks + 1 } → wpAny (model X.prog X.w) X.A (f (.int i t) (.int j u)) Q E s) :
  OpR X f (rI C fun i j => .int (g i j)) := by
 intro pins s σ H x y v u Q I rx ry h
 obtain ⟨i,j,rfl,rfl,hc,q⟩ := h
 obtain ⟨t,rfl⟩ := rx
 obtain ⟨t',rfl⟩ := ry
 exact rule i j t t' s _ _ hc ⟨.int (g i j),H,I.tok _,⟨_,rfl⟩,q⟩
theorem opI0 {f : Value → Value → Sem Value} {g : Int → Int → Int}
  (rule : ∀ (i j : Int) (t u : Tok) (s : Shared) (Q : Value → Shared → Prop) (E : Value → Shared → Prop),Q (.int (g i j) s.toks) { s with toks := s.toks + 1 } → wpAny (model X.prog X.w) X.A (f (.int i t) (.int j u)) Q E s) :
  OpR X f (rI0 fun i j => .int (g i j)) := by
 intro pins s σ H x y v u Q I rx ry h
 obtain ⟨i,j,rfl,rfl,q⟩ := h
 obtain ⟨t,rfl⟩ := rx
 obtain ⟨t',rfl⟩ := ry
 exact rule i j t t' s _ _ ⟨.int (g i j),H,I.tok _,⟨_,rfl⟩,q⟩
theorem opB0 {f : Value → Value → Sem Value} {g : Int → Int → Bool}
  (rule : ∀ (i j : Int) (t u : Tok) (s : Shared) (Q : Value → Shared → Prop) (E : Value → Shared → Prop),Q (.bool (g i j)) s → wpAny (model X.prog X.w) X.A (f (.int i t) (.int j u)) Q E s) :
  OpR X f (rI0 fun i j => .bl (g i j)) := by
 intro pins s σ H x y v u Q I rx ry h
 obtain ⟨i,j,rfl,rfl,q⟩ := h
 obtain ⟨t,rfl⟩ := rx
 obtain ⟨t',rfl⟩ := ry
 exact rule i j t t' s _ _ ⟨.bl (g i j),H,I,rfl,q⟩
noncomputable def CPow (i j : Int) : Prop := 0 ≤ j ∧ j ≤ 1000000 ∧ i.natAbs < 2 ^ 64
noncomputable def CMul (i j : Int) : Prop := (-(2 ^ 64) < i ∧ i < 2 ^ 64) ∨ (-(2 ^ 64) < j ∧ j < 2 ^ 64)
theorem CMul.ok {i j : Int} (h : CMul i j) : IntMulOk i j := by
 rcases h with ⟨h1,h2⟩ | ⟨h1,h2⟩
 ·exact .of_left (intBits_le_64 h1 h2)
 ·exact .of_right (intBits_le_64 h1 h2)
theorem op_add : OpR X (binaryOp .Add) (rI0 fun i j => .int (i + j)) := opI0 fun _ _ _ _ _ _ _ q => add_int q
theorem op_sub : OpR X (binaryOp .Sub) (rI0 fun i j => .int (i - j)) := opI0 fun _ _ _ _ _ _ _ q => sub_int q
theorem op_mul : OpR X (binaryOp .Mult) (rI CMul fun i j => .int (i * j)) := opI fun _ _ _ _ _ _ _ hc q => mul_int q hc.ok
theorem op_mod : OpR X (binaryOp .Mod) (rI (fun _ j => 0 < j) fun i j => .int (i % j)) := opI fun i j _ _ _ _ _ hc q => by
 have h1 : (0 : Int) < j := hc
 exact mod_int' (by lia) (by rw [Int.fmod_eq_emod_of_nonneg i (by lia)]; exact q)
theorem op_pow : OpR X (binaryOp .Pow) (rI CPow fun i j => .int (i ^ j.toNat)) := opI fun _ _ _ _ _ _ _ hc q => pow_int_small hc.1 hc.2.1 hc.2.2 q
end
noncomputable def scal : V → V → Bool
 | .non,.non => true | .non,.int _ => true | .int _,.non => true | .non,.bl _ => true | .bl _,.non => true | .non,.str _ => true | .str _,.non => true
 | .int _,.int _ => true | .bl _,.bl _ => true | .str _,.str _ => true | .byt _,.byt _ => true
 | .int _,.str _ => true | .str _,.int _ => true | .bl _,.str _ => true | .str _,.bl _ => true
 | _,_ => false
noncomputable def rEq : R2 := fun x y H Q => scal x y = true ∧ Q (.bl (decide (x = y))) H
noncomputable def rNe : R2 := fun x y H Q => scal x y = true ∧ Q (.bl (!decide (x = y))) H
theorem dec_int {i j : Int} : decide (V.int i = V.int j) = (i == j) := by
 rw [Bool.eq_iff_iff]
 simp
theorem dec_bl {i j : Bool} : decide (V.bl i = V.bl j) = (i == j) := by
 rw [Bool.eq_iff_iff]
 simp
theorem dec_str {i j : Str} : decide (V.str i = V.str j) = (i == j) := by
 rw [Bool.eq_iff_iff]
 simp
theorem dec_byt {i j : Array UInt8} : decide (V.byt i = V.byt j) = (i.toList == j.toList) := by
 rw [Bool.eq_iff_iff]
 cases i
 cases j
 simp
section
variable {X : Cx} {a b c : Expr} {ta tb tc : TE} {pos : Pos}
theorem fin_bl {pins : List (Addr × Obj)} {σ : St} {H : Hp} {s : Shared} {Q : VK} {k k' : Bool} (I : Inv X pins σ H s) (q : Q (.bl k) H) (e : k = k') : EP X pins σ Q (.bool k') s := by
 subst e
 exact ⟨.bl k,H,I,rfl,q⟩
theorem op_eq : OpR X (compareOp .Eq) rEq := by
 intro pins s σ H x y v u Q I rx ry h
 obtain ⟨hs,q⟩ := h
 cases x with
 | non =>
  cases rx
  cases y with
  | non => cases ry; exact PySem.EqNone.eq_none_none (fin_bl I q (by simp))
  | bl j => cases ry; exact PySem.EqNone.eq_none_bool (fin_bl I q (by simp))
  | int j => obtain ⟨t',rfl⟩ := ry; exact PySem.EqNone.eq_none_int (fin_bl I q (by simp))
  | str j => obtain ⟨t',rfl⟩ := ry; exact PySem.EqNone.eq_none_str (fin_bl I q (by simp))
  | _ => exact absurd (show false = true from hs) Bool.false_ne_true
 | bl i =>
  cases rx
  cases y with
  | non => cases ry; exact PySem.EqNone.eq_bool_none (fin_bl I q (by simp))
  | bl j => cases ry; exact eq_bool (fin_bl I q dec_bl)
  | str j => obtain ⟨t',rfl⟩ := ry; exact PySem.EqMixed.eq_bool_str (fin_bl I q (by simp))
  | _ => exact absurd (show false = true from hs) Bool.false_ne_true
 | int i =>
  obtain ⟨t,rfl⟩ := rx
  cases y with
  | non => cases ry; exact PySem.EqNone.eq_int_none (fin_bl I q (by simp))
  | int j => obtain ⟨t',rfl⟩ := ry; exact eq_int (fin_bl I q dec_int)
  | str j => obtain ⟨t',rfl⟩ := ry; exact PySem.EqMixed.eq_int_str (fin_bl I q (by simp))
  | _ => exact absurd (show false = true from hs) Bool.false_ne_true
 | str i =>
  obtain ⟨t,rfl⟩ := rx
  cases y with
  | non => cases ry; exact PySem.EqNone.eq_str_none (fin_bl I q (by simp))
  | bl j => cases ry; exact PySem.EqMixed.eq_str_bool (fin_bl I q (by simp))
  | int j => obtain ⟨t',rfl⟩ := ry; exact PySem.EqMixed.eq_str_int (fin_bl I q (by simp))
  | str j => obtain ⟨t',rfl⟩ := ry; exact eq_str (fin_bl I q dec_str)
  | _ => exact absurd (show false = true from hs) Bool.false_ne_true
 | byt i =>
  obtain ⟨t,rfl⟩ := rx
  cases y with
  | byt j => obtain ⟨t',rfl⟩ := ry; exact PySem.W.eq_bytes (fin_bl I q dec_byt)
  | _ => exact absurd (show false = true from hs) Bool.false_ne_true
 | _ => cases y <;> exact absurd (show false = true from hs) Bool.false_ne_true
theorem op_ne : OpR X (compareOp .NotEq) rNe := by
 intro pins s σ H x y v u Q I rx ry h
 obtain ⟨hs,q⟩ := h
 cases x with
 | non =>
  cases rx
  cases y with
  | non => cases ry; exact PySem.EqNone.ne_none_none (fin_bl I q (by simp))
  | bl j => cases ry; exact PySem.EqNone.ne_none_bool (fin_bl I q (by simp))
  | int j => obtain ⟨t',rfl⟩ := ry; exact PySem.EqNone.ne_none_int (fin_bl I q (by simp))
  | str j => obtain ⟨t',rfl⟩ := ry; exact PySem.EqNone.ne_none_str (fin_bl I q (by simp))
  | _ => exact absurd (show false = true from hs) Bool.false_ne_true
 | bl i =>
  cases rx
  cases y with
  | non => cases ry; exact PySem.EqNone.ne_bool_none (fin_bl I q (by simp))
  | bl j => cases ry; exact ne_bool (fin_bl I q (congrArg not dec_bl))
  | str j => obtain ⟨t',rfl⟩ := ry; exact PySem.EqMixed.ne_bool_str (fin_bl I q (by simp))
  | _ => exact absurd (show false = true from hs) Bool.false_ne_true
 | int i =>
  obtain ⟨t,rfl⟩ := rx
  cases y with
  | non => cases ry; exact PySem.EqNone.ne_int_none (fin_bl I q (by simp))
  | int j => obtain ⟨t',rfl⟩ := ry; exact ne_int (fin_bl I q (congrArg not dec_int))
  | str j => obtain ⟨t',rfl⟩ := ry; exact PySem.EqMixed.ne_int_str (fin_bl I q (by simp))
  | _ => exact absurd (show false = true from hs) Bool.false_ne_true
 | str i =>
  obtain ⟨t,rfl⟩ := rx
  cases y with
  | non => cases ry; exact PySem.EqNone.ne_str_none (fin_bl I q (by simp))
  | bl j => cases ry; exact PySem.EqMixed.ne_str_bool (fin_bl I q (by simp))
  | int j => obtain ⟨t',rfl⟩ := ry; exact PySem.EqMixed.ne_str_int (fin_bl I q (by simp))
  | str j => obtain ⟨t',rfl⟩ := ry; exact ne_str (fin_bl I q (congrArg not dec_str))
  | _ => exact absurd (show false = true from hs) Bool.false_ne_true
 | byt i =>
  obtain ⟨t,rfl⟩ := rx
  cases y with
  | byt j => obtain ⟨t',rfl⟩ := ry; exact PySem.W.ne_bytes (fin_bl I q (congrArg not dec_byt))
  | _ => exact absurd (show false = true from hs) Bool.false_ne_true
 | _ => cases y <;> exact absurd (show false = true from hs) Bool.false_ne_true
theorem op_lt : OpR X (compareOp .Lt) (rI0 fun i j => .bl (decide (i < j))) := opB0 fun _ _ _ _ _ _ _ q => lt_int q
theorem op_le : OpR X (compareOp .LtE) (rI0 fun i j => .bl (decide (i ≤ j))) := opB0 fun _ _ _ _ _ _ _ q => le_int q
theorem op_gt : OpR X (compareOp .Gt) (rI0 fun i j => .bl (decide (j < i))) := opB0 fun _ _ _ _ _ _ _ q => gt_int q
theorem op_ge : OpR X (compareOp .GtE) (rI0 fun i j => .bl (decide (j ≤ i))) := opB0 fun _ _ _ _ _ _ _ q => ge_int q
theorem nomark (b : Expr) {op : CmpOp} (h : op ≠ .In := by decide) (h2 : op ≠ .NotIn := by decide) : behindInMarks op b = false := by
 have e1 : (op == CmpOp.In) = false := by cases op <;> first | rfl | exact absurd rfl h
 have e2 : (op == CmpOp.NotIn) = false := by cases op <;> first | rfl | exact absurd rfl h2
 cases b <;> simp [behindInMarks,e1,e2]
theorem pe_cmpR {op : CmpOp} {r : R2} (ho : OpR X (compareOp op) r) (ha : PE X a ta) (hb : PE X b tb) (hm : behindInMarks op b = false) : PE X (.Compare a [op] [b] pos) (tOp r ta tb) := by
 intro pins s σ H Q I h
 exact wpAny_Compare1 (binT ha hb I h fun v u s2 x y H2 I2 rx ry q => ho pins s2 σ H2 x y v u Q I2 rx ry q) hm
inductive IBl (x : V) (H' : Hp) (Q : Bool → Hp → Prop) : Prop
 | mk (k : Bool) : (x = .bl k) → (Q k H') → IBl x H' Q
noncomputable def tTest (t : TE) : TT := fun σ H Q => t σ H fun x H' => IBl x H' Q
theorem pt_cmpR {op : CmpOp} {r : R2} (ho : OpR X (compareOp op) r) (ha : PE X a ta) (hb : PE X b tb) (hm : behindInMarks op b = false) : PT X (.Compare a [op] [b] pos) (tTest (tOp r ta tb)) := by
 intro pins s σ H Q I h
 refine wpAny_isTrue_Compare1 (thn (ha pins s σ H _ I h) fun v s1 ⟨x,H1,I1,r1,q1⟩ => thn (hb pins s1 σ H1 _ I1 q1) fun u s2 ⟨y,H2,I2,r2,q2⟩ =>
  thn (ho pins s2 σ H2 x y v u _ I2 r1 r2 q2) fun c s3 ⟨z,H3,I3,r3,k,e,q3⟩ => ?_) hm
 subst e
 cases r3
 exact wpAny_truthy_bool ⟨H3,I3,q3⟩
theorem line63 : (sizeLine : Nat) < 2 ^ 63 := by rw [sizeLine_eq]; decide
theorem op_add_str : OpR X (binaryOp .Add) (fun x y H Q => ∃ i j,x = .str i ∧ y = .str j ∧ i.length + j.length ≤ sizeLine ∧ Q (.str (i ++ j)) H) := by
 intro pins s σ H x y v u Q I rx ry h
 obtain ⟨i,j,rfl,rfl,hz,q⟩ := h
 obtain ⟨t,rfl⟩ := rx
 obtain ⟨t',rfl⟩ := ry
 exact add_str (fun t' tk => ⟨.str (i ++ j),H,I.tok _,⟨_,rfl⟩,q⟩) hz
theorem vals1 {x : V} {us : List Value} (r : Vals [x] us) : ∃ u,us = [u] ∧ RelV x u := by
 cases r with
 | cons r1 r2 => cases r2; exact ⟨_,rfl,r1⟩
theorem vals2 {x y : V} {us : List Value} (r : Vals [x,y] us) : ∃ u w',us = [u,w'] ∧ RelV x u ∧ RelV y w' := by
 cases r with
 | cons r1 r2 =>
  cases r2 with
  | cons r3 r4 => cases r4; exact ⟨_,_,rfl,r1,r3⟩
theorem call_min2 (hc : X.calm = true) : CallR X (.builtin "min") (fun xs H Q => ∃ i j,xs = [.int i,.int j] ∧ Q (.int (if j < i then j else i)) H) := by
 intro pins s σ H xs us Q I r h
 obtain ⟨i,j,rfl,q⟩ := h
 obtain ⟨u,w',rfl,⟨t,rfl⟩,⟨t',rfl⟩⟩ := vals2 r
 refine min_two_ints (I.ok.hd hc) fun h' tk k => ⟨_,H,I.kept k,?_,q⟩
 by_cases hj : j < i
 ·rw [if_pos hj,if_pos hj]; exact ⟨_,rfl⟩
 ·rw [if_neg hj,if_neg hj]; exact ⟨_,rfl⟩
theorem call_int1 : CallR X (.type "int") (fun xs H Q => (∃ i,xs = [.int i] ∧ Q (.int i) H) ∨ ∃ k,xs = [.bl k] ∧ Q (.int (if k then 1 else 0)) H) := by
 intro pins s σ H xs us Q I r h
 rcases h with ⟨i,rfl,q⟩ | ⟨k,rfl,q⟩
 ·obtain ⟨u,rfl,t,rfl⟩ := vals1 r
  exact call_int_int ⟨.int i,H,I,⟨_,rfl⟩,q⟩
 ·obtain ⟨u,rfl,r1⟩ := vals1 r
  cases r1
  exact call_int_bool ⟨.int (if k then 1 else 0),H,I.tok _,⟨_,rfl⟩,q⟩
end
end L2
namespace L2
open PySem PySem.Spec PyProof.Rows
structure ObjM (h : Heap) (x dx C : Addr) (mA : Str → Option Value) : Prop where
 obj : h.get? x = some (PySem.W.instObj C dx)
 ns : h.Ns1 dx mA
 ne : dx ≠ x
section
variable {prog : Program} {w : World} {A : Around} {E : Value → Shared → Prop} {s : Shared} {K : PySem.W.Frag} {x dx C f : Addr} {mA : Str → Option Value} {name : Str} {v : Value}
end
theorem RelO.some_of {v : V} {o : Option Value} (r : RelO (some v) o) : ∃ u,o = some u ∧ RelV v u := by
 cases o with
 | none => exact (show False from r).elim
 | some u => exact ⟨u,rfl,r⟩
section
variable {P : Program} {w : World} {H H' : Hp} {h h' : Heap} {a C dx : Addr} {fs fs' : List (Str × V)}
end
structure Cls (K : PySem.W.Frag) (C : Addr) : Prop where
 pg : PySem.W.plainGet K C Str.empty = true
 hd : PySem.W.hasDictIn K C = true
 po : PySem.W.plainOver K C = true
 sa : PySem.W.findIn K (.ref C) "__setattr__" = some (some (.builtin "object.__setattr__"))
section
variable {X : Cx} {pins : List (Addr × Obj)} {σ : St} {H : Hp} {s : Shared} {a C dx : Addr} {fs : List (Str × V)} {f : Str} {v : V} {A : Around} {E : Value → Shared → Prop}
end
section
variable {X : Cx} {o e value : Expr} {f : Str} {pos pos' tpos : Pos} {ta tv : TE}
end
section
variable {X : Cx} {pins : List (Addr × Obj)} {σ : St} {H : Hp} {s : Shared} {A : Around} {E : Value → Shared → Prop} {Q : Value → Shared → Prop} {c : Value} {b : Bool}
end
end L2
namespace L2
open PySem PySem.Spec PyProof.Rows
structure Room (k : Nat) (A : Around) : Prop where
 hd : A.handled = none
 dp : A.depth + 3 * k + 5 < recursionLimit
 un : A.units + 16 * k + 200 < cLine
theorem Room.mono {j k : Nat} {A : Around} (r : Room k A) (h : j ≤ k) : Room j A := ⟨r.hd,by have := r.dp; lia,by have := r.un; lia⟩
theorem Room.deeper {k : Nat} {A : Around} (r : Room (k + 1) A) (env : Env) : Room k (A.deeper env) :=
 ⟨r.hd,by have := r.dp; show A.depth + 1 + 3 * k + 5 < _; lia,by have := r.un; show A.units + 3 + 16 * k + 200 < _; lia⟩
theorem Room.depth {k : Nat} {A : Around} (r : Room k A) : A.depth < recursionLimit := by have := r.dp; lia
theorem Room.units {k : Nat} {A : Around} (r : Room k A) : A.units + 64 < cLine := by have := r.un; lia
noncomputable def tNil : TA := fun _ H Q => Q [] H
noncomputable def tCons (ta : TE) (tr : TA) : TA := fun σ H Q => ta σ H fun x H1 => tr σ H1 fun xs H2 => Q (x :: xs) H2
section
variable {X : Cx} {e : Expr} {es : List Expr} {te : TE} {t : TA} {pos : Pos}
theorem pa_nil : PA X [] tNil := fun _ _ _ _ H Q I h => Calls.spliced_nil ⟨[],H,I,.nil,h⟩
theorem pa_cons (ha : PE X e te) (hr : PA X es t) (hs : starEach (e :: es) X.env = (false,eval e X.env) :: starEach es X.env := by rfl) : PA X (e :: es) (tCons te t) := by
 intro pos pins s σ H Q I h
 rw [hs]
 show wpAny _ _ (spliced ((false,eval e X.env) :: backTo pos (starEach es X.env))) _ _ s
 refine Calls.spliced_cons (thn (ha pins s σ H _ I h) fun u s1 ⟨x,H1,I1,r1,q1⟩ => ?_)
 exact thn (hr pos pins s1 σ H1 _ I1 q1) fun us s2 ⟨xs,H2,I2,r2,q2⟩ => ⟨x :: xs,H2,I2,.cons r1 r2,q2⟩
noncomputable def tLst (t : TA) : TE := fun σ H Q => t σ H fun xs H1 => xs.length ≤ sizeLine ∧ ∀ p,H1 p = none → Q (.ref p) (upd H1 p (.lst xs))
theorem pe_lst (h : PA X es t) : PE X (.List es pos) (tLst t) := by
 intro pins s σ H Q I hq
 refine wpAny_List_spliced (thn (h pos pins s σ H _ I hq) fun us s1 ⟨xs,H1,I1,r,z,q⟩ => ⟨by rw [← r.length]; exact z,?_⟩)
 have hf : H1 s1.heap.objs.size = none := I1.hok.fresh (Nat.le_refl _)
 refine ⟨.ref s1.heap.objs.size,upd H1 s1.heap.objs.size (.lst xs),I1.laid (t' := s1.toks) (fun b u e => Heap.get?_push_of_some _ e) (Nat.le_refl _) ?_,rfl,q _ hf⟩
 exact ⟨z,us,0,r,Heap.get?_push_size _ rfl⟩
end
noncomputable abbrev Sp := List V → Hp → VK → XK → Prop
noncomputable abbrev CXT := List Env → Hp → Shared → XK → Value → Shared → Prop
structure Env0 (P : Program) (w : World) (K : PySem.W.Frag) (mg : Str → Option Value) (base : Heap) (A : Around) (outer : List Env) (s : Shared) (H : Hp) : Prop where
 frames : A.frames = some outer
 mod : Mod K mg base
 bs : ∀ b o,base.get? b = some o → s.heap.get? b = some o ∧ H b = none
 bsz : base.objs.size ≤ s.heap.objs.size
 funs : s.heap.FunFrames base outer
 frf : ∀ b ∈ frs outer,H b = none
 hok : HOk P w H s.heap
 bare : AllBare s.gens
noncomputable def CE (outer : List Env) (P : Program) (w : World) (H : Hp) (s : Shared) (Q : VK) (u : Value) (s' : Shared) : Prop :=
 ∃ v H',s'.os = s.os ∧ AllBare s'.gens ∧ Un (frs outer) [] H H' s.heap s'.heap ∧ HOk P w H' s'.heap ∧ RelV v u ∧ Q v H'
noncomputable def CR (CX : CXT) (outer : List Env) (P : Program) (w : World) (H : Hp) (s : Shared) (Q : VK) (E : XK) (r : Result) (s' : Shared) : Prop :=
 match r with
 | .ok (.ret u) => CE outer P w H s Q u s'
 | .ok _ => False
 | .error e => CX outer H s E e s'
structure FnOk (P : Program) (w : World) (K : PySem.W.Frag) (mg : Str → Option Value) (base : Heap) (CX : CXT) (k : Nat) (f : Addr) (fd : FuncData) (ps : List Str) (sp : Sp) : Prop where
 len : ∀ vs H Q E,sp vs H Q E → vs.length = ps.length
 run : ∀ (A : Around) (outer : List Env) (s : Shared) (H : Hp) (args : Args) (us : List Value) (vs : List V) (Q : VK) (E : XK),Room k A → Env0 P w K mg base A outer s H → BindsTo s fd args (ps.zip us) → Vals vs us → sp vs H Q E →
  codeAny (model P w) A (.call (.ref f) args) (CR CX outer P w H s Q E) s
theorem FnOk.mono {P : Program} {w : World} {K : PySem.W.Frag} {mg : Str → Option Value} {base : Heap} {CX : CXT} {j k : Nat} {f : Addr} {fd : FuncData} {ps : List Str} {sp : Sp} (F : FnOk P w K mg base CX j f fd ps sp) (h : j ≤ k) :
  FnOk P w K mg base CX k f fd ps sp := ⟨F.len,fun A outer s H args us vs Q E hr => F.run A outer s H args us vs Q E (hr.mono h)⟩
theorem FnOk.imp {P : Program} {w : World} {K : PySem.W.Frag} {mg : Str → Option Value} {base : Heap} {CX : CXT} {k : Nat} {f : Addr} {fd : FuncData} {ps : List Str} {sp sp' : Sp} (F : FnOk P w K mg base CX k f fd ps sp)
  (h : ∀ vs H Q E,sp' vs H Q E → sp vs H Q E) : FnOk P w K mg base CX k f fd ps sp' :=
 ⟨fun vs H Q E q => F.len vs H Q E (h _ _ _ _ q),fun A outer s H args us vs Q E hr he hb hv hs => F.run A outer s H args us vs Q E hr he hb hv (h _ _ _ _ hs)⟩
section
variable {X : Cx} {pins : List (Addr × Obj)} {σ : St} {H : Hp} {s s' : Shared}
theorem Inv.env0 (I : Inv X pins σ H s) : Env0 X.prog X.w X.K X.mg X.base X.A X.stack s H :=
 ⟨I.ok.frames,I.ok.mod,I.bs,Nat.le_trans I.ok.bsz I.sz,I.stack,I.stkFree,I.hok,I.bare⟩
theorem Inv.after {Q : VK} {u : Value} (I : Inv X pins σ H s) (h : CE X.stack X.prog X.w H s Q u s') : EP X pins σ Q u s' := by
 obtain ⟨v,H',os,bare,un,hok,r,q⟩ := h
 obtain ⟨hh,g,d,t,os'⟩ := s'
 obtain rfl : os' = s.os := os
 exact ⟨v,H',I.call (h' := hh) (g' := g) (d' := d) (t' := t) (ch := []) un hok bare (fun b z => absurd z (by simp)),r,q⟩
end
noncomputable def tCall (sp : Sp) (dvs : List V) (E : XK) (t : TA) : TE := fun σ H Q => t σ H fun vs H1 => sp (vs ++ dvs) H1 Q E
noncomputable def Binds (K : PySem.W.Frag) (fd : FuncData) (ps : List Str) (ds : List Value) : Prop :=
 ∀ (s : Shared) (us : List Value),K.In s.heap → (us ++ ds).length = ps.length → BindsTo s fd ⟨us,[]⟩ (ps.zip (us ++ ds))
theorem Binds.all {K : PySem.W.Frag} {fd : FuncData} {ps : List Str} (h : ∀ us : List Value,us.length = ps.length → bindArgs fd ⟨us,[]⟩ = pure (ps.zip us)) : Binds K fd ps [] := fun s us _ hl => by
 rw [List.append_nil] at hl ⊢
 exact .of_eq (h us hl)
noncomputable def Passes (CX : CXT) (X : Cx) (E : XK) : Prop := ∀ (pins : List (Addr × Obj)) (σ : St) (H : Hp) (s : Shared) (e : Value) (s' : Shared),Inv X pins σ H s → CX X.stack H s E e s' → X.xe e s'
section
variable {X : Cx} {CX : CXT} {k : Nat} {f C : Addr} {fd : FuncData} {ps : List Str} {sp : Sp} {dvs : List V} {ds : List Value} {E : XK} {x m : Str} {p pos apos : Pos} {e o : Expr} {es : List Expr} {ta : TE} {t : TA}
theorem run_fn {pins : List (Addr × Obj)} {σ : St} {H : Hp} {s : Shared} {Q : VK} {us : List Value} {vs : List V} (F : FnOk X.prog X.w X.K X.mg X.base CX k f fd ps sp) (hr : Room k X.A) (hb : Binds X.K fd ps ds) (hd : Vals dvs ds) (hx : Passes CX X E)
  (I : Inv X pins σ H s) (r : Vals vs us) (h : sp (vs ++ dvs) H Q E) : wpAny (model X.prog X.w) X.A (call (.ref f) us) (EP X pins σ Q) X.xe s := by
 have r2 : Vals (vs ++ dvs) (us ++ ds) := r.append hd
 have hl : (us ++ ds).length = ps.length := by rw [← r2.length]; exact F.len _ _ _ _ h
 refine wpAny_call (codeAny_mono (F.run X.A X.stack s H ⟨us,[]⟩ (us ++ ds) (vs ++ dvs) Q E hr I.env0 (hb s us I.kIn hl) r2 h) fun r s' hq => ?_)
 cases r with
 | error e => exact hx pins σ H s e s' I hq
 | ok fl =>
  cases fl with
  | ret u => exact I.after hq
  | next => exact False.elim hq
  | brk => exact False.elim hq
  | cont => exact False.elim hq
theorem pe_call (F : FnOk X.prog X.w X.K X.mg X.base CX k f fd ps sp) (hr : Room k X.A) (hg : Gl X x) (hm : X.mg x = some (.ref f)) (hk : PySem.W.keepIn X.K (.ref f) = true) (hb : Binds X.K fd ps ds) (hd : Vals dvs ds) (hx : Passes CX X E)
  (ha : PA X (e :: es) t) (hdb : (x == ("__debug__" : Str)) = false := by decide) (he : starEach (e :: es) X.env = (false,eval e X.env) :: starEach es X.env := by rfl) (hpl : (backTo pos (starEach es X.env)).any (·.1) = false := by rfl) :
  PE X (.Call (.Name x p) (e :: es) [] pos) (tCall sp dvs E t) := by
 intro pins s σ H Q I h
 refine wpAny_Call_Name_kw (ld_glob I hg hm ?_ hdb)
 refine PySem.W.callWith_K (h₀ := X.base) I.ok.mod.kin hk (thn (ha pos pins s σ H _ I h) fun us s1 ⟨vs,H1,I1,r,q⟩ => ⟨I1.kIn,?_⟩) he hpl
 exact run_fn F hr hb hd hx I1 r q
end
section
variable {X : Cx} {CX : CXT} {k : Nat} {f C : Addr} {fd : FuncData} {ps ks : List Str} {sp : Sp} {E : XK} {x m : Str} {p pos apos kpos : Pos} {e o : Expr} {es : List Expr} {kws : List Keyword} {te ta : TE} {t tk : TA} {nm : Option Str}
variable {g : List Value → List Value → List Value} {gV : List V → List V → List V}
end
structure FnScope (N P : List Str) (sc : Scope) : Prop where
 kind : sc.kind = .function
 co : sc.isCoroutine = false
 gen : sc.isGenerator = false
 nd : N.Nodup
 pre : N.take P.length = P
 par : ∀ x ∈ P,sc.names.lookup x = some .local ∨ sc.names.lookup x = some .cell
 nofree : ∀ y ∈ sc.names,y.2 ≠ .free
theorem bindL_out {kindOf : Str → Option NameKind} {x : Str} : ∀ {binds : List (Str × Value)} {m : Str → Option Value},(∀ v,(x,v) ∉ binds) → bindL kindOf binds m x = m x
 | [],_,_ => rfl
 | (n,v) :: r,m,h => by
  unfold bindL
  rw [bindL_out fun w hw => h w (List.mem_cons_of_mem _ hw)]
  split
  ·have : x ≠ n := by rintro rfl; exact h v List.mem_cons_self
   simp [this]
  ·rfl
theorem bindC_out {kindOf : Str → Option NameKind} {x : Str} : ∀ {binds : List (Str × Value)} {m : Str → Option Value},(∀ v,(x,v) ∉ binds) → bindC kindOf binds m x = m x
 | [],_,_ => rfl
 | (n,v) :: r,m,h => by
  unfold bindC
  rw [bindC_out fun w hw => h w (List.mem_cons_of_mem _ hw)]
  split
  ·rfl
  ·have : x ≠ n := by rintro rfl; exact h v List.mem_cons_self
   simp [this]
theorem bindL_get {kindOf : Str → Option NameKind} {x : Str} {v : Value} : ∀ {P : List Str} {vs : List Value} {i : Nat} {m : Str → Option Value},P.Nodup → P[i]? = some x → vs[i]? = some v → kindOf x = some .local →
  bindL kindOf (P.zip vs) m x = some v
 | [],_,_,_,_,h,_,_ => by simp at h
 | _ :: _,[],_,_,_,_,h,_ => by simp at h
 | p :: P,w :: vs,0,m,nd,h1,h2,hk => by
  simp at h1 h2; subst h1; subst h2
  show bindL kindOf ((p,w) :: P.zip vs) m p = _
  unfold bindL
  rw [bindL_out fun v hv => (List.nodup_cons.mp nd).1 (List.of_mem_zip hv).1,if_pos hk]
  simp
 | p :: P,w :: vs,i + 1,m,nd,h1,h2,hk => by
  show bindL kindOf ((p,w) :: P.zip vs) m x = _
  unfold bindL
  exact bindL_get (i := i) (List.nodup_cons.mp nd).2 (by simpa using h1) (by simpa using h2) hk
theorem bindC_get {kindOf : Str → Option NameKind} {x : Str} {v : Value} : ∀ {P : List Str} {vs : List Value} {i : Nat} {m : Str → Option Value},P.Nodup → P[i]? = some x → vs[i]? = some v → kindOf x ≠ some .local →
  bindC kindOf (P.zip vs) m x = some v
 | [],_,_,_,_,h,_,_ => by simp at h
 | _ :: _,[],_,_,_,_,h,_ => by simp at h
 | p :: P,w :: vs,0,m,nd,h1,h2,hk => by
  simp at h1 h2; subst h1; subst h2
  show bindC kindOf ((p,w) :: P.zip vs) m p = _
  unfold bindC
  rw [bindC_out fun v hv => (List.nodup_cons.mp nd).1 (List.of_mem_zip hv).1,if_neg hk]
  simp
 | p :: P,w :: vs,i + 1,m,nd,h1,h2,hk => by
  show bindC kindOf ((p,w) :: P.zip vs) m x = _
  unfold bindC
  exact bindC_get (i := i) (List.nodup_cons.mp nd).2 (by simpa using h1) (by simpa using h2) hk
noncomputable def start (N : List Str) (vs : List V) : St := vs.map some ++ List.replicate (N.length - vs.length) none
noncomputable def cxOf (CX : CXT) (P : Program) (w : World) (K : PySem.W.Frag) (mg : Str → Option Value) (base : Heap) (N : List Str) (qual : Str) (scope : Scope) (f : Addr) (cd : Value) (A : Around) (outer : List Env) (s : Shared) (H : Hp) (E : XK) : Cx where
 prog := P
 w := w
 K := K
 mg := mg
 base := base
 A := A.deeper (envOfC qual scope s.heap.objs.size f cd)
 N := N
 s₀ := s
 H₀ := H
 env := envOfC qual scope s.heap.objs.size f cd
 outer := outer
 stack := envOfC qual scope s.heap.objs.size f cd :: outer
 ex := []
 calm := true
 fn := fun _ => true
 pn := []
 xe := fun e s' => wpAny (model P w) (A.deeper (envOfC qual scope s.heap.objs.size f cd)) (leaving (envOfC qual scope s.heap.objs.size f cd) e) (fun _ s'' => CX outer H s E e s'') (fun e' s'' => CX outer H s E e' s'') s'
theorem cell_has {sc : Scope} {n : Nat} {x : Str} (h : sc.names.lookup x = some .cell) : ∃ c,(cellsFrom n sc.names []).lookup x = some c := by
 have q := PySem.W.cellsFrom_some sc.names n [] (.inl h)
 exact Option.isSome_iff_exists.mp q
theorem inv_start {CX : CXT} {P : Program} {w : World} {K : PySem.W.Frag} {mg : Str → Option Value} {base : Heap} {N ps : List Str} {qual : Str} {scope : Scope} {f : Addr} {cd : Value} {A : Around} {outer : List Env} {s s1 : Shared} {H : Hp} {E : XK} {us : List Value} {vs : List V}
  (S : FnScope N ps scope) (hd : A.handled = none) (e0 : Env0 P w K mg base A outer s H) (hl : vs.length = ps.length) (r : Vals vs us)
  (x : InCallC s s.heap.objs.size (bindL (envOfC qual scope s.heap.objs.size f cd).kindOf (ps.zip us) fun _ => none) (cellsFrom (s.heap.objs.size + 1) scope.names []) (bindC (envOfC qual scope s.heap.objs.size f cd).kindOf (ps.zip us) fun _ => none) s1) :
  Inv (cxOf CX P w K mg base N qual scope f cd A outer s H E) [] (start N vs) H s1 := by
 have hpl : ps.length ≤ N.length := by have := congrArg List.length S.pre; rw [List.length_take] at this; lia
 obtain ⟨h1,tk,rfl,hk⟩ := x.done
 have noA : ∀ b : Addr,b ∉ (cxOf CX P w K mg base N qual scope f cd A outer s H E).ex := fun b z => absurd (show b ∈ ([] : List Addr) from z) (by simp)
 refine ⟨⟨e0.mod,S.kind,rfl,rfl,Nat.le_refl _,fun y z c h1 h2 => ?_,fun y hy => ?_,fun y c _ h => ?_,fun _ => hd,Around.frames_deeper e0.frames,.inr ⟨rfl,rfl⟩,fun b z => absurd z (noA b),e0.bs,e0.bsz,fun b _ _ => noA b,fun b z => absurd z (noA b),e0.funs,e0.frf⟩,
  rfl,e0.bare,Un.kept hk,⟨_,x.toInCall.ns,fun i y v h1 h2 h3 => ?_⟩,fun y c h => ⟨_,x.cell y c h⟩,e0.hok.fresh (Nat.le_refl _),fun y c h => ?_,fun p hp => absurd (show p ∈ ([] : List (Addr × Obj)) from hp) (by simp),e0.hok.kept hk,?_⟩
 ·exact name_of_addr x.apart (PySem.mem_of_lookup h1) (PySem.mem_of_lookup h2)
 ·have hy : scope.names.lookup y = some .cell ∨ scope.names.lookup y = some .free := hy
  rcases hy with hy | hy
  ·exact cell_has hy
  ·exact absurd rfl (S.nofree _ (PySem.mem_of_lookup hy))
 ·exact Nat.le_of_lt (x.above y c (PySem.mem_of_lookup h))
 ·have hi : i < vs.length := by
   unfold start at h2
   by_cases hi : i < vs.length
   ·exact hi
   ·rw [List.getElem?_append_right (by simpa using hi)] at h2
    rw [List.getElem?_replicate] at h2
    split at h2 <;> cases h2
  have ha : vs[i]? = some v := by
   unfold start at h2
   rw [List.getElem?_append_left (by simpa using hi),List.getElem?_map] at h2
   cases e : vs[i]? with
   | none => rw [e] at h2; cases h2
   | some a => rw [e] at h2; cases h2; rfl
  obtain ⟨u,hu,rv⟩ := r.get ha
  have hp : ps[i]? = some y := by
   rw [← S.pre,List.getElem?_take_of_lt (by lia)]; exact h1
  have ndP : ps.Nodup := by rw [← S.pre]; exact S.nd.sublist (List.take_sublist _ _)
  refine ⟨u,rv,?_⟩
  rcases S.par y (List.mem_of_getElem? hp) with k | k
  ·exact .inl ⟨k,bindL_get ndP hp hu k⟩
  ·obtain ⟨c,e⟩ := cell_has (n := s.heap.objs.size + 1) k
   refine .inr ⟨.inl k,c,e,?_⟩
   have q := x.cell y c e
   rw [bindC_get ndP hp hu (by show scope.names.lookup y ≠ _; rw [k]; decide)] at q
   exact q
 ·exact e0.hok.fresh (Nat.le_of_lt (x.above y c (PySem.mem_of_lookup h)))
 ·unfold start
  show _ = N.length
  rw [List.length_append,List.length_map,List.length_replicate]
  lia
theorem fn_of {CX : CXT} {P : Program} {w : World} {K : PySem.W.Frag} {mg : Str → Option Value} {base : Heap} {k : Nat} {f : Addr} {name qual : Str} {params : Arguments} {body : List Stmt} {scope : Scope} {dV kV doc pm cdv ct oc : Value} {an od : Option Addr}
  {osl : Array (Option Value)} {N ps : List Str} {sp : Sp} (lk : K.lookup f = some ⟨oc,od,.func (PySem.W.fnOf name qual params body scope dV kV doc pm an cdv ct),osl⟩) (hcd : PySem.W.codeIn K cdv qual = true) (S : FnScope N ps scope)
  (len : ∀ vs H Q E,sp vs H Q E → vs.length = ps.length)
  (hbody : ∀ (A : Around) (outer : List Env) (s : Shared) (H : Hp) (vs : List V) (Q : VK) (E : XK),Room k (A.deeper (envOfC qual scope s.heap.objs.size f cdv)) → sp vs H Q E →
   ∃ t,PSs (cxOf CX P w K mg base N qual scope f cdv A outer s H E) body t ∧ t { nx := fun _ H' => Q .non H',rt := Q } (start N vs) H) :
  FnOk P w K mg base CX (k + 1) f (PySem.W.fnOf name qual params body scope dV kV doc pm an cdv ct) ps sp := by
 refine ⟨len,fun A outer s H args us vs Q E hr e0 hb r hsp => ?_⟩
 have hl := len _ _ _ _ hsp
 have KX : K.In s.heap := e0.mod.kin.keeps fun b o e => (e0.bs b o e).1
 have lim : s.heap.NoLimit := e0.mod.nolimit.keeps fun b o e => (e0.bs b o e).1
 have hkind : ∀ y ∈ ps.zip us,scope.names.lookup y.1 = some .local ∨ (scope.names.lookup y.1 = some .cell ∧ ((cellsFrom (s.heap.objs.size + 1) scope.names []).lookup y.1).isSome = true) := fun ⟨n,v⟩ hy => by
  rcases S.par n (List.of_mem_zip hy).1 with q | q
  ·exact .inl q
  ·exact .inr ⟨q,PySem.W.cellsFrom_some _ _ _ (.inl q)⟩
 refine codeAny_call_function hr.depth (KX _ _ lk) rfl S.co S.gen rfl (PySem.W.codeRec_of KX hcd) (hb _ _ _ _ ?_)
 refine wpAny_newFunctionEnv_cells S.kind hkind fun env he s1 x => ?_
 subst he
 refine ⟨lim.keeps x.toInCall.keep,codeAny_func ?_⟩
 obtain ⟨t,ht,hq⟩ := hbody A outer s H vs Q E (hr.deeper _) hsp
 have I : Inv (cxOf CX P w K mg base N qual scope f cdv A outer s H E) [] (start N vs) H s1 := inv_start S hr.hd e0 hl r x
 refine wpAny_mono (ht [] s1 (start N vs) H _ I hq) (fun fl s' hs => ?_) fun e s' hs => hs
 have fin : ∀ {σ' : St} {H' : Hp} {v : V} {u : Value},Inv (cxOf CX P w K mg base N qual scope f cdv A outer s H E) [] σ' H' s' → RelV v u → Q v H' → CE outer P w H s Q u s' :=
  fun {σ' H' v u} J rv q => ⟨v,H',J.os,J.bare,J.base,J.hok,rv,q⟩
 cases fl with
 | ret u =>
  obtain ⟨v,σ',H',J,rv,q⟩ := hs
  exact fin J rv q
 | next =>
  obtain ⟨σ',H',J,q⟩ := hs
  exact fin (v := V.non) (u := Value.none) J rfl q
 | brk =>
  obtain ⟨_,_,_,q⟩ := hs
  exact False.elim q
 | cont =>
  obtain ⟨_,_,_,q⟩ := hs
  exact False.elim q
end L2
namespace L2
open PySem PySem.Spec PyProof.Rows
section
variable {X : Cx} {x : Str} {p pos : Pos} {e : Expr} {es : List Expr} {t : TA} {id T : String} {r : List V → Hp → VK → Prop}
noncomputable def tCB (r : List V → Hp → VK → Prop) (t : TA) : TE := fun σ H Q => t σ H fun vs H1 => r vs H1 Q
theorem pe_callB (hc : CallR X (.builtin id) r) (hg : Gl X x) (hm : X.mg x = none) (hv : bootBuiltins x = some (.builtin id)) (ha : PA X (e :: es) t) (hn : x ≠ "__name__" := by decide) (hdb : (x == ("__debug__" : Str)) = false := by decide)
  (he : starEach (e :: es) X.env = (false,eval e X.env) :: starEach es X.env := by rfl) (hpl : (backTo pos (starEach es X.env)).any (·.1) = false := by rfl) : PE X (.Call (.Name x p) (e :: es) [] pos) (tCB r t) := by
 intro pins s σ H Q I h
 refine wpAny_Call_Name_kw (ld_blt I hg hm hv ?_ hn hdb)
 exact PyProof.Rows.callWith_builtin1 (thn (ha pos pins s σ H _ I h) fun us s1 ⟨vs,H1,I1,r1,q1⟩ => hc pins s1 σ H1 vs us Q I1 r1 q1) he hpl
theorem pe_callTy (hc : CallR X (.type T) r) (hg : Gl X x) (hm : X.mg x = none) (hv : bootBuiltins x = some (.type T)) (ha : PA X (e :: es) t) (hn : x ≠ "__name__" := by decide) (hdb : (x == ("__debug__" : Str)) = false := by decide)
  (he : starEach (e :: es) X.env = (false,eval e X.env) :: starEach es X.env := by rfl) (hpl : (backTo pos (starEach es X.env)).any (·.1) = false := by rfl) : PE X (.Call (.Name x p) (e :: es) [] pos) (tCB r t) := by
 intro pins s σ H Q I h
 refine wpAny_Call_Name_kw (ld_blt I hg hm hv ?_ hn hdb)
 exact PyProof.Rows.callWith_type1 (thn (ha pos pins s σ H _ I h) fun us s1 ⟨vs,H1,I1,r1,q1⟩ => hc pins s1 σ H1 vs us Q I1 r1 q1) he hpl
end
end L2
namespace HT
open PySem PyProof.Rows
section
open PySem.SeqAt
open PySem.AutoSeq1 (wpAny_loadPart')
open PySem.MeetsSeq PySem.MeetsSeq2 PySem.MeetsSeq3
end
section
variable {prog : Program} {w : World} {A : Around} {E : Value → Shared → Prop} {s : Shared}
noncomputable def sIx (n d : Nat) : Option Int → Nat
 | none => d
 | some v => if v < 0 then (v + (n : Int)).toNat else min v.toNat n
theorem sIx_none (n d : Nat) : sIx n d none = d := rfl
theorem sIx_nat (n d k : Nat) : sIx n d (some (k : Int)) = min k n := by
 show (if (k : Int) < 0 then ((k : Int) + (n : Int)).toNat else min (k : Int).toNat n) = min k n
 rw [if_neg (by lia),Int.toNat_natCast]
end
end HT
namespace L2
open PySem PySem.Spec PyProof.Rows
noncomputable abbrev TO := St → Hp → (Option Int → Hp → Prop) → Prop
noncomputable def PO (X : Cx) (e : Option Expr) (t : TO) : Prop :=
 ∀ (pins : List (Addr × Obj)) (s : Shared) (σ : St) (H : Hp) (Q : Option Int → Hp → Prop),Inv X pins σ H s → t σ H Q →
  wpAny (model X.prog X.w) X.A (evalPart e X.env) (fun u s' => ∃ o H',Inv X pins σ H' s' ∧ IsPart u o ∧ Q o H') X.xe s
noncomputable def tNoPart : TO := fun _ H Q => Q none H
inductive IPrt (x : V) (H1 : Hp) (Q : Option Int → Hp → Prop) : Prop
 | mk (i : Int) : (x = .int i) → (Q (some i) H1) → IPrt x H1 Q
noncomputable def tPart (t : TE) : TO := fun σ H Q => t σ H fun x H1 => IPrt x H1 Q
section
variable {X : Cx} {e : Expr} {te : TE} {lo hi : Option Expr} {tl th : TO} {pos p2 : Pos}
theorem po_none : PO X none tNoPart := by
 intro pins s σ H Q I h
 rw [evalPart_none]
 exact wpAny_pure ⟨none,H,I,.none,h⟩
theorem po_some (h : PE X e te) : PO X (some e) (tPart te) := by
 intro pins s σ H Q I hw
 rw [evalPart_some]
 refine thn (h pins s σ H _ I hw) fun u s1 ⟨x,H1,I1,r1,q1⟩ => ?_
 obtain ⟨i,rfl,q⟩ := q1
 obtain ⟨t,rfl⟩ := r1
 exact ⟨some i,H1,I1,.int i t,q⟩
noncomputable def SlR (X : Cx) (r : V → Option Int → Option Int → Hp → VK → Prop) : Prop :=
 ∀ (pins : List (Addr × Obj)) (s : Shared) (σ : St) (H : Hp) (x : V) (v vl vu : Value) (lo hi : Option Int) (sl : Addr) (Q : VK),Inv X pins σ H s → RelV x v → s.heap.IsSliceOf sl vl vu .none → IsPart vl lo → IsPart vu hi → r x lo hi H Q →
  ∃ T id,typeLookup (.type T) "__getitem__" = pure (some (.builtin id)) ∧ s.TypeIs v T ∧ wpAny (model X.prog X.w) X.A (getItem v (.ref sl)) (EP X pins σ Q) X.xe s
noncomputable def tSl (r : V → Option Int → Option Int → Hp → VK → Prop) (te : TE) (tl th : TO) : TE := fun σ H Q => te σ H fun x H1 => tl σ H1 fun l H2 => th σ H2 fun u H3 => r x l u H3 Q
theorem pe_slice {r : V → Option Int → Option Int → Hp → VK → Prop} (hr : SlR X r) (he : PE X e te) (hl : PO X lo tl) (hu : PO X hi th) : PE X (.Subscript e (.Slice lo hi none p2) pos) (tSl r te tl th) := by
 intro pins s σ H Q I h
 refine Subscript_ (thn (he pins s σ H _ I h) fun v s1 ⟨x,H1,I1,r1,q1⟩ => ?_)
 refine wpAny_Slice (thn (hl pins s1 σ H1 _ I1 q1) fun vl s2 ⟨l,H2,I2,pl,q2⟩ => thn (hu pins s2 σ H2 _ I2 q2) fun vu s3 ⟨u,H3,I3,pu,q3⟩ => ?_)
 rw [evalPart_none]
 refine wpAny_pure ?_
 have I4 : Inv X pins σ H3 { s3 with heap := s3.heap.push { cls := .type "slice",data := .fields #[vl,vu,.none] } } := I3.kept (t' := s3.toks) fun b ob q => Heap.get?_push_of_some _ q
 obtain ⟨T,id,hT,ht,hg⟩ := hr pins { s3 with heap := s3.heap.push { cls := .type "slice",data := .fields #[vl,vu,.none] } } σ H3 x v vl vu l u s3.heap.objs.size Q I4 r1 (Heap.IsSliceOf.new ..) pl pu q3
 show wpAny (model X.prog X.w) X.A (subscriptTail e (.Slice lo hi none p2) v (.ref s3.heap.objs.size)) (EP X pins σ Q) X.xe { s3 with heap := s3.heap.push { cls := .type "slice",data := .fields #[vl,vu,.none] } }
 exact tail_any (ops := [.ref s3.heap.objs.size,v]) ht hT hg (by with_unfolding_all rfl)
noncomputable def cutV (xs : List V) (lo hi : Option Int) : List V := (xs.drop (HT.sIx xs.length 0 lo)).take (HT.sIx xs.length xs.length hi - HT.sIx xs.length 0 lo)
theorem cutV_length (xs : List V) (lo hi : Option Int) : (cutV xs lo hi).length ≤ xs.length := by
 unfold cutV
 rw [List.length_take,List.length_drop]
 lia
end
end L2
namespace L2
open PySem PySem.Spec PyProof.Rows
noncomputable def ixN (n : Nat) (i : Int) : Option Nat := if 0 ≤ i then (if i < n then some i.toNat else none) else if -(n : Int) ≤ i then some (i + n).toNat else none
noncomputable def atI {α : Type} (xs : List α) (i : Int) : Option α := (ixN xs.length i).bind fun j => xs[j]?
theorem ixN_seq {n : Nat} {i : Int} {j : Nat} (h : ixN n i = some j) : seqIndex? i n = some j ∧ j < n ∧ -(n : Int) ≤ i ∧ i < n := by
 unfold ixN at h
 by_cases h0 : 0 ≤ i
 ·rw [if_pos h0] at h
  by_cases h1 : i < n
  ·rw [if_pos h1] at h
   have e : i.toNat = j := Option.some.inj h
   exact ⟨by rw [seqIndex_of h0 h1,e],by lia,by lia,h1⟩
  ·rw [if_neg h1] at h; cases h
 ·rw [if_neg h0] at h
  by_cases h1 : -(n : Int) ≤ i
  ·rw [if_pos h1] at h
   have e : (i + n).toNat = j := Option.some.inj h
   exact ⟨by rw [seqIndex_neg (by lia) h1,e],by lia,h1,by lia⟩
  ·rw [if_neg h1] at h; cases h
theorem atI_get {α : Type} {xs : List α} {i : Int} {v : α} (h : atI xs i = some v) : ∃ j,seqIndex? i xs.length = some j ∧ xs[j]? = some v ∧ j < xs.length ∧ -(xs.length : Int) ≤ i ∧ i < xs.length := by
 unfold atI at h
 cases e : ixN xs.length i with
 | none => rw [e] at h; cases h
 | some j =>
  rw [e] at h
  obtain ⟨h1,h2,h3,h4⟩ := ixN_seq e
  exact ⟨j,h1,h,h2,h3,h4⟩
theorem atI_nat {α : Type} {xs : List α} {j : Nat} {v : α} (h : xs[j]? = some v) : atI xs (j : Int) = some v := by
 have hj : j < xs.length := (List.getElem?_eq_some_iff.mp h).1
 have e : ixN xs.length (j : Int) = some j := by
  unfold ixN
  rw [if_pos (by lia),if_pos (by lia)]; simp
 unfold atI; rw [e]; exact h
noncomputable def PlainIx (b : Expr) : Prop := ∀ o i,subscripted b false o i = operate [o,i] (getItem o i)
noncomputable def IxR (X : Cx) (r : R2) : Prop :=
 ∀ (value slice : Expr) (pins : List (Addr × Obj)) (s : Shared) (σ : St) (H : Hp) (x y : V) (v u : Value) (Q : VK),Inv X pins σ H s → RelV x v → RelV y u → r x y H Q →
  subscripted slice false v u = operate [v,u] (getItem v u) → wpAny (model X.prog X.w) X.A (subscriptTail value slice v u) (EP X pins σ Q) X.xe s
noncomputable def MtR (X : Cx) (id : String) (r : V → List V → Hp → VK → Prop) : Prop :=
 ∀ (pins : List (Addr × Obj)) (s : Shared) (σ : St) (H : Hp) (x : V) (xs : List V) (v : Value) (us : List Value) (Q : VK),Inv X pins σ H s → RelV x v → Vals xs us → r x xs H Q →
  wpAny (model X.prog X.w) X.A (call (.builtin id) (v :: us)) (EP X pins σ Q) X.xe s
section
variable {X : Cx} {a b : Expr} {ta tb : TE} {pos : Pos}
theorem pe_ix {r : R2} (hr : IxR X r) (ha : PE X a ta) (hb : PE X b tb) (hs : PlainIx b) : PE X (.Subscript a b pos) (tOp r ta tb) := by
 intro pins s σ H Q I h
 exact Subscript_ (binT ha hb I h fun v u s2 x y H2 I2 rx ry q => hr a b pins s2 σ H2 x y v u Q I2 rx ry q (hs _ _))
inductive IIxL (K : PySem.W.Frag) (x y : V) (H : Hp) (Q : VK) : Prop
 | mk (p : Addr) (xs : List V) (i : Int) (v : V) : (x = .ref p) → (y = .int i) → (SqL K H p xs) → (atI xs i = some v) → (Q v H) → IIxL K x y H Q
noncomputable def rIxL (K : PySem.W.Frag) : R2 := fun x y H Q => IIxL K x y H Q
noncomputable def rIxT (K : PySem.W.Frag) : R2 := fun x y H Q => ∃ p xs i v,x = .ref p ∧ y = .int i ∧ SqT K H p xs ∧ atI xs i = some v ∧ Q v H
noncomputable def rIxS : R2 := fun x y H Q => ∃ z i c,x = .str z ∧ y = .int i ∧ z.length ≤ sizeLine ∧ atI z.cps.toList i = some c ∧ Q (.str ⟨#[c]⟩) H
theorem ix_list : IxR X (rIxL X.K) := by
 intro value slice pins s σ H x y v u Q I rx ry h hs
 obtain ⟨p,xs,i,z,rfl,rfl,hq,he,q⟩ := h
 cases rx
 obtain ⟨t,rfl⟩ := ry
 obtain ⟨its,r,pl,hz⟩ := I.list hq
 obtain ⟨j,h1,h2,h3,h4,h5⟩ := atI_get he
 obtain ⟨w,ew,rw'⟩ := r.get h2
 have hl := r.length
 have hn := line63
 have fin : EP X pins σ Q w s := ⟨z,H,I,rw',q⟩
 by_cases h0 : 0 ≤ i
 ·have hj : i.toNat = j := by
   rw [seqIndex_of h0 h5] at h1
   exact Option.some.inj h1
  exact item_listR pl.isList h0 (by lia) (by rw [hj]; simpa using ew) fin hs
 ·have hj : (i + (its.toArray.size : Int)).toNat = j := by
   rw [seqIndex_neg (by lia) h4] at h1
   rw [List.size_toArray,← hl]
   exact Option.some.inj h1
  exact subscriptTail_builtinR (x := w) pl.isList.typeIs slot_list_getitem.lookup
   (wpAny_getItem_list_neg (Q := fun r s' => r = w ∧ EP X pins σ Q r s') pl.isList (by lia) (by rw [List.size_toArray] <;> lia) (by lia) (by rw [hj]; simpa using ew) ⟨rfl,fin⟩) hs
theorem ix_tup : IxR X (rIxT X.K) := by
 intro value slice pins s σ H x y v u Q I rx ry h hs
 obtain ⟨p,xs,i,z,rfl,rfl,hq,he,q⟩ := h
 cases rx
 obtain ⟨t,rfl⟩ := ry
 obtain ⟨its,r,pl,hz⟩ := I.tuple hq
 obtain ⟨j,h1,h2,h3,h4,h5⟩ := atI_get he
 obtain ⟨w,ew,rw'⟩ := r.get h2
 have hl := r.length
 have hn := line63
 have fin : EP X pins σ Q w s := ⟨z,H,I,rw',q⟩
 exact subscriptTail_builtinR (x := w) pl.typeIs slot_tuple_getitem.lookup
  (getItem_tuple (j := j) (Q := fun r s' => r = w ∧ EP X pins σ Q r s') pl (by lia) (by lia) (by rw [List.size_toArray,← hl]; exact h1) (by simpa using ew) ⟨rfl,fin⟩) hs
theorem ix_str : IxR X rIxS := by
 intro value slice pins s σ H x y v u Q I rx ry h hs
 obtain ⟨z,i,c,rfl,rfl,hz,he,q⟩ := h
 obtain ⟨t,rfl⟩ := rx
 obtain ⟨t',rfl⟩ := ry
 obtain ⟨j,h1,h2,h3,h4,h5⟩ := atI_get he
 have hl : z.cps.toList.length = z.length := by simp [Str.length]
 rw [hl] at h1 h4 h5
 have hn := line63
 exact tail_any (typeIs_str s z t) slot_str_getitem.lookup (getItem_str (c := c) (by
  have e1 : decide (i < -(2 ^ 63 : Int)) = false := decide_eq_false (by lia)
  have e2 : decide (i ≥ 2 ^ 63) = false := decide_eq_false (by lia)
  rw [e1,e2,Bool.or_false]) (by rw [h1]; simpa using h2) ⟨.str ⟨#[c]⟩,H,I.tok _,⟨_,rfl⟩,q⟩) hs
theorem mapSeq_set (its : List Value) (n j : Nat) (u : Value) : Obj.mapSeq (·.setIfInBounds j u) { cls := .type "list",data := .seq its.toArray n } = { cls := .type "list",data := .seq (its.set j u).toArray n } := by
 simp [Obj.mapSeq]
theorem Inv.lst {pins : List (Addr × Obj)} {σ : St} {H : Hp} {s : Shared} {p : Addr} {xs : List V} (I : Inv X pins σ H s) (h : H p = some (.lst xs)) :
  ∃ (its : List Value) (n : Nat),Vals xs its ∧ s.heap.get? p = some { cls := .type "list",data := .seq its.toArray n } ∧ xs.length ≤ sizeLine := by
 obtain ⟨z,its,n,r,e⟩ := I.hok p _ h
 exact ⟨its,n,r,e,z⟩
theorem Inv.lstUpd {pins : List (Addr × Obj)} {σ : St} {H : Hp} {s : Shared} {p : Addr} {xs ys : List V} {its its' : List Value} {n n' : Nat} {f : Obj → Obj} (I : Inv X pins σ H s) (h : H p = some (.lst xs))
  (ho : s.heap.get? p = some { cls := .type "list",data := .seq its.toArray n }) (hf : f { cls := .type "list",data := .seq its.toArray n } = { cls := .type "list",data := .seq its'.toArray n' }) (r : Vals ys its') (hz : ys.length ≤ sizeLine) (t : Nat) :
  Inv X pins σ (upd H p (.lst ys)) { s with heap := s.heap.update p f,toks := t } := by
 have e : (s.heap.update p f).get? p = some { cls := .type "list",data := .seq its'.toArray n' } := by
  rw [Heap.get?_update_self f ho (by rw [hf] <;> rfl),hf]
 refine I.write (x := p) (e := p) (by rw [h]; trivial) (.inl rfl) (fun b u hb q => (Heap.get?_update_other _ _ (Ne.symm hb)).trans q) ⟨_,e⟩ ?_
 exact ⟨hz,its',n',r,e⟩
inductive ISetL (o i v : V) (H : Hp) (Q : Hp → Prop) : Prop
 | mk (p : Addr) (xs : List V) (k : Int) (j : Nat) : (o = .ref p) → (i = .int k) → (H p = some (.lst xs)) → (ixN xs.length k = some j) → (Q (upd H p (.lst (xs.set j v)))) → ISetL o i v H Q
noncomputable def rSetL : V → V → V → Hp → (Hp → Prop) → Prop := fun o i v H Q => ISetL o i v H Q
theorem set_list : PSet X rSetL := by
 intro pins s σ H o i v ov iv u Q I ro ri rv h
 obtain ⟨p,xs,k,j,rfl,rfl,hp,hj,q⟩ := h
 cases ro
 obtain ⟨t,rfl⟩ := ri
 obtain ⟨its,n,r,ho,hz⟩ := I.lst hp
 obtain ⟨h1,h2,h3,h4⟩ := ixN_seq hj
 have hl := r.length
 have hn := line63
 have I' : Inv X pins σ (upd H p (.lst (xs.set j v))) { s with heap := s.heap.update p (Obj.mapSeq (·.setIfInBounds j u)) } :=
  I.lstUpd hp ho (mapSeq_set its n j u) (r.set rv j) (by rw [List.length_set]; exact hz) s.toks
 by_cases h0 : 0 ≤ k
 ·have hk : k.toNat = j := by
   rw [seqIndex_of h0 h4] at h1
   exact Option.some.inj h1
  exact PySem.W.ki_setAt ho h0 (by lia) (by rw [List.size_toArray,← hl]; exact h4) (by rw [hk]; exact ⟨_,I',q⟩)
 ·have hk : (k + (its.toArray.size : Int)).toNat = j := by
   rw [seqIndex_neg (by lia) h3] at h1
   rw [List.size_toArray,← hl]
   exact Option.some.inj h1
  exact PySem.W.ki_setBack ho (by lia) (by rw [List.size_toArray,← hl]; exact h3) (by lia) (by rw [hk]; exact ⟨_,I',q⟩)
theorem slice_bounds (lo hi : Option Int) (n : Nat) : (sliceBounds lo hi none n).1 = ((HT.sIx n 0 lo : Nat) : Int) ∧ (sliceBounds lo hi none n).2.1 = ((HT.sIx n n hi : Nat) : Int) ∧ (sliceBounds lo hi none n).2.2 = 1 := by
 refine ⟨?_,?_,rfl⟩
 ·cases lo with
  | none => simp [sliceBounds,HT.sIx]
  | some i =>
   simp only [sliceBounds,HT.sIx,Option.getD_none,show (1 : Int) > 0 by decide,if_true]
   by_cases h : i < 0
   ·simp only [h,if_true] <;> lia
   ·simp only [h,if_false] <;> lia
 ·cases hi with
  | none => simp [sliceBounds,HT.sIx]
  | some i =>
   simp only [sliceBounds,HT.sIx,Option.getD_none,show (1 : Int) > 0 by decide,if_true]
   by_cases h : i < 0
   ·simp only [h,if_true] <;> lia
   ·simp only [h,if_false] <;> lia
theorem slicePick_cut (its : List Value) (lo hi : Option Int) : slicePick its.toArray lo hi none = ((its.drop (HT.sIx its.length 0 lo)).take (HT.sIx its.length its.length hi - HT.sIx its.length 0 lo)).toArray := by
 obtain ⟨h1,h2,h3⟩ := slice_bounds lo hi its.toArray.size
 unfold slicePick
 rw [h1,h2,h3]
 simp only [sliceRange_one,pick_run,List.size_toArray] <;> rfl
noncomputable def rSlL (K : PySem.W.Frag) : V → Option Int → Option Int → Hp → VK → Prop := fun x lo hi H Q => ∃ a xs,x = .ref a ∧ SqL K H a xs ∧ ∀ p,H p = none → Q (.ref p) (upd H p (.lst (cutV xs lo hi)))
theorem sl_list : SlR X (rSlL X.K) := by
 intro pins s σ H x v vl vu lo hi sl Q I rx hs pl pu h
 obtain ⟨a,xs,rfl,hx,q⟩ := h
 cases rx
 obtain ⟨its,r,ht,hz⟩ := I.list hx
 have hlen := r.length
 refine ⟨"list",_,slot_list_getitem.lookup,ht.isList.typeIs,?_⟩
 refine wpAny_getItem_list_slice ht.isList hs pl pu .none (by simp) ?_ (by rw [List.size_toArray] <;> lia)
 rw [slicePick_cut,← hlen]
 refine ⟨.ref s.heap.objs.size,_,I.laid (t' := s.toks) (o := .lst (cutV xs lo hi)) (fun b ob q => Heap.get?_push_of_some _ q) (Nat.le_refl _) ?_,rfl,q _ (I.hok.fresh (Nat.le_refl _))⟩
 exact ⟨Nat.le_trans (cutV_length xs lo hi) hz,_,0,(r.drop (HT.sIx xs.length 0 lo)).take (HT.sIx xs.length xs.length hi - HT.sIx xs.length 0 lo),Heap.get?_push_size _ rfl⟩
noncomputable def flatV : V → Bool
 | .non => true
 | .bl _ => true
 | .int _ => true
 | .str _ => true
 | _ => false
noncomputable def eqV : V → V → Bool
 | .non,.non => true
 | .bl a,.bl b => a == b
 | .bl a,.int b => (if a then 1 else 0) == b
 | .int a,.bl b => a == (if b then 1 else 0)
 | .int a,.int b => a == b
 | .str a,.str b => a == b
 | _,_ => false
theorem eqAt_V {A : Around} {s : Shared} {y x : V} {u v : Value} (ry : RelV y u) (rx : RelV x v) (fy : flatV y = true) (fx : flatV x = true) : SeqAt.EqAt A s u v (eqV y x) := by
 cases y with
 | non =>
  cases ry
  cases x with
  | non => cases rx; exact SeqAt.EqAt.same _
  | bl b => cases rx; exact SeqAt.EqAt.none_bool b
  | int b => obtain ⟨t,rfl⟩ := rx; exact SeqAt.EqAt.none_int b t
  | str b => obtain ⟨t,rfl⟩ := rx; exact SeqAt.EqAt.none_str b t
  | _ => exact absurd (show false = true from fx) Bool.false_ne_true
 | bl a =>
  cases ry
  cases x with
  | non => cases rx; exact SeqAt.EqAt.bool_none a
  | bl b => cases rx; exact SeqAt.EqAt.bool_bool a b
  | int b => obtain ⟨t,rfl⟩ := rx; exact SeqAt.EqAt.bool_int a b t
  | str b => obtain ⟨t,rfl⟩ := rx; exact SeqAt.EqAt.bool_str a b t
  | _ => exact absurd (show false = true from fx) Bool.false_ne_true
 | int a =>
  obtain ⟨t',rfl⟩ := ry
  cases x with
  | non => cases rx; exact SeqAt.EqAt.int_none a t'
  | bl b => cases rx; exact SeqAt.EqAt.int_bool a t' b
  | int b => obtain ⟨t,rfl⟩ := rx; exact SeqAt.EqAt.int_int a t' b t
  | str b => obtain ⟨t,rfl⟩ := rx; exact SeqAt.EqAt.int_str a t' b t
  | _ => exact absurd (show false = true from fx) Bool.false_ne_true
 | str a =>
  obtain ⟨t',rfl⟩ := ry
  cases x with
  | non => cases rx; exact SeqAt.EqAt.str_none a t'
  | bl b => cases rx; exact SeqAt.EqAt.str_bool a t' b
  | int b => obtain ⟨t,rfl⟩ := rx; exact SeqAt.EqAt.str_int a t' b t
  | str b => obtain ⟨t,rfl⟩ := rx; exact SeqAt.EqAt.str_str a t' b t
  | _ => exact absurd (show false = true from fx) Bool.false_ne_true
 | _ => exact absurd (show false = true from fy) Bool.false_ne_true
noncomputable def eqU (x : V) (u : Value) : Bool := match u with
 | .none => eqV .non x
 | .bool b => eqV (.bl b) x
 | .int i _ => eqV (.int i) x
 | .str z _ => eqV (.str z) x
 | _ => false
theorem eqU_of {x y : V} {u : Value} (r : RelV y u) (f : flatV y = true) : eqU x u = eqV y x := by
 cases y with
 | non => cases r; rfl
 | bl b => cases r; rfl
 | int i => obtain ⟨t,rfl⟩ := r; rfl
 | str z => obtain ⟨t,rfl⟩ := r; rfl
 | _ => exact absurd (show false = true from f) Bool.false_ne_true
theorem any_eqU {x : V} : ∀ {xs : List V} {us : List Value},Vals xs us → xs.all flatV = true → us.any (eqU x) = xs.any fun y => eqV y x
 | _,_,.nil,_ => rfl
 | y :: xs,u :: us,.cons r t,f => by
  rw [List.all_cons,Bool.and_eq_true] at f
  rw [List.any_cons,List.any_cons,eqU_of r f.1,any_eqU t f.2]
theorem mem_eqAt {A : Around} {s : Shared} {x : V} {v : Value} (rx : RelV x v) (fx : flatV x = true) : ∀ {xs : List V} {us : List Value},Vals xs us → xs.all flatV = true → ∀ u ∈ us,SeqAt.EqAt A s u v (eqU x u)
 | _,_,.nil,_ => fun u hu => by cases hu
 | y :: xs,u :: us,.cons r t,f => fun u' hu => by
  rw [List.all_cons,Bool.and_eq_true] at f
  rcases List.mem_cons.mp hu with rfl | hu
  ·rw [eqU_of r f.1]; exact eqAt_V r rx f.1 fx
  ·exact mem_eqAt rx fx t f.2 u' hu
noncomputable def inV (x : V) (xs : List V) : Bool := xs.any fun y => eqV y x
noncomputable def rIn (K : PySem.W.Frag) (neg : Bool) : R2 := fun x y H Q => ∃ p xs,y = .ref p ∧ (SqL K H p xs ∨ SqT K H p xs) ∧ flatV x = true ∧ xs.all flatV = true ∧ Q (.bl (if neg then !inV x xs else inV x xs)) H
theorem op_in_seq : OpR X (compareOp .In) (rIn X.K false) := by
 intro pins s σ H x y v u Q I rx ry h
 obtain ⟨p,xs,rfl,hq,fx,fs,q⟩ := h
 cases ry
 rcases hq with hq | hq
 ·obtain ⟨its,r,pl,hz⟩ := I.list hq
  refine SeqAt.in_listAt (eqU x) pl.isList (fun w hw => mem_eqAt rx fx r fs w (by simpa using hw)) ⟨.bl _,H,I,rfl,?_⟩
  rw [show its.toArray.any (eqU x) = its.any (eqU x) by simp,any_eqU r fs]
  exact q
 ·obtain ⟨its,r,pl,hz⟩ := I.tuple hq
  refine SeqAt.in_tupleAt (eqU x) pl (fun w hw => mem_eqAt rx fx r fs w (by simpa using hw)) ⟨.bl _,H,I,rfl,?_⟩
  rw [show its.toArray.any (eqU x) = its.any (eqU x) by simp,any_eqU r fs]
  exact q
theorem op_notIn_seq : OpR X (compareOp .NotIn) (rIn X.K true) := by
 intro pins s σ H x y v u Q I rx ry h
 obtain ⟨p,xs,rfl,hq,fx,fs,q⟩ := h
 cases ry
 rcases hq with hq | hq
 ·obtain ⟨its,r,pl,hz⟩ := I.list hq
  refine SeqAt.notIn_listAt (eqU x) pl.isList (fun w hw => mem_eqAt rx fx r fs w (by simpa using hw)) ⟨.bl _,H,I,rfl,?_⟩
  rw [show its.toArray.any (eqU x) = its.any (eqU x) by simp,any_eqU r fs]
  exact q
 ·obtain ⟨its,r,pl,hz⟩ := I.tuple hq
  refine SeqAt.notIn_tupleAt (eqU x) pl (fun w hw => mem_eqAt rx fx r fs w (by simpa using hw)) ⟨.bl _,H,I,rfl,?_⟩
  rw [show its.toArray.any (eqU x) = its.any (eqU x) by simp,any_eqU r fs]
  exact q
theorem call_len_seq : CallR X (.builtin "len") (fun xs H Q => ∃ p ys,xs = [.ref p] ∧ (SqL X.K H p ys ∨ SqT X.K H p ys) ∧ Q (.int ys.length) H) := by
 intro pins s σ H xs us Q I r h
 obtain ⟨p,ys,rfl,hq,q⟩ := h
 obtain ⟨u,rfl,rx⟩ := vals1 r
 cases rx
 have hn := line63
 rcases hq with hq | hq
 ·obtain ⟨its,r',pl,hz⟩ := I.list hq
  have hlen := r'.length
  exact Calls.call_len_list pl.isList (by simp only [List.size_toArray] <;> lia) ⟨.int ys.length,H,I.tok _,⟨s.toks + 1,by rw [List.size_toArray,hlen]⟩,q⟩
 ·obtain ⟨its,r',pl,hz⟩ := I.tuple hq
  have hlen := r'.length
  exact len_tuple pl (by simp only [List.size_toArray] <;> lia) ⟨.int ys.length,H,I.tok _,⟨s.toks + 1,by rw [List.size_toArray,hlen]⟩,q⟩
theorem call_len_str : CallR X (.builtin "len") (fun xs H Q => ∃ z,xs = [.str z] ∧ z.length ≤ sizeLine ∧ Q (.int z.length) H) := by
 intro pins s σ H xs us Q I r h
 obtain ⟨z,rfl,hz,q⟩ := h
 obtain ⟨u,rfl,t,rfl⟩ := vals1 r
 have hn := line63
 exact len_str (by lia) ⟨.int z.length,H,I.tok _,⟨_,rfl⟩,q⟩
theorem call_list_of : CallR X (.type "list") (fun xs H Q => ∃ p ys,xs = [.ref p] ∧ (SqL X.K H p ys ∨ SqT X.K H p ys) ∧ ∀ l,H l = none → Q (.ref l) (upd H l (.lst ys))) := by
 intro pins s σ H xs us Q I r h
 obtain ⟨p,ys,rfl,hq,q⟩ := h
 obtain ⟨u,rfl,rx⟩ := vals1 r
 cases rx
 have fin : ∀ (its : List Value),Vals ys its → ys.length ≤ sizeLine → ∀ (h' : Heap) (c' : Nat),(∀ b o',s.heap.get? b = some o' → h'.get? b = some o') →
   h'.get? s.heap.objs.size = some { cls := .type "list",dict := none,data := .seq its.toArray c',slots := #[] } → EP X pins σ Q (.ref s.heap.objs.size) { s with heap := h' } := fun its r' hz h' c' kp e =>
  ⟨.ref s.heap.objs.size,_,I.laid (t' := s.toks) kp (Nat.le_refl _) (show ObjOk X.prog X.w _ h' _ (.lst ys) from ⟨hz,its,c',r',e⟩),rfl,q _ (I.hok.fresh (Nat.le_refl _))⟩
 rcases hq with hq | hq
 ·obtain ⟨its,r',pl,hz⟩ := I.list hq
  have hlen := r'.length
  obtain ⟨o,ho,hc,n,hd⟩ := pl.isList
  exact call_list_seq p (.inl rfl) ho hc hd (fun h' c' kp e => fin its r' hz h' c' kp e) (by simp only [List.size_toArray] <;> lia)
 ·obtain ⟨its,r',pl,hz⟩ := I.tuple hq
  have hlen := r'.length
  obtain ⟨o,ho,hc,n,hd⟩ := pl
  exact call_list_seq p (.inr rfl) ho hc hd (fun h' c' kp e => fin its r' hz h' c' kp e) (by simp only [List.size_toArray] <;> lia)
noncomputable def tyV (K : PySem.W.Frag) (T : String) (x : V) (H : Hp) : Prop := match x with
 | .str _ => T = "str"
 | .int _ => T = "int"
 | .ref p => (T = "list" ∧ ∃ xs,SqL K H p xs) ∨ (T = "tuple" ∧ ∃ o,K.lookup p = some o ∧ o.cls = .type "tuple" ∧ o.dict = none) ∨
   (T = "dict" ∧ ((∃ kvs,H p = some (.dK kvs)) ∨ ∃ kvs,H p = some (.dT kvs))) ∨ (T = "set" ∧ ∃ S n,H p = some (.set S n))
 | _ => False
theorem tyV_is {pins : List (Addr × Obj)} {σ : St} {H : Hp} {s : Shared} {T : String} {x : V} {v : Value} (I : Inv X pins σ H s) (r : RelV x v) (ty : tyV X.K T x H) :
  s.TypeIs v T ∧ ∀ a,v = .ref a → ∃ ob,s.heap.get? a = some ob ∧ ob.dict = none := by
 cases x with
 | str z =>
  obtain ⟨t,rfl⟩ := r
  cases (show T = "str" from ty)
  exact ⟨typeIs_str s z t,fun _ e => nomatch e⟩
 | int i =>
  obtain ⟨t,rfl⟩ := r
  cases (show T = "int" from ty)
  exact ⟨typeIs_int s i t,fun _ e => nomatch e⟩
 | ref p =>
  cases r
  rcases ty with ⟨rfl,xs,hq⟩ | ⟨rfl,o,hk,hc,hd⟩ | ⟨rfl,hk⟩ | ⟨rfl,S,n,hk⟩
  ·obtain ⟨its,_,pl,_⟩ := I.list hq
   refine ⟨pl.isList.typeIs,fun a e => ?_⟩
   cases e
   obtain ⟨o,n,e,c,hd,_⟩ := pl
   exact ⟨o,e,hd⟩
  ·refine ⟨⟨o,I.kIn p o hk,hc⟩,fun a e => ?_⟩
   cases e
   exact ⟨o,I.kIn _ o hk,hd⟩
  ·have z : ∃ o,s.heap.get? p = some o ∧ o.ExactDict := by
    rcases hk with ⟨kvs,hk⟩ | ⟨kvs,hk⟩
    ·obtain ⟨_,_,_,_,o,_,_,e,ex,_⟩ := I.hok p _ hk
     exact ⟨o,e,ex⟩
    ·obtain ⟨_,_,_,_,o,_,_,e,ex,_⟩ := I.hok p _ hk
     exact ⟨o,e,ex⟩
   obtain ⟨o,e,ex⟩ := z
   refine ⟨⟨o,e,ex.1⟩,fun a e2 => ?_⟩
   cases e2
   exact ⟨o,e,ex.2.1⟩
  ·obtain ⟨o,_,_,_,e,ex,_⟩ := I.hok p _ hk
   refine ⟨⟨o,e,ex.1⟩,fun a e2 => ?_⟩
   cases e2
   exact ⟨o,e,ex.2.1⟩
 | _ => exact False.elim ty
noncomputable def tBM0 (K : PySem.W.Frag) (T : String) (r : V → List V → Hp → VK → Prop) (to : TE) : TE := fun σ H Q => to σ H fun x H1 => tyV K T x H1 ∧ r x [] H1 Q
noncomputable def tBM (K : PySem.W.Frag) (T : String) (r : V → List V → Hp → VK → Prop) (to : TE) (t : TA) : TE := fun σ H Q => to σ H fun x H1 => tyV K T x H1 ∧ t σ H1 fun xs H2 => r x xs H2 Q
variable {o e : Expr} {es : List Expr} {to : TE} {t : TA} {name : Str} {apos cpos : Pos} {T id : String} {r : V → List V → Hp → VK → Prop}
theorem pe_bm0 (pa : PlainAttrs T) (slot : Slot T name id) (hty : typeOf (.builtin id) = pure (.type "method_descriptor")) (hm : MtR X id r) (ho : PE X o to)
  (hbase : attributeBase o name X.env (eval o X.env) = eval o X.env := by rfl) (hline : (apos.endLine == cpos.line) = true := by rfl) : PE X (.Call (.Attribute o name apos) [] [] cpos) (tBM0 X.K T r to) := by
 intro pins s σ H Q I h
 refine wpAny_Call_method0_late hbase hline (thn (ho pins s σ H _ I h) fun v s1 ⟨x,H1,I1,r1,ty,q1⟩ => ?_)
 obtain ⟨h1,h2⟩ := tyV_is I1 r1 ty
 exact ⟨T,id,pa,slot,hty,h1,h2,Calls.callWith_builtin rfl (PySem.evalArgs_none (hm pins s1 σ H1 x [] v [] Q I1 r1 .nil q1))⟩
theorem pe_bm (pa : PlainAttrs T) (slot : Slot T name id) (hty : typeOf (.builtin id) = pure (.type "method_descriptor")) (hm : MtR X id r) (ho : PE X o to) (ha : PA X (e :: es) t)
  (hbase : attributeBase o name X.env (eval o X.env) = eval o X.env := by rfl)
  (hfew : ((backTo cpos (starEach (e :: es) X.env)).all (fun x => !x.1) && (backToKw cpos (keywordEach [] X.env)).all (fun x => x.1.isSome)
   && decide ((e :: es).length + ([] : List Keyword).length + (if ([] : List Keyword).isEmpty then 0 else 1) < 30)) = true := by rfl)
  (hline : (apos.endLine == cpos.line) = true := by rfl) (hs : starEach (e :: es) X.env = (false,eval e X.env) :: starEach es X.env := by rfl) (hplain : (backTo cpos (starEach es X.env)).any (·.1) = false := by rfl) :
  PE X (.Call (.Attribute o name apos) (e :: es) [] cpos) (tBM X.K T r to t) := by
 intro pins s σ H Q I h
 refine wpAny_Call_method_late hbase hfew hline rfl (thn (ho pins s σ H _ I h) fun v s1 ⟨x,H1,I1,r1,ty,q1⟩ => ?_)
 obtain ⟨h1,h2⟩ := tyV_is I1 r1 ty
 refine ⟨T,id,pa,slot,hty,h1,h2,?_⟩
 have hA := ha cpos pins s1 σ H1 _ I1 q1
 rw [hs] at hA ⊢
 refine Calls.callWith_builtin (by show (false || (backTo cpos (starEach es X.env)).any (·.1)) = false; rw [hplain] <;> rfl) (Calls.evalArgs_plain ?_)
 exact thn hA fun us s2 ⟨vs,H2,I2,r2,q2⟩ => hm pins s2 σ H2 x vs v us Q I2 r1 r2 q2
end
end L2
namespace L2
open PySem PySem.Spec PyProof.Rows
noncomputable def MtM (X : Cx) (id : String) (r : V → List V → Hp → VK → Prop) : Prop :=
 ∀ (pins : List (Addr × Obj)) (s : Shared) (σ : St) (H : Hp) (x : V) (xs : List V) (v : Value) (us : List Value) (Q : VK),Inv X pins σ H s → RelV x v → Vals xs us → r x xs H Q →
  wpAny (model X.prog X.w) X.A (call (.builtin id) (v :: us)) (EP X pins σ Q) X.xe s
theorem Vals.one : ∀ {x : V} {us : List Value},Vals [x] us → ∃ u,us = [u] ∧ RelV x u := by
 intro x us h
 cases h with
 | cons r t =>
  cases t
  exact ⟨_,rfl,r⟩
theorem Vals.two : ∀ {x y : V} {us : List Value},Vals [x,y] us → ∃ u v,us = [u,v] ∧ RelV x u ∧ RelV y v := by
 intro x y us h
 cases h with
 | cons r t =>
  cases t with
  | cons q t =>
   cases t
   exact ⟨_,_,rfl,r,q⟩
theorem Vals.zero : ∀ {us : List Value},Vals [] us → us = []
 | _,.nil => rfl
theorem Vals.reverse {xs : List V} {us : List Value} (h : Vals xs us) : Vals xs.reverse us.reverse := by
 induction h with
 | nil => exact .nil
 | cons r t ih => rw [List.reverse_cons,List.reverse_cons]; exact Vals.append ih (.cons r .nil)
section
variable {X : Cx} {pins : List (Addr × Obj)} {σ : St} {H : Hp} {s : Shared} {l b : Addr} {xs ys zs : List V}
theorem Inv.lset {its its' : List Value} {n : Nat} {f : Array Value → Array Value} {t' : Nat} (I : Inv X pins σ H s) (hH : H l = some (.lst xs))
  (e : s.heap.get? l = some { cls := .type "list",data := .seq its.toArray n }) (hf : f its.toArray = its'.toArray) (hv : Vals ys its') (hz : ys.length ≤ sizeLine) :
  Inv X pins σ (upd H l (.lst ys)) { s with heap := s.heap.update l (Obj.mapSeq f),toks := t' } := by
 have q := PySem.IsL.update e f
 rw [hf] at q
 refine I.write (x := l) (e := l) (by rw [hH]; exact trivial) (.inl rfl) (fun b' u hb hu => (Heap.get?_update_other s.heap (Obj.mapSeq f) (Ne.symm hb)).trans hu) ⟨_,q⟩ ?_
 exact ⟨hz,its',_,hv,q⟩
theorem Inv.lnew {its : List Value} {t' : Nat} (I : Inv X pins σ H s) (hv : Vals ys its) (hz : ys.length ≤ sizeLine) :
  Inv X pins σ (upd H s.heap.objs.size (.lst ys)) { s with heap := s.heap.push { cls := .type "list",data := .seq its.toArray },toks := t' } :=
 I.laid (fun _ _ q => Heap.get?_push_of_some _ q) (Nat.le_refl _) ⟨hz,its,0,hv,Heap.get?_push_size _ rfl⟩
theorem Inv.fresh (I : Inv X pins σ H s) : H s.heap.objs.size = none := I.hok.fresh (Nat.le_refl _)
theorem Inv.lstM (I : Inv X pins σ H s) (hH : H l = some (.lst xs)) : xs.length ≤ sizeLine ∧ ∃ (its : List Value) (n : Nat),Vals xs its ∧ xs.length = its.length ∧ s.heap.get? l = some { cls := .type "list",data := .seq its.toArray n } := by
 obtain ⟨z,its,n,r,e⟩ := I.hok l _ hH
 exact ⟨z,its,n,r,r.length,e⟩
end
section
variable {X : Cx}
inductive IApp (x : V) (vs : List V) (H : Hp) (Q : VK) : Prop
 | mk (l : Addr) (xs : List V) (y : V) : (x = .ref l) → (vs = [y]) → (H l = some (.lst xs)) → (xs.length < sizeLine) → (Q .non (upd H l (.lst (xs ++ [y])))) → IApp x vs H Q
noncomputable def rAppend : V → List V → Hp → VK → Prop := fun x vs H Q => IApp x vs H Q
theorem mt_append : MtM X "list.append" rAppend := by
 intro pins s σ H x vs v us Q I rx rv h
 obtain ⟨l,xs,y,rfl,rfl,hH,hz,q⟩ := h
 cases rx
 obtain ⟨u,rfl,ru⟩ := rv.one
 obtain ⟨z,its,n,r,hl,e⟩ := I.lstM hH
 refine call_meets F.slot_list_append ⟨_,e,rfl⟩ F.entry_list_append (F.args_list_append_2 _ _) (PySem.list_append l its.toArray n u (by rw [List.size_toArray]; lia)) ⟨e,?_⟩
 refine ⟨.non,_,I.lset (its' := its ++ [u]) hH e (by simp) (r.append (.cons ru .nil)) ?_,rfl,q⟩
 rw [List.length_append,List.length_singleton]
 lia
noncomputable def rReverse : V → List V → Hp → VK → Prop := fun x vs H Q => ∃ l xs,x = .ref l ∧ vs = [] ∧ H l = some (.lst xs) ∧ Q .non (upd H l (.lst xs.reverse))
theorem mt_reverse : MtM X "list.reverse" rReverse := by
 intro pins s σ H x vs v us Q I rx rv h
 obtain ⟨l,xs,rfl,rfl,hH,q⟩ := h
 cases rx
 have hus := rv.zero
 subst hus
 obtain ⟨z,its,n,r,hl,e⟩ := I.lstM hH
 refine call_meets F.slot_list_reverse ⟨_,e,rfl⟩ F.entry_list_reverse (F.args_list_reverse_1 _) (AutoSeq1.list_reverse_list_0 l its.toArray n (by rw [List.size_toArray]; lia)) ⟨e,?_⟩
 refine ⟨.non,_,I.lset (its' := its.reverse) hH e (by simp) r.reverse ?_,rfl,q⟩
 rw [List.length_reverse]
 lia
noncomputable def rCat : R2 := fun x y H Q => ∃ l b xs zs,x = .ref l ∧ y = .ref b ∧ H l = some (.lst xs) ∧ H b = some (.lst zs) ∧ xs.length + zs.length ≤ sizeLine ∧ ∀ p,H p = none → Q (.ref p) (upd H p (.lst (xs ++ zs)))
theorem op_cat : OpR X (binaryOp .Add) rCat := by
 intro pins s σ H x y v u Q I rx ry h
 obtain ⟨l,b,xs,zs,rfl,rfl,hH,hB,hz,q⟩ := h
 cases rx
 cases ry
 obtain ⟨z,its,n,r,hl,e⟩ := I.lstM hH
 obtain ⟨z2,its2,n2,r2,hl2,e2⟩ := I.lstM hB
 refine PySem.P.add_list e e2 ?_ (by rw [List.size_toArray,List.size_toArray]; lia)
 have ea : its.toArray ++ its2.toArray = (its ++ its2).toArray := by simp
 rw [ea]
 exact ⟨.ref _,_,I.lnew (t' := s.toks) (r.append r2) (by rw [List.length_append]; lia),rfl,q _ I.fresh⟩
end
section
variable {prog : Program} {w : World} {A : Around} {E : Value → Shared → Prop} {s : Shared}
end
section
variable {X : Cx}
end
end L2
namespace Att
open PySem PySem.W PySem.Calls PyProof.Rows
theorem ints_of_wellAll {P : Params} {h : Heap} : ∀ (ns : List Int) (vs : List Value),WellAll P h vs (ns.map WData.int) → IntsAre vs ns := by
 intro ns
 induction ns with
 | nil =>
  intro vs w
  rw [List.map_nil] at w
  cases w
  exact .nil
 | cons n ns ih =>
  intro vs w
  rw [List.map_cons] at w
  cases w with
  | cons a b =>
   cases a
   exact .cons _ _ (ih _ b)
theorem script_of {l : OpenLaw} {n : Nat} (hn : l.most = some n) {P : Params} {h : Heap} {args : List WData} {vals : List Value}
  (hpre : l.row.toRowW.claim.pre args = true) (hwl : WellAll P h vals args) :
  ∃ a vs ns,vals = [Value.ref a] ∧ args = [WData.list (ns.map WData.int)] ∧ h.get? a = some { cls := .type "list",data := .seq vs.toArray } ∧ IntsAre vs ns ∧ ns.length ≤ n := by
 have hsh : WShape.hasAll [] args [.list .int] = true := (pre_splitW hpre).1
 have hc : l.pre.holds [] { args := args } = true := (pre_splitW hpre).2
 obtain ⟨d,r,rfl,h1,h2⟩ := hasAllW_cons hsh
 obtain rfl := hasAllW_nil h2
 obtain ⟨xs,rfl,h3⟩ := hasW_list h1
 obtain ⟨ns,rfl⟩ := items_int h3
 have hlen : ns.length ≤ n := by
  unfold OpenLaw.pre at hc
  have h4 : (WTm.not (.lt (.lit (.int (n : Int))) (.len (.arg 0)))).holds [] { args := [.list (ns.map .int)] } = true := by
   have h4 := (holds_andW hc).1
   rw [hn] at h4
   exact h4
  have h5 := condW_of h4 (w_not (w_lt w_lit (w_len_list (w_arg rfl))))
  rw [List.length_map] at h5
  refine Nat.le_of_not_lt fun q => ?_
  have q' : (n : Int) < ((ns.length : Nat) : Int) := by lia
  first
   | (rw [decide_eq_true q'] at h5; exact absurd h5 (by decide))
   | (simp at h5; lia)
 cases hwl with
 | cons w1 w2 =>
  cases w2
  cases w1 with
  | list ho hall => exact ⟨_,_,ns,rfl,rfl,ho,ints_of_wellAll ns _ hall,hlen⟩
theorem post_true (l : OpenLaw) (args : List WData) : l.row.toRowW.claim.post args (.bool true) args = true :=
 postW_of (r := l.row.toRowW) (X := (true == true))
  (show WShape.has [] (.bool true) .bool = true by first | rfl | decide | simp [WShape.has,WShape.arms,WShape.armsAll])
  (show (WTm.eq .res (.lit (.bool true))).value [] { args := args,res := some (.bool true),after := args } = some (.bool (true == true)) from w_eq_bool (w_res rfl) w_lit) rfl
theorem attach_call {l : OpenLaw} {n : Nat} {q : Program} {loose : List Str} {XP : (Str → Option Value) → Heap → Prop} {YP : World → Heap → Prop} {d : DefRec}
  (hn : l.most = some n) (hdf : d.params.defaults = [])
  (call : ∀ (w : World) (s₀ s₁ : Shared) (mg mb : Str → Option Value) (fa : Addr) (o : Obj) (pm cd doc : Value) (a : Addr) (vs : List Value) (ns : List Int),
   Ground q loose [] XP w s₀ mg mb s₁.heap → YP w s₁.heap →
   s₁.heap.get? fa = some o → o.data = .func (docDef d.name d.params d.body d.scope pm cd doc) → s₁.heap.CodeRec cd d.name → mg d.name = some (.ref fa) →
   s₁.heap.get? a = some { cls := .type "list",data := .seq vs.toArray } → IntsAre vs ns → ns.length ≤ n → s₁.gens = #[] →
   codeAny (model l.prog w) callerA (.call (.ref fa) ⟨[.ref a],[]⟩) (fun r s' => r = .ok (.ret (.bool true)) ∧ OldK s₁.heap s'.heap ∧ s'.os = s₁.os ∧ AllBare s'.gens) s₁) :
  WalkO q loose XP YP l.row.toRowW d [] (fun f vs => PySem.call f vs) := by
 intro w s₀ s₁ mg mb G Y fa o pm cd doc dV kV ho hd hcd hD hmg hg args vals as hpre hlay hrd hwl hlo
 obtain rfl : dV = .none := Dflts.none hD hdf
 obtain rfl : kV = .none := Dflts.noKw hD
 obtain ⟨a,vs,ns,rfl,rfl,hobj,hints,hlen⟩ := script_of hn hpre hwl
 refine enter_call (codeAny_mono (call w s₀ s₁ mg mb fa o pm cd doc a vs ns G Y ho (fd_plain hd) hcd hmg hobj hints hlen hg) fun r s' hq => ?_)
 obtain ⟨rfl,h2,h3,h4⟩ := hq
 exact ⟨.inl ⟨.bool true,.bool true,[],rfl,fun _ => rfl,.bool true,post_true l _,fun _ => ⟨List.Pairwise.nil,fun _ hm => (nomatch hm)⟩⟩,h2,h3,h4⟩
section
variable {prog : Program} {w : World} {A : Around} {E : Value → Shared → Prop} {s : Shared} {K : Frag}
end
end Att
namespace L2
open PySem PySem.Spec PyProof.Rows
theorem vals_ints : ∀ {vs : List Value} {ns : List Int},IntsAre vs ns → Vals (ns.map V.int) vs
 | _,_,.nil => .nil
 | _,_,.cons n t h => .cons ⟨t,rfl⟩ (vals_ints h)
noncomputable def Only (H : Hp) : Prop := ∀ b,H b = none ∨ ∃ o xs,H b = some (.frz o (.lst xs))
theorem law_call {P : Program} {w : World} {K : PySem.W.Frag} {mg mb : Str → Option Value} {CX : CXT} {k : Nat} {fa a : Addr} {fd : FuncData} {x : Str} {sp : Sp} {s₁ : Shared} {vs : List Value} {ns : List Int}
  (KX : K.In s₁.heap) (hns : s₁.heap.Ns mainGlobals mg) (hb : s₁.heap.Ns builtinsNs mb) (hbb : ∀ x : Str,x ≠ "__name__" → mb x = bootBuiltins x) (hlim : s₁.heap.NoLimit) (hg : s₁.gens = #[])
  (ha : s₁.heap.get? a = some { cls := .type "list",data := .seq vs.toArray }) (hi : IntsAre vs ns) (hl : ns.length ≤ sizeLine) (hr : Room k callerA)
  (F : ∀ base : Heap,K.In base → base.Ns mainGlobals mg → FnOk P w K mg base CX k fa fd [x] sp) (hbind : ∀ (s : Shared) (u : Value),BindsTo s fd ⟨[u],[]⟩ [(x,u)])
  (hsp : ∀ H : Hp,Only H → SqL K H a (ns.map V.int) → sp [.ref a] H (fun v _ => v = .bl true) fun _ _ _ => False)
  (hCX : ∀ H e s',CX [] H s₁ (fun _ _ _ => False) e s' → False) :
  codeAny (model P w) callerA (.call (.ref fa) ⟨[.ref a],[]⟩) (fun r s' => r = .ok (.ret (.bool true)) ∧ OldK s₁.heap s'.heap ∧ s'.os = s₁.os ∧ AllBare s'.gens) s₁ := by
 have rv := vals_ints hi
 have lenV := hi.length
 have core : ∀ H : Hp,Only H → SqL K H a (ns.map V.int) → HOk P w H s₁.heap → (∀ b,H b ≠ none → b = a) → (H a ≠ none → K.lookup a = none) →
   codeAny (model P w) callerA (.call (.ref fa) ⟨[.ref a],[]⟩) (fun r s' => r = .ok (.ret (.bool true)) ∧ OldK s₁.heap s'.heap ∧ s'.os = s₁.os ∧ AllBare s'.gens) s₁ := by
  intro H hO hS hok hA hK
  have base_of : ∀ {b : Addr} {o : Obj},s₁.heap.get? b = some o → H b = none → (hidT s₁.heap H).get? b = some o := fun e n => hidT_get e n
  have noA : ∀ {b : Addr} {o : Obj} {es : Array DictEntry} {ep : Nat},s₁.heap.get? b = some o → o.data = .dict es ep → H b = none := fun {b o es ep} e d => by
   cases q : H b with
   | none => rfl
   | some u =>
    have e' : b = a := hA b (by rw [q]; simp)
    subst e'
    rw [ha] at e; cases e
    have d' : Data.seq vs.toArray _ = Data.dict es ep := d
    cases d'
  have nsK : ∀ {b : Addr} {m : Str → Option Value},s₁.heap.Ns b m → (hidT s₁.heap H).Ns b m := fun {b m} ⟨o,es,ep,e,d,r⟩ => ⟨o,es,ep,base_of e (noA e d),d,r⟩
  have hKb : K.In (hidT s₁.heap H) := fun b o e => base_of (KX b o e) (by
   cases q : H b with
   | none => rfl
   | some u =>
    have e' : b = a := hA b (by rw [q]; simp)
    subst e'
    rw [hK (by rw [q]; simp)] at e; cases e)
  have hM : Mod K mg (hidT s₁.heap H) := ⟨hKb,nsK hns,⟨mb,nsK hb,hbb⟩,let ⟨mc,h1,h2⟩ := hlim; ⟨mc,nsK h1,h2⟩⟩
  have e0 : Env0 P w K mg (hidT s₁.heap H) callerA [] s₁ H := ⟨rfl,hM,fun b o e => of_hidT e,Nat.le_of_eq (hidT_size _ _),trivial,fun b hb => absurd (show b ∈ ([] : List Addr) from hb) (by simp),hok,.of_eq hg⟩
  refine codeAny_mono ((F _ hKb (nsK hns)).run callerA [] s₁ H ⟨[.ref a],[]⟩ [.ref a] [.ref a] _ _ hr e0 (hbind s₁ (.ref a)) (.cons rfl .nil) (hsp H hO hS)) fun r s' h => ?_
  cases r with
  | error e => exact (hCX H e s' h).elim
  | ok fl =>
   cases fl with
   | next => exact False.elim h
   | brk => exact False.elim h
   | cont => exact False.elim h
   | ret u =>
    obtain ⟨v,H',os,bare,un,hok',r',q⟩ := h
    have q' : v = .bl true := q
    subst q'
    obtain rfl : u = Value.bool true := r'
    refine ⟨rfl,OldK.of_keep fun b o e => ?_,os,bare⟩
    cases q : H b with
    | none => exact un.keep b o e q (by intro z; exact absurd (show b ∈ ([] : List Addr) from z) (by simp)) (by simp)
    | some u =>
     rcases hO b with z | ⟨ob,xs,z⟩
     ·rw [q] at z; cases z
     ·have z2 := un.frzs b ob _ z
      obtain ⟨e1,_⟩ := hok b _ z
      obtain ⟨e2,_⟩ := hok' b _ z2
      rw [e] at e1; cases e1
      exact e2
 cases hk : K.lookup a with
 | some o =>
  have e := KX a o hk
  rw [ha] at e
  cases e
  refine core (fun _ => none) (fun _ => .inl rfl) (.inr ⟨_,vs.toArray,_,hk,rfl,rfl,rfl,by rw [List.size_toArray,lenV]; exact hl,by simpa using rv⟩) (fun b u z => by have z' : (none : Option HO) = some u := z; cases z') (fun b z => absurd rfl z) fun z => absurd rfl z
 | none =>
  refine core (fun b => if b = a then some (.frz { cls := .type "list",data := .seq vs.toArray } (.lst (ns.map V.int))) else none) (fun b => ?_) (.inl (.inr ⟨{ cls := .type "list",data := .seq vs.toArray },if_pos rfl⟩)) (fun b u z => ?_) (fun b z => ?_) fun _ => hk
  ·by_cases hb : b = a
   ·exact .inr ⟨_,_,if_pos hb⟩
   ·exact .inl (if_neg hb)
  ·by_cases hb : b = a
   ·have z' := (if_pos hb).symm.trans z
    cases z'
    subst hb
    exact ⟨ha,by rw [List.length_map]; exact hl,vs,_,rv,ha⟩
   ·have z' := (if_neg hb).symm.trans z
    cases z'
  ·by_cases hb : b = a
   ·exact hb
   ·exact absurd (if_neg hb) z
end L2
namespace L2
open PySem PySem.Spec PyProof.Rows
noncomputable abbrev KOf {K : PySem.W.Frag} {h : Heap} (_ : K.In h) : PySem.W.Frag := K
theorem walk_of {l : PySem.W.OpenLaw} {n k : Nat} {q : Program} {loose : List Str} {XP : (Str → Option Value) → Heap → Prop} {YP : World → Heap → Prop} {d : DefRec} {K : Params → PySem.W.Frag} {CX : World → CXT} {sp : World → Sp} {x : Str}
  (hn : l.most = some n) (hn2 : n ≤ sizeLine) (hdf : d.params.defaults = []) (hr : Room k callerA)
  (hY : ∀ (w : World) (h : Heap),YP w h → (K w.params).In h)
  (F : ∀ (w : World) (mg : Str → Option Value) (fa : Addr) (h : Heap),(K w.params).In h → h.Ns mainGlobals mg → mg d.name = some (.ref fa) →
   ∃ fd : FuncData,(∀ (s : Shared) (u : Value),BindsTo s fd ⟨[u],[]⟩ [(x,u)]) ∧
    ∀ base : Heap,(K w.params).In base → base.Ns mainGlobals mg → FnOk l.prog w (K w.params) mg base (CX w) k fa fd [x] (sp w))
  (hsp : ∀ (w : World) (H : Hp) (a : Addr) (ns : List Int),ns.length ≤ n → Only H → SqL (K w.params) H a (ns.map V.int) → sp w [.ref a] H (fun v _ => v = .bl true) fun _ _ _ => False)
  (hCX : ∀ (w : World) (H : Hp) (s : Shared) (e : Value) (s' : Shared),CX w [] H s (fun _ _ _ => False) e s' → False) :
  PySem.W.WalkO q loose XP YP l.row.toRowW d [] (fun f vs => PySem.call f vs) := by
 refine Att.attach_call hn hdf fun w s₀ s₁ mg mb fa o pm cd doc a vs ns G Y ho hd hcd hmg hobj hints hlen hg => ?_
 have KX := hY w _ Y
 obtain ⟨fd,hb,hF⟩ := F w mg fa _ KX G.T.g hmg
 exact law_call KX G.T.g G.T.b G.T.builtins G.T.nolimit hg hobj hints (Nat.le_trans hlen hn2) hr hF hb (fun H hO hS => hsp w H a ns hlen hO hS) fun H e s' => hCX w H s₁ e s'
theorem walk_ofK {l : PySem.W.OpenLaw} {n k : Nat} {q : Program} {loose : List Str} {XP : (Str → Option Value) → Heap → Prop} {YP : World → Heap → Prop} {d : DefRec} {K : Params → PySem.W.Frag} {CX : CXT} {sp : PySem.W.Frag → Sp} {x : Str}
  (hn : l.most = some n) (hn2 : n ≤ sizeLine) (hdf : d.params.defaults = []) (hr : Room k callerA)
  (hY : ∀ (w : World) (h : Heap),YP w h → (K w.params).In h)
  (F : ∀ (w : World) (mg : Str → Option Value) (fa : Addr) (h : Heap),(K w.params).In h → h.Ns mainGlobals mg → mg d.name = some (.ref fa) →
   ∃ fd : FuncData,(∀ (s : Shared) (u : Value),BindsTo s fd ⟨[u],[]⟩ [(x,u)]) ∧
    ∀ base : Heap,(K w.params).In base → base.Ns mainGlobals mg → FnOk l.prog w (K w.params) mg base CX k fa fd [x] (sp (K w.params)))
  (hsp : ∀ (K : PySem.W.Frag) (H : Hp) (a : Addr) (ns : List Int),ns.length ≤ n → Only H → SqL K H a (ns.map V.int) → sp K [.ref a] H (fun v _ => v = .bl true) fun _ _ _ => False)
  (hCX : ∀ (H : Hp) (s : Shared) (e : Value) (s' : Shared),CX [] H s (fun _ _ _ => False) e s' → False) :
  PySem.W.WalkO q loose XP YP l.row.toRowW d [] (fun f vs => PySem.call f vs) :=
 walk_of (K := K) (CX := fun _ => CX) (sp := fun w => sp (K w.params)) hn hn2 hdf hr hY F (fun w H a ns h1 h2 h3 => hsp (K w.params) H a ns h1 h2 h3) fun _ H s e s' => hCX H s e s'
end L2
namespace L2
open PySem PySem.Spec PyProof.Rows
noncomputable abbrev CX0 : CXT := fun _ _ _ _ _ _ => False
noncomputable abbrev E0 : XK := fun _ _ _ => False
theorem pass0 {X : Cx} : Passes CX0 X E0 := fun _ _ _ _ _ _ _ h => h.elim
structure Fun (K : PySem.W.Frag) (x qual : Str) (st : Stmt) (f : Addr) (fd : FuncData) : Prop where
 ex : ∃ (oc : Value) (od : Option Addr) (kV doc pm : Value) (an : Option Addr) (cdv ct : Value) (osl : Array (Option Value)),
  fd = PySem.W.fnOf x qual (defArgs st) (defBody st) (defScope st) .none kV doc pm an cdv ct ∧ K.lookup f = some ⟨oc,od,.func fd,osl⟩ ∧ PySem.W.codeIn K cdv qual = true
 kp : PySem.W.keepIn K (.ref f) = true
section
variable {P : Program} {w : World} {K : PySem.W.Frag} {mg : Str → Option Value} {base : Heap}
theorem Fun.ok {x qual : Str} {st : Stmt} {f : Addr} {fd : FuncData} {N ps : List Str} {k : Nat} {sp : Sp} (F : Fun K x qual st f fd) (S : FnScope N ps (defScope st)) (len : ∀ vs H Q E,sp vs H Q E → vs.length = ps.length)
  (hbody : ∀ (cdv : Value) (A : Around) (outer : List Env) (s : Shared) (H : Hp) (vs : List V) (Q : VK) (E : XK),Room k (A.deeper (envOfC qual (defScope st) s.heap.objs.size f cdv)) → sp vs H Q E →
   ∃ t,PSs (cxOf CX0 P w K mg base N qual (defScope st) f cdv A outer s H E).nox (defBody st) t ∧ t { nx := fun _ H' => Q .non H',rt := Q } (start N vs) H) : FnOk P w K mg base CX0 (k + 1) f fd ps sp := by
 obtain ⟨oc,od,kV,doc,pm,an,cdv,ct,osl,rfl,lk,hcd⟩ := F.ex
 refine fn_of lk hcd S len fun A outer s H vs Q E hr hsp => ?_
 obtain ⟨t,h,q⟩ := hbody cdv A outer s H vs Q E hr hsp
 exact ⟨t,h.nox,q⟩
theorem Fun.binds {x qual : Str} {st : Stmt} {f : Addr} {fd : FuncData} {ps : List Str} (F : Fun K x qual st f fd)
  (h : ∀ (kV doc pm : Value) (an : Option Addr) (cdv ct : Value) (us : List Value),us.length = ps.length → bindArgs (PySem.W.fnOf x qual (defArgs st) (defBody st) (defScope st) .none kV doc pm an cdv ct) ⟨us,[]⟩ = pure (ps.zip us)) : Binds K fd ps [] := by
 obtain ⟨oc,od,kV,doc,pm,an,cdv,ct,osl,rfl,lk,hcd⟩ := F.ex
 exact .all (h kV doc pm an cdv ct)
theorem fun_mk {x qual : Str} {st : Stmt} {f : Addr} {oc : Value} {od an : Option Addr} {osl : Array (Option Value)} {kV doc pm cdv ct : Value} (l : K.lookup f = some ⟨oc,od,.func (PySem.W.fnOf x qual (defArgs st) (defBody st) (defScope st) .none kV doc pm an cdv ct),osl⟩)
  (c : PySem.W.codeIn K cdv qual = true) (k : PySem.W.keepIn K (.ref f) = true) : Fun K x qual st f (PySem.W.fnOf x qual (defArgs st) (defBody st) (defScope st) .none kV doc pm an cdv ct) := ⟨⟨oc,od,kV,doc,pm,an,cdv,ct,osl,rfl,l,c⟩,k⟩
end
theorem small1000 {n : Nat} (h : n ≤ 1000) : n < sizeLine := Nat.lt_of_le_of_lt h (by decide)
section
variable {X : Cx}
theorem pv (i : Nat) {x : Str} {pos : Pos} (hN : X.N[i]? = some x := by rfl) (hv : Vis X.env.scope x := by first | exact Or.inl rfl | exact Or.inr (Or.inl rfl) | exact Or.inr (Or.inr rfl)) (hd : (x == ("__debug__" : Str)) = false := by decide)
  (hcd : (x == ("__classdict__" : Str)) = false := by decide) : PE X (.Name x pos) (tVar i) := pe_var hN hv hd hcd
end
theorem iteF {A B : Prop} (h : B) : if false = true then A else B := by
 rw [if_neg Bool.false_ne_true]
 exact h
theorem iteT {A B : Prop} (h : A) : if true = true then A else B := by
 rw [if_pos rfl]
 exact h
theorem ite2 {c A B : Prop} [Decidable c] (h1 : c → A) (h2 : ¬ c → B) : if c then A else B := by
 by_cases h : c
 ·rw [if_pos h]
  exact h1 h
 ·rw [if_neg h]
  exact h2 h
noncomputable def Same (H H' : Hp) : Prop := ∀ b o,H b = some o → H' b = some o
theorem Same.refl (H : Hp) : Same H H := fun _ _ h => h
theorem Same.trans {H H1 H2 : Hp} (a : Same H H1) (b : Same H1 H2) : Same H H2 := fun c o h => b c o (a c o h)
theorem Same.free {H H' : Hp} (e : Same H H') {l : Addr} (h : H' l = Option.none) : H l = Option.none := by
 cases q : H l with
 | none => rfl
 | some o =>
  rw [e l o q] at h
  cases h
theorem Same.seq {K : PySem.W.Frag} {H H' : Hp} {a : Addr} {xs : List V} (e : Same H H') (h : SqL K H a xs) : SqL K H' a xs := by
 rcases h with (h | ⟨o,h⟩) | h
 ·exact .inl (.inl (e _ _ h))
 ·exact .inl (.inr ⟨o,e _ _ h⟩)
 ·exact .inr h
end L2
set_option Elab.async false
set_option linter.all false
set_option maxRecDepth 100000
set_option maxHeartbeats 4000000
namespace L2
open PySem PySem.Spec PyProof.Rows
noncomputable def cloOf (env : Env) : List (Str × NameKind) → List (Str × Addr) → List (Str × Addr)
 | [],cs => cs
 | (n,k) :: r,cs => cloOf env r (if k == .free then (n,(env.cells.lookup n).getD 0) :: cs else cs)
theorem closure_is {env : Env} {scope : Scope} (h : ∀ x ∈ scope.names,x.2 = .free → ∃ c,env.cells.lookup x.1 = some c) : closureFor scope env = pure (cloOf env scope.names []) := by
 simp only [closureFor]
 have go : ∀ (l : List (Str × NameKind)) (cs : List (Str × Addr)),(∀ x ∈ l,x.2 = .free → ∃ c,env.cells.lookup x.1 = some c) →
   (forIn l cs fun (x : Str × NameKind) (r : List (Str × Addr)) => (do
    let (name,kind) := x
    if kind == .free then
     let a ← cellOf env name
     pure (ForInStep.yield ((name,a) :: r))
    else pure (ForInStep.yield r) : Sem (ForInStep (List (Str × Addr))))) = pure (cloOf env l cs) := by
  intro l
  induction l with
  | nil => intro cs _; rfl
  | cons x r ih =>
   intro cs hx
   obtain ⟨n,k⟩ := x
   rw [List.forIn_cons]
   by_cases hk : k = .free
   ·obtain ⟨c,hc⟩ := hx (n,k) List.mem_cons_self hk
    subst hk
    have e : cellOf env n = pure c := by unfold cellOf; rw [hc]
    simp only [beq_self_eq_true,if_true,e,pure_bind]
    rw [ih _ fun y hy => hx y (List.mem_cons_of_mem _ hy)]
    simp only [cloOf,beq_self_eq_true,if_true,hc,Option.getD_some]
   ·have hb : (k == NameKind.free) = false := by simpa using hk
    simp only [hb,Bool.false_eq_true,if_false,pure_bind]
    rw [ih _ fun y hy => hx y (List.mem_cons_of_mem _ hy)]
    simp only [cloOf,hb,Bool.false_eq_true,if_false]
 have g := go scope.names [] h
 first
  | exact (by rw [g] : _ = _)
  | (rw [← bind_pure (pure (cloOf env scope.names []))]; rw [← g]; rfl)
  | (simp only [g,pure_bind])
theorem cloOf_sub {env : Env} : ∀ (l : List (Str × NameKind)) (cs : List (Str × Addr)),(∀ x ∈ l,x.2 = .free → ∃ c,env.cells.lookup x.1 = some c) → (∀ x c,cs.lookup x = some c → env.cells.lookup x = some c) →
  ∀ x c,(cloOf env l cs).lookup x = some c → env.cells.lookup x = some c
 | [],_,_,h => h
 | (n,k) :: r,cs,hx,h => by
  refine cloOf_sub r _ (fun y hy => hx y (List.mem_cons_of_mem _ hy)) ?_
  intro x c e
  by_cases hk : k = .free
  ·obtain ⟨c',hc⟩ := hx (n,k) List.mem_cons_self hk
   subst hk
   simp only [beq_self_eq_true,if_true,hc,Option.getD_some] at e
   rw [List.lookup_cons] at e
   cases q : x == n with
   | true =>
    rw [q] at e
    have q' : x = n := by simpa using q
    cases e
    rw [q']; exact hc
   | false => rw [q] at e; exact h x c e
  ·have hb : (k == NameKind.free) = false := by simpa using hk
   simp only [hb,Bool.false_eq_true,if_false] at e
   exact h x c e
theorem cloOf_keeps {env : Env} : ∀ (l : List (Str × NameKind)) (cs : List (Str × Addr)) (x : Str),(∃ c,cs.lookup x = some c) → ∃ c,(cloOf env l cs).lookup x = some c
 | [],_,_,h => h
 | (n,k) :: r,cs,x,h => by
  refine cloOf_keeps r _ x ?_
  split
  ·rw [List.lookup_cons]
   cases q : x == n with
   | true => exact ⟨_,rfl⟩
   | false => exact h
  ·exact h
theorem cloOf_has {env : Env} : ∀ (l : List (Str × NameKind)) (cs : List (Str × Addr)) (x : Str),l.lookup x = some .free → ∃ c,(cloOf env l cs).lookup x = some c
 | [],_,_,h => by simp at h
 | (n,k) :: r,cs,x,h => by
  rw [List.lookup_cons] at h
  cases q : x == n with
  | true =>
   rw [q] at h
   cases h
   refine cloOf_keeps r _ x ?_
   simp only [beq_self_eq_true,if_true]
   rw [List.lookup_cons,q]
   exact ⟨_,rfl⟩
  | false => rw [q] at h; exact cloOf_has r _ x h
theorem relabel_look {env : Env} : ∀ {names : List (Str × NameKind)} {x : Str} {k' : NameKind},
  (names.map fun (n,k) => if (k == NameKind.free && env.scope.kind == .function && env.kindOf n == some .cell) then (n,NameKind.cell) else (n,k)).lookup x = some k' →
  ∃ k,names.lookup x = some k ∧ (k' = k ∨ (k = .free ∧ k' = .cell))
 | [],_,_,h => by simp at h
 | (n,k) :: r,x,k',h => by
  have ih := @relabel_look env r x k'
  rw [List.map_cons] at h
  by_cases hc : (k == NameKind.free && env.scope.kind == .function && env.kindOf n == some .cell) = true
  ·have h2 : List.lookup x ((n,NameKind.cell) :: r.map fun (n,k) => if (k == NameKind.free && env.scope.kind == .function && env.kindOf n == some .cell) then (n,NameKind.cell) else (n,k)) = some k' := by
    simpa [hc] using h
   rw [List.lookup_cons] at h2
   rw [List.lookup_cons]
   cases q : x == n with
   | true =>
    rw [q] at h2
    cases h2
    have hk : k = .free := by
     simp only [Bool.and_eq_true] at hc
     simpa using hc.1.1
    exact ⟨k,rfl,.inr ⟨hk,rfl⟩⟩
   | false => rw [q] at h2; exact ih h2
  ·have h2 : List.lookup x ((n,k) :: r.map fun (n,k) => if (k == NameKind.free && env.scope.kind == .function && env.kindOf n == some .cell) then (n,NameKind.cell) else (n,k)) = some k' := by
    simpa [hc] using h
   rw [List.lookup_cons] at h2
   rw [List.lookup_cons]
   cases q : x == n with
   | true => rw [q] at h2; cases h2; exact ⟨_,rfl,.inl rfl⟩
   | false => rw [q] at h2; exact ih h2
noncomputable def ccx (X : Cx) (scope : Scope) (C : Addr) (N' : List Str) (s₀ : Shared) (H₀ : Hp) (fp : List Addr) : Cx :=
 { X with N := N',s₀ := s₀,H₀ := H₀,env := compEnvC scope (cloOf X.env scope.names []) C X.env,outer := X.stack,stack := X.stack,ex := fp,fn := fun _ => false,pn := [],xe := fun _ _ => False }
noncomputable def cst (k : Nat) (ρ : List Nat) (σ : St) : St := List.replicate k none ++ ρ.map fun j => (σ[j]?).join
structure CScope (X : Cx) (scope : Scope) (NL : List Str) (ρ : List Nat) (N' : List Str) : Prop where
 kind : scope.kind = .function
 nocell : ∀ x ∈ scope.names,x.2 ≠ .cell
 locs : ∀ x ∈ scope.names,x.2 = .local → scope.names.lookup x.1 = some .local
 frees : ∀ x ∈ scope.names,x.2 = .free → X.env.kindOf x.1 = some .cell ∨ X.env.kindOf x.1 = some .free
 names : N' = NL ++ ρ.map fun j => X.N.getD j ""
 outs : ∀ j ∈ ρ,∃ x,X.N[j]? = some x ∧ scope.names.lookup x = some .free ∧ (X.env.scope.names.lookup x = some .cell ∨ X.env.scope.names.lookup x = some .free)
section
variable {X : Cx}
theorem cx_comp {scope : Scope} {NL N' : List Str} {ρ : List Nat} (S : CScope X scope NL ρ N') {pins : List (Addr × Obj)} {σ : St} {H : Hp} {s : Shared} {fp : List Addr} {C : Addr} (I : Inv X pins σ H s) (hf : ∀ b ∈ fp,FpOk X pins H b)
  (hfo : ∀ b ∈ fp,∃ o,s.heap.get? b = some o) (hC : s.heap.objs.size ≤ C) : (ccx X scope C N' s H fp).Ok := by
 have free_in : ∀ x ∈ scope.names,x.2 = .free → ∃ c,X.env.cells.lookup x.1 = some c := fun x hx hk => I.ok.has x.1 (S.frees x hx hk)
 have sub := cloOf_sub (env := X.env) scope.names [] free_in (fun x c e => by simp at e)
 refine ⟨I.ok.mod,S.kind,I.ok.glob,I.ok.blt,hC,?_,?_,?_,I.ok.hd,I.ok.frames,.inl rfl,?_,I.bs,?_,?_,?_,I.stack,I.stkFree⟩
 ·exact fun x y c e1 e2 => I.ok.inj x y c (sub x c e1) (sub y c e2)
 ·intro x hx
  have hx' : (relabel scope X.env).names.lookup x = some .cell ∨ (relabel scope X.env).names.lookup x = some .free := hx
  have look : ∀ k',(relabel scope X.env).names.lookup x = some k' → (k' = .cell ∨ k' = .free) → scope.names.lookup x = some .free := fun k' e hk => by
   obtain ⟨k,e1,z⟩ := relabel_look e
   rcases z with z | ⟨z,_⟩
   ·subst z
    rcases hk with z | z
    ·subst z
     have hm : (x,NameKind.cell) ∈ scope.names := mem_of_lookup e1
     exact absurd rfl (S.nocell _ hm)
    ·subst z; exact e1
   ·subst z; exact e1
  rcases hx' with e | e
  ·exact cloOf_has scope.names [] x (look _ e (.inl rfl))
  ·exact cloOf_has scope.names [] x (look _ e (.inr rfl))
 ·intro x c e; exact absurd e (by show ¬ (false = true); decide)
 ·intro b hb
  obtain ⟨f0,f1,f2,f3,f4,f5⟩ := hf b hb
  refine ⟨?_,fun x c e => f4 x c (sub x c e)⟩
  obtain ⟨o,ho⟩ := hfo b hb
  exact Nat.ne_of_lt (Nat.lt_of_lt_of_le (Heap.lt_size ho) hC)
 ·exact Nat.le_trans I.ok.bsz I.sz
 ·intro b o e hb
  obtain ⟨f0,f1,f2,f3,f4,f5⟩ := hf b hb
  rcases f3 with z | z
  ·exact I.ok.noex b o e z
  ·exact absurd (Nat.lt_of_lt_of_le (Heap.lt_size e) (Nat.le_trans I.ok.bsz z)) (Nat.lt_irrefl _)
 ·intro b hb z
  obtain ⟨f0,f1,f2,f3,f4,f5⟩ := hf b hb
  rcases List.mem_cons.mp (I.stkSub b z) with e | e
  ·exact f1 e
  ·exact f2 e
end
end L2
set_option Elab.async false
set_option linter.all false
set_option maxRecDepth 100000
set_option maxHeartbeats 4000000
namespace L2
open PySem PySem.Spec PyProof.Rows
section
variable {X : Cx}
theorem Inv.comp {scope : Scope} {NL N' : List Str} {ρ : List Nat} (S : CScope X scope NL ρ N') {pins : List (Addr × Obj)} {σ : St} {H : Hp} {s : Shared} {fp : List Addr} {C D : Addr} {h' : Heap} {t' : Nat} (I : Inv X pins σ H s) (hf : ∀ b ∈ fp,FpOk X pins H b)
  (hfo : ∀ b ∈ fp,∃ o,s.heap.get? b = some o) (hC : s.heap.objs.size ≤ C) (hD : s.heap.objs.size ≤ D) (hDC : D ≠ C) (k : ∀ b u,s.heap.get? b = some u → h'.get? b = some u)
  (hd : h'.get? D = some { cls := .type "list",data := .seq #[] 0 }) (hn : h'.Ns C fun _ => none) :
  Inv (ccx X scope C N' s H fp) (X.pn ++ pins) (cst NL.length ρ σ) (upd H D (.lst [])) { s with heap := h',toks := t' } := by
 have ok := cx_comp S I hf hfo hC
 have free_in : ∀ x ∈ scope.names,x.2 = .free → ∃ c,X.env.cells.lookup x.1 = some c := fun x hx hk => I.ok.has x.1 (S.frees x hx hk)
 have sub := cloOf_sub (env := X.env) scope.names [] free_in (fun x c e => by simp at e)
 have fresh : ∀ b,s.heap.objs.size ≤ b → H b = none := fun b hb => I.hok.fresh hb
 have neD : ∀ b o,s.heap.get? b = some o → b ≠ D := fun b o e => Nat.ne_of_lt (Nat.lt_of_lt_of_le (Heap.lt_size e) hD)
 have neH : ∀ b u,H b = some u → b ≠ D := fun b u e => ne_of_none e (fresh D hD)
 refine ⟨ok,rfl,I.bare,⟨fun b o e _ _ _ => k b o e,fun b o e _ _ _ => ⟨o.slots,k b o e⟩,fun b o e n _ => ?_,fun b o e _ => ⟨o,k b o e⟩,fun b xs e => ?_,fun b o u e => ?_,fun b ps e => ⟨#[],?_⟩⟩,⟨_,hn,?_⟩,?_,?_,?_,?_,?_,?_⟩
 ·show upd H D _ b = none
  rw [upd_ne (neD b o e)]; exact n
 ·show upd H D _ b = _
  rw [upd_ne (neH b _ e)]; exact e
 ·show upd H D _ b = _
  rw [upd_ne (neH b _ e)]; exact e
 ·show upd H D _ b = _
  rw [upd_ne (neH b _ e)]
  have e' : H b = some (.tbl ps) := e
  rw [e']; simp
 ·-- the names around
  intro i x v e1 e2 hv
  obtain ⟨m,hm,hl⟩ := I.loc
  have eN : (NL ++ ρ.map fun j => X.N.getD j "")[i]? = some x := by
   have e1' : N'[i]? = some x := e1
   rw [S.names] at e1'; exact e1'
  have eσ : (List.replicate NL.length (none : Option V) ++ ρ.map fun j => (σ[j]?).join)[i]? = some (some v) := e2
  by_cases hi : i < NL.length
  ·rw [List.getElem?_append_left (by simpa using hi)] at eσ
   rw [List.getElem?_replicate] at eσ
   split at eσ <;> cases eσ
  ·have hi' : NL.length ≤ i := Nat.le_of_not_lt hi
   rw [List.getElem?_append_right (by simpa using hi'),List.length_replicate,List.getElem?_map] at eσ
   rw [List.getElem?_append_right hi',List.getElem?_map] at eN
   cases q : ρ[i - NL.length]? with
   | none => rw [q] at eN; cases eN
   | some j =>
    rw [q] at eN eσ
    obtain ⟨y,ey,f1,f2⟩ := S.outs j (List.mem_of_getElem? q)
    have exy : X.N.getD j "" = y := by rw [List.getD_eq_getElem?_getD,ey]; rfl
    have exx : X.N.getD j "" = x := Option.some.inj eN
    have xy : x = y := exx.symm.trans exy
    subst xy
    have eσ' : (σ[j]?).join = some v := Option.some.inj eσ
    have eσ2 : σ[j]? = some (some v) := by
     cases z : σ[j]? with
     | none => rw [z] at eσ'; cases eσ'
     | some w => rw [z] at eσ'; exact congrArg some eσ'
    have vis : Vis X.env.scope x := by
     rcases f2 with z | z
     ·exact .inr (.inl z)
     ·exact .inr (.inr z)
    obtain ⟨u,r,l⟩ := hl j x v ey eσ2 vis
    refine ⟨u,r,?_⟩
    obtain ⟨c,hc⟩ := cloOf_has (env := X.env) scope.names [] x f1
    rcases l with ⟨kl,_⟩ | ⟨_,c',hc',z⟩
    ·have kl' : X.env.scope.names.lookup x = some .local := kl
     rcases f2 with z | z
     ·rw [z] at kl'; cases kl'
     ·rw [z] at kl'; cases kl'
    ·have e3 := sub x c hc
     rw [hc'] at e3
     obtain rfl := Option.some.inj e3
     obtain ⟨oc,hoc,hcd⟩ := z
     have hv' : (relabel scope X.env).names.lookup x = some .local ∨ (relabel scope X.env).names.lookup x = some .cell ∨ (relabel scope X.env).names.lookup x = some .free := hv
     refine .inr ⟨?_,c',hc,oc,k _ _ hoc,hcd⟩
     rcases hv' with z | z | z
     ·obtain ⟨k0,e4,z2⟩ := relabel_look z
      rw [f1] at e4
      cases e4
      rcases z2 with z2 | ⟨_,z2⟩ <;> cases z2
     ·exact .inl z
     ·exact .inr z
 ·intro x c e
  obtain ⟨v,oc,hoc,hcd⟩ := I.cell x c (sub x c e)
  exact ⟨v,oc,k _ _ hoc,hcd⟩
 ·show upd H D _ C = none
  rw [upd_ne (Ne.symm hDC)]; exact fresh C hC
 ·intro x c e
  obtain ⟨v,oc,hoc,hcd⟩ := I.cell x c (sub x c e)
  rw [upd_ne (neD c oc hoc)]
  exact I.freeC x c (sub x c e)
 ·intro p hp
  have hp' : p ∈ X.pn ++ pins := hp
  obtain ⟨e,n,ne,nf,d⟩ := I.pin p hp'
  refine ⟨k _ _ e,?_,?_,?_,d⟩
  ·rw [upd_ne (neD p.1 p.2 e)]; exact n
  ·exact Nat.ne_of_lt (Nat.lt_of_lt_of_le (Heap.lt_size e) hC)
  ·intro z
   rcases List.mem_cons.mp (I.stkSub p.1 z) with q | q
   ·exact ne q
   ·exact nf q
 ·exact I.hok.laid k hD ⟨Nat.zero_le _,[],0,.nil,hd⟩
 ·show (List.replicate NL.length (none : Option V) ++ ρ.map fun j => (σ[j]?).join).length = N'.length
  rw [S.names]; simp
theorem Inv.compEnd {scope : Scope} {N' : List Str} {pins : List (Addr × Obj)} {σ σ' : St} {H H' : Hp} {s s' : Shared} {fp : List Addr} {C : Addr} {h' : Heap} {pins' : List (Addr × Obj)} (I : Inv X pins σ H s) (hf : ∀ b ∈ fp,FpOk X pins H b) (hC : s.heap.objs.size ≤ C)
  (J : Inv (ccx X scope C N' s H fp) pins' σ' H' s') (hs : Heap.SameBut C s'.heap h') : Inv X pins σ H' { s' with heap := h' } := by
 have hn : H' C = none := J.free
 have nC : ∀ b o,s.heap.get? b = some o → b ≠ C := fun b o e => Nat.ne_of_lt (Nat.lt_of_lt_of_le (Heap.lt_size e) hC)
 have B : Un (frs X.stack) fp H H' s.heap s'.heap := J.base
 have U : Un (frs X.stack) fp H H' s.heap h' := ⟨fun b o e n hb hx => (hs.2 b (nC b o e)).trans (B.keep b o e n hb hx),fun b o e n hb hx => by
   obtain ⟨sl,q⟩ := B.slot b o e n hb hx
   exact ⟨sl,(hs.2 b (nC b o e)).trans q⟩,B.free,fun b o e hx => by
   obtain ⟨o',q⟩ := B.there b o e hx
   exact ⟨o',(hs.2 b (nC b o e)).trans q⟩,B.tups,B.frzs,B.tbls⟩
 have hok : HOk X.prog X.w H' h' := fun b u e => by
  refine (J.hok b u e).stay (fun c v hc q => (hs.2 c ?_).trans q) (fun _ q => q) fun _ _ q => q
  rintro rfl
  rcases hc with rfl | hc
  ·rw [hn] at e; cases e
  ·rw [hn] at hc; cases hc
 refine Inv.call' (s' := { s' with heap := h' }) I J.os U hok J.bare fun b hb => ?_
 obtain ⟨f0,f1,f2,f3,f4,f5⟩ := hf b hb
 exact ⟨f3,f1,f4,f5⟩
noncomputable def tComp (k : Nat) (ρ : List Nat) (wi : TI) (g : TG) (tb : List V → Addr → St → Hp → (List V → St → Hp → Prop) → Prop) : TE := fun σ H Q =>
 wi σ H fun J H1 => ∀ l,H1 l = none → ∃ W : Nat → Nat → List V → St → Hp → Prop,(∃ m,W 0 m [] (cst k ρ σ) (upd H1 l (.lst []))) ∧
  ∀ i m ys σ' H',W i m ys σ' H' → (J.stop i H' ∧ Q (.ref l) H') ∨ (J.go i H' ∧ ∀ x H'',J.yld i H' x H'' → g x σ' H'' fun σ2 H2 => tb ys l σ2 H2 fun ys' σ3 H3 => ∃ m',m' < m ∧ W (i + 1) m' ys' σ3 H3)
noncomputable def cEl (te : TE) : List V → Addr → St → Hp → (List V → St → Hp → Prop) → Prop := fun ys l σ H N => te σ H fun y H1 => H1 l = some (.lst ys) ∧ ys.length < sizeLine ∧ N (ys ++ [y]) σ (upd H1 l (.lst (ys ++ [y])))
noncomputable def cIf (tc : TT) (te : TE) : List V → Addr → St → Hp → (List V → St → Hp → Prop) → Prop := fun ys l σ H N => tc σ H fun b H1 => if b = true then cEl te ys l σ H1 N else N ys σ H1
noncomputable def PB (X : Cx) (body : Value → Sem Unit) (tb : List V → Addr → St → Hp → (List V → St → Hp → Prop) → Prop) : Prop :=
 ∀ (pins : List (Addr × Obj)) (s : Shared) (σ : St) (H : Hp) (l : Addr) (ys : List V) (N : List V → St → Hp → Prop),Inv X pins σ H s → tb ys l σ H N →
  wpAny (model X.prog X.w) X.A (body (.ref l)) (fun _ s' => ∃ ys' σ' H',Inv X pins σ' H' s' ∧ N ys' σ' H') X.xe s
theorem pb_el {elt : Expr} {te : TE} (he : PE X elt te) : PB X (fun acc => do let x ← eval elt X.env; let _ ← call (.builtin "list.append") [acc,x]; pure ()) (cEl te) := by
 intro pins s σ H l ys N I h
 refine wpAny_bind (thn (he pins s σ H _ I h) fun u s1 ⟨y,H1,I1,r1,q0,q1,q2⟩ => wpAny_bind ?_)
 refine thn (mt_append pins s1 σ H1 (.ref l) [y] (.ref l) [u] (fun v H' => v = .non ∧ N (ys ++ [y]) σ H') I1 rfl (.cons r1 .nil) ⟨l,ys,y,rfl,rfl,q0,q1,rfl,q2⟩) fun _ s2 ⟨v,H2,I2,_,_,n2⟩ => wpAny_pure ⟨_,σ,H2,I2,n2⟩
theorem pb_if {c elt : Expr} {tc : TT} {te : TE} (hc : PT X c tc) (he : PE X elt te) : PB X (fun acc => do
  let b ← isTrue c X.env (eval c X.env)
  if b then (do let x ← eval elt X.env; let _ ← call (.builtin "list.append") [acc,x]; pure ()) else pure ()) (cIf tc te) := by
 intro pins s σ H l ys N I h
 refine wpAny_bind (thn (hc pins s σ H _ I h) fun b s1 ⟨H1,I1,q1⟩ => ?_)
 cases b with
 | true => exact pb_el he pins s1 σ H1 l ys N I1 q1
 | false => exact wpAny_pure ⟨ys,σ,H1,I1,q1⟩
theorem turn_eq0 (elt target iter : Expr) (scope : Scope) (pos : Pos) (it acc : Value) (env : Env) :
  compTurn (.ListComp elt [⟨target,iter,[],0⟩] scope pos) 0 it acc env = (standAt iter.pos >>= fun _ => pyNext it >>= fun r => match r with
   | none => pure (.done .next)
   | some v => letOwnedTupleGo target it v >>= fun _ => assign target env v >>= fun _ =>
    (do let x ← eval elt env; let _ ← call (.builtin "list.append") [acc,x]; pure () : Sem Unit) >>= fun _ => again (.compLoop (.ListComp elt [⟨target,iter,[],0⟩] scope pos) 0 it acc env)) := by rfl
theorem turn_eq1 (elt target iter c : Expr) (scope : Scope) (pos : Pos) (it acc : Value) (env : Env) :
  compTurn (.ListComp elt [⟨target,iter,[c],0⟩] scope pos) 0 it acc env = (standAt iter.pos >>= fun _ => pyNext it >>= fun r => match r with
   | none => pure (.done .next)
   | some v => letOwnedTupleGo target it v >>= fun _ => assign target env v >>= fun _ =>
    (do
     let b ← isTrue c env (eval c env)
     if b then (do let x ← eval elt env; let _ ← call (.builtin "list.append") [acc,x]; pure ()) else pure () : Sem Unit) >>= fun _ => again (.compLoop (.ListComp elt [⟨target,iter,[c],0⟩] scope pos) 0 it acc env)) := by
 rw [compTurn_list]
 congr 1
 funext _
 congr 1
 funext r
 cases r with
 | none => rfl
 | some v =>
  refine congrArg (letOwnedTupleGo target it v >>= ·) (funext fun _ => ?_)
  refine congrArg (assign target env v >>= ·) (funext fun _ => ?_)
  dsimp only
  rw [List.forIn_cons]
  simp only [if_true,bind_assoc,pure_bind,List.forIn_nil]
  refine congrArg (PySem.isTrue c env (eval c env) >>= ·) (funext fun b => ?_)
  cases b
  ·simp
  ·simp
end
end L2
set_option Elab.async false
set_option linter.all false
set_option maxRecDepth 100000
set_option maxHeartbeats 4000000
namespace L2
open PySem PySem.Spec PyProof.Rows
section
variable {X : Cx}
theorem pe_compG {elt tgt iter : Expr} {ifs : List Expr} {scope : Scope} {pos : Pos} {NL N' : List Str} {ρ : List Nat} {wi : TI} {g : TG} {tb : List V → Addr → St → Hp → (List V → St → Hp → Prop) → Prop} {body : Value → Env → Sem Unit}
  (hc : X.calm = true) (S : CScope X scope NL ρ N') (hi : PI X tgt iter wi)
  (hg : ∀ C s₀ H₀ fp,PG (ccx X scope C N' s₀ H₀ fp) tgt g) (hb : ∀ C s₀ H₀ fp,PB (ccx X scope C N' s₀ H₀ fp) (fun acc => body acc (ccx X scope C N' s₀ H₀ fp).env) tb)
  (he : ∀ (it acc : Value) (env : Env),compTurn (.ListComp elt [⟨tgt,iter,ifs,0⟩] scope pos) 0 it acc env = (standAt iter.pos >>= fun _ => pyNext it >>= fun r => match r with
   | none => pure (.done .next)
   | some v => letOwnedTupleGo tgt it v >>= fun _ => assign tgt env v >>= fun _ => body acc env >>= fun _ => again (.compLoop (.ListComp elt [⟨tgt,iter,ifs,0⟩] scope pos) 0 it acc env)))
  (hs : ∀ x,foldedSetIterable iter X.env x = pure x := by intro _; rfl) : PE X (.ListComp elt [⟨tgt,iter,ifs,0⟩] scope pos) (tComp NL.length ρ wi g tb) := by
 intro pins s σ H Q I h
 have free_in : ∀ x ∈ scope.names,x.2 = .free → ∃ c,X.env.cells.lookup x.1 = some c := fun x hx hk => I.ok.has x.1 (S.frees x hx hk)
 rw [eval_ListComp]
 refine wpAny_comprehension_free (use := none) rfl hs (closure_is free_in) S.kind S.locs ?_
 refine thn (hi pins s σ H _ I h) fun v s1 h1 => thn h1 fun itv s2 h2 => ?_
 obtain ⟨it,fp,tn,J,H2,e,I2,T,st2,f2,w⟩ := h2
 subst e
 refine wpAny_newObj_type (wpAny_newFunctionEnv S.nocell (by intro y hy; simp at hy) (fun h₁ hns₁ hsb₁ => ?_) S.kind)
 dsimp only at hns₁ hsb₁ ⊢
 generalize hH2 : s2.heap.push { cls := .type "list",dict := none,data := .seq ([] : List Value).toArray } = h2' at hns₁ hsb₁ ⊢
 have hCs : h2'.objs.size = s2.heap.objs.size + 1 := by rw [← hH2,Heap.size_push]
 have hDC : s2.heap.objs.size ≠ h2'.objs.size := by rw [hCs]; exact Nat.ne_of_lt (Nat.lt_succ_self _)
 have hC : s2.heap.objs.size ≤ h2'.objs.size := by rw [hCs]; exact Nat.le_succ _
 have old : ∀ b o,s2.heap.get? b = some o → h₁.get? b = some o := fun b o e => hsb₁.extBut b o (Nat.ne_of_lt (Nat.lt_of_lt_of_le (Heap.lt_size e) hC)) (Heap.get?_push_of_some _ (hH2 ▸ Heap.get?_push_of_some _ e))
 have hd : h₁.get? s2.heap.objs.size = some { cls := .type "list",data := .seq #[] 0 } := hsb₁.extBut _ _ hDC (Heap.get?_push_of_some _ (hH2 ▸ Heap.get?_push_size _ rfl))
 have hfo : ∀ b ∈ fp,∃ o,s2.heap.get? b = some o := fun b hb => let ⟨o,e,_⟩ := T.obj _ _ st2 b hb; ⟨o,e⟩
 have I4 : Inv (ccx X scope h2'.objs.size N' s2 H2 fp) (X.pn ++ pins) (cst NL.length ρ σ) (upd H2 s2.heap.objs.size (.lst [])) { s2 with heap := h₁,toks := s2.toks + ([] : List (Str × Value)).length } :=
  Inv.comp S I2 f2 hfo hC (Nat.le_refl _) hDC old hd (by simpa using hns₁)
 have hD0 : H2 s2.heap.objs.size = none := I2.hok.fresh (Nat.le_refl _)
 have nfp : s2.heap.objs.size ∉ fp := fun z => by
  obtain ⟨o,e⟩ := hfo _ z
  exact absurd (Heap.lt_size e) (Nat.lt_irrefl _)
 obtain ⟨W,⟨m0,w0⟩,turn⟩ := w s2.heap.objs.size hD0
 have stat : ∀ {H' : Hp},(∀ b ∈ fp,H' b = none) → ∀ b ∈ fp,FpOk (ccx X scope h2'.objs.size N' s2 H2 fp) (X.pn ++ pins) H' b := fun {H'} hn b hb => by
  obtain ⟨f0,f1,f2',f3,f4,f5⟩ := f2 b hb
  have ok := I4.ok
  refine ⟨hn b hb,(ok.exf b hb).1,ok.exfs b hb,.inl hb,(ok.exf b hb).2,fun p hp => f5 p hp⟩
 have loop : ∀ s₃ : Shared,s₃ = { s2 with heap := h₁,toks := s2.toks + ([] : List (Str × Value)).length } →
   codeAny (model X.prog X.w) X.A (.compLoop (.ListComp elt [⟨tgt,iter,ifs,0⟩] scope pos) 0 (.ref it) (.ref s2.heap.objs.size) (compEnvC scope (cloOf X.env scope.names []) h2'.objs.size X.env))
    (compPost (model X.prog X.w) X.A X.xe none (EP X pins σ Q) (.ref s2.heap.objs.size) h2'.objs.size) s₃ := by
  rintro s₃ rfl
  refine codeAny_loop rfl (fun n s' => ∃ i ys σ' H',Inv (ccx X scope h2'.objs.size N' s2 H2 fp) (X.pn ++ pins) σ' H' s' ∧ tn i s'.heap ∧ (∀ b ∈ fp,H' b = none) ∧ W i n ys σ' H') (fun n s3 hI => ?_) m0
   ⟨0,[],_,_,I4,T.keep _ _ _ st2 (fun b _ o e => old b o e),fun b hb => ?_,w0⟩
  ·obtain ⟨i,ys,σ3,H3,I3,st3,fr3,w3⟩ := hI
   show wpAny _ _ ((compTurn (.ListComp elt [⟨tgt,iter,ifs,0⟩] scope pos) 0 (.ref it) (.ref s2.heap.objs.size) (compEnvC scope (cloOf X.env scope.names []) h2'.objs.size X.env)).onRaise (fun x => do noteFrame x _; theTreesLotGoes x)) _ _ s3
   refine wpAny_noted ?_
   rw [he]
   refine wpAny_bind (wpAny_standAt (wpAny_bind ?_))
   rcases turn i n ys σ3 H3 w3 with ⟨stop,qn⟩ | ⟨go,step⟩
   ·refine thn (T.done (ccx X scope h2'.objs.size N' s2 H2 fp) rfl rfl rfl hc i _ s3 σ3 H3 _ I3 (stat fr3) st3 stop) fun r s4 ⟨hr,I5⟩ => ?_
    subst hr
    refine wpAny_pure ?_
    obtain ⟨m,hm,_⟩ := id I5.loc
    exact ⟨m,hm,fun h' hs' => ⟨.ref s2.heap.objs.size,H3,Inv.compEnd I2 f2 hC I5 hs',rfl,qn⟩⟩
   ·refine thn (T.item (ccx X scope h2'.objs.size N' s2 H2 fp) rfl rfl rfl hc i _ s3 σ3 H3 _ I3 (stat fr3) st3 go) fun r s4 ⟨u,hr,h4⟩ => ?_
    subst hr
    refine wpAny_bind (thn h4 fun _ s5 ⟨x,H5,I5,r5,y5,st5,fr5⟩ => ?_)
    have I5' := I5.pinned (stat fr5) (T.obj _ _ st5)
    refine wpAny_bind (wpAny_mono (hg h2'.objs.size s2 H2 fp _ s5 σ3 H5 x u _ I5' r5 (step x H5 y5)) (fun _ s6 ⟨σ6,H6,I6,q6⟩ => ?_) fun _ _ z => z.elim)
    refine wpAny_bind (wpAny_mono (hb h2'.objs.size s2 H2 fp _ s6 σ6 H6 s2.heap.objs.size ys _ I6 q6) (fun _ s7 ⟨ys7,σ7,H7,I7,m',hm,w7⟩ => ?_) fun _ _ z => z.elim)
    refine wpAny_pure ⟨rfl,m',hm,i + 1,ys7,σ7,H7,I7.unpinned,T.keep _ _ _ st5 fun b hb o e => (I7.pin (b,o) (List.mem_append_right _ (List.mem_append_right _ (mem_pinsAt hb e)))).1,fun b hb => ?_,w7⟩
    obtain ⟨o,e,d⟩ := T.obj _ _ st5 b hb
    exact (I7.pin (b,o) (List.mem_append_right _ (List.mem_append_right _ (mem_pinsAt hb e)))).2.1
  ·rw [upd_ne (show b ≠ s2.heap.objs.size from fun z => nfp (by rw [← z]; exact hb))]
   exact (f2 b hb).1
 refine codeAny_compStart_list (loop _ rfl) (T.self _ 0 _ _ _ ?_ (loop _ rfl))
 exact T.keep _ _ _ st2 fun b _ o e => old b o e
theorem pe_comp {elt tgt iter : Expr} {scope : Scope} {pos : Pos} {NL N' : List Str} {ρ : List Nat} {wi : TI} {g : TG} {te : TE} (hc : X.calm = true) (S : CScope X scope NL ρ N') (hi : PI X tgt iter wi)
  (hg : ∀ C s₀ H₀ fp,PG (ccx X scope C N' s₀ H₀ fp) tgt g) (he : ∀ C s₀ H₀ fp,PE (ccx X scope C N' s₀ H₀ fp) elt te)
  (hs : ∀ x,foldedSetIterable iter X.env x = pure x := by intro _; rfl) : PE X (.ListComp elt [⟨tgt,iter,[],0⟩] scope pos) (tComp NL.length ρ wi g (cEl te)) :=
 pe_compG (body := fun acc env => do let x ← eval elt env; let _ ← call (.builtin "list.append") [acc,x]; pure ()) hc S hi hg (fun C s₀ H₀ fp => pb_el (he C s₀ H₀ fp)) (fun it acc env => turn_eq0 elt tgt iter scope pos it acc env) hs
theorem pe_compIf {elt tgt iter c : Expr} {scope : Scope} {pos : Pos} {NL N' : List Str} {ρ : List Nat} {wi : TI} {g : TG} {tc : TT} {te : TE} (hc : X.calm = true) (S : CScope X scope NL ρ N') (hi : PI X tgt iter wi)
  (hg : ∀ C s₀ H₀ fp,PG (ccx X scope C N' s₀ H₀ fp) tgt g) (ht : ∀ C s₀ H₀ fp,PT (ccx X scope C N' s₀ H₀ fp) c tc) (he : ∀ C s₀ H₀ fp,PE (ccx X scope C N' s₀ H₀ fp) elt te)
  (hs : ∀ x,foldedSetIterable iter X.env x = pure x := by intro _; rfl) : PE X (.ListComp elt [⟨tgt,iter,[c],0⟩] scope pos) (tComp NL.length ρ wi g (cIf tc te)) :=
 pe_compG (body := fun acc env => do
  let b ← PySem.isTrue c env (eval c env)
  if b then (do let x ← eval elt env; let _ ← call (.builtin "list.append") [acc,x]; pure ()) else pure ()) hc S hi hg (fun C s₀ H₀ fp => pb_if (ht C s₀ H₀ fp) (he C s₀ H₀ fp)) (fun it acc env => turn_eq1 elt tgt iter c scope pos it acc env) hs
end
end L2
set_option Elab.async false
set_option linter.all false
set_option maxRecDepth 100000
set_option maxHeartbeats 4000000
namespace L2
open PySem PySem.Spec PyProof.Rows
section
variable {X : Cx}
inductive IsiB (K : PySem.W.Frag) (H : Hp) : V → String → Bool → Prop
 | int_int {i} : IsiB K H (.int i) "int" true
 | int_str {i} : IsiB K H (.int i) "str" false
 | int_bool {i} : IsiB K H (.int i) "bool" false
 | int_tuple {i} : IsiB K H (.int i) "tuple" false
 | int_list {i} : IsiB K H (.int i) "list" false
 | str_int {x} : IsiB K H (.str x) "int" false
 | str_str {x} : IsiB K H (.str x) "str" true
 | str_bool {x} : IsiB K H (.str x) "bool" false
 | str_tuple {x} : IsiB K H (.str x) "tuple" false
 | str_list {x} : IsiB K H (.str x) "list" false
 | bl_int {b} : IsiB K H (.bl b) "int" true
 | bl_bool {b} : IsiB K H (.bl b) "bool" true
 | bl_str {b} : IsiB K H (.bl b) "str" false
 | bl_tuple {b} : IsiB K H (.bl b) "tuple" false
 | tup_int {a xs} : SqT K H a xs → IsiB K H (.ref a) "int" false
 | tup_str {a xs} : SqT K H a xs → IsiB K H (.ref a) "str" false
 | tup_bool {a xs} : SqT K H a xs → IsiB K H (.ref a) "bool" false
 | tup_tuple {a xs} : SqT K H a xs → IsiB K H (.ref a) "tuple" true
 | tup_list {a xs} : SqT K H a xs → IsiB K H (.ref a) "list" false
 | lst_int {a xs} : SqL K H a xs → IsiB K H (.ref a) "int" false
 | lst_str {a xs} : SqL K H a xs → IsiB K H (.ref a) "str" false
 | lst_tuple {a xs} : SqL K H a xs → IsiB K H (.ref a) "tuple" false
 | lst_list {a xs} : SqL K H a xs → IsiB K H (.ref a) "list" true
theorem nsub (a b : String) (h : isSubtype (.type a) (.type b) = pure false := by rw [isSubtype_type]; kernel_rfl) : isSubtype (.type a) (.type b) = pure false := h
theorem ysub (a b : String) (h : isSubtype (.type a) (.type b) = pure true := by rw [isSubtype_type]; kernel_rfl) : isSubtype (.type a) (.type b) = pure true := h
theorem n_int_str : isSubtype (.type "int") (.type "str") = pure false := nsub _ _
theorem n_int_bool : isSubtype (.type "int") (.type "bool") = pure false := nsub _ _
theorem n_int_tuple : isSubtype (.type "int") (.type "tuple") = pure false := nsub _ _
theorem n_int_list : isSubtype (.type "int") (.type "list") = pure false := nsub _ _
theorem n_str_int : isSubtype (.type "str") (.type "int") = pure false := nsub _ _
theorem n_str_bool : isSubtype (.type "str") (.type "bool") = pure false := nsub _ _
theorem n_str_tuple : isSubtype (.type "str") (.type "tuple") = pure false := nsub _ _
theorem n_str_list : isSubtype (.type "str") (.type "list") = pure false := nsub _ _
theorem n_bool_str : isSubtype (.type "bool") (.type "str") = pure false := nsub _ _
theorem n_bool_tuple : isSubtype (.type "bool") (.type "tuple") = pure false := nsub _ _
theorem n_tuple_int : isSubtype (.type "tuple") (.type "int") = pure false := nsub _ _
theorem n_tuple_str : isSubtype (.type "tuple") (.type "str") = pure false := nsub _ _
theorem n_tuple_bool : isSubtype (.type "tuple") (.type "bool") = pure false := nsub _ _
theorem n_tuple_list : isSubtype (.type "tuple") (.type "list") = pure false := nsub _ _
theorem n_list_int : isSubtype (.type "list") (.type "int") = pure false := nsub _ _
theorem n_list_str : isSubtype (.type "list") (.type "str") = pure false := nsub _ _
theorem n_list_tuple : isSubtype (.type "list") (.type "tuple") = pure false := nsub _ _
theorem y_int : isSubtype (.type "int") (.type "int") = pure true := ysub _ _
theorem y_str : isSubtype (.type "str") (.type "str") = pure true := ysub _ _
theorem y_bool : isSubtype (.type "bool") (.type "bool") = pure true := ysub _ _
theorem y_bool_int : isSubtype (.type "bool") (.type "int") = pure true := ysub _ _
theorem y_tuple : isSubtype (.type "tuple") (.type "tuple") = pure true := ysub _ _
theorem y_list : isSubtype (.type "list") (.type "list") = pure true := ysub _ _
theorem m_int : typeOf (.type "int") = pure (.type "type") := by kernel_rfl
theorem m_str : typeOf (.type "str") = pure (.type "type") := by kernel_rfl
theorem m_bool : typeOf (.type "bool") = pure (.type "type") := by kernel_rfl
theorem m_tuple : typeOf (.type "tuple") = pure (.type "type") := by kernel_rfl
theorem m_list : typeOf (.type "list") = pure (.type "type") := by kernel_rfl
theorem call_isi : CallR X (.builtin "isinstance") (fun xs H Q => ∃ x T b,xs = [x,.ty T] ∧ IsiB X.K H x T b ∧ Q (.bl b) H) := by
 intro pins s σ H xs us Q I r h
 obtain ⟨x,T,b,rfl,hb,q⟩ := h
 obtain ⟨u,w',rfl,rx,rT⟩ := vals2 r
 cases rT
 have fin : ∀ t,EP X pins σ Q (.bool b) { s with toks := t } := fun t => ⟨.bl b,H,I.tok t,rfl,q⟩
 have fin0 : EP X pins σ Q (.bool b) s := ⟨.bl b,H,I,rfl,q⟩
 have tup : ∀ {a xs},SqT X.K H a xs → ∃ o,s.heap.get? a = some o ∧ o.cls = .type "tuple" := fun hq => by
  obtain ⟨its,_,p,_⟩ := I.tuple hq
  obtain ⟨o,e,c,_⟩ := p
  exact ⟨o,e,c⟩
 have lst : ∀ {a xs},SqL X.K H a xs → ∃ o,s.heap.get? a = some o ∧ o.cls = .type "list" := fun hq => by
  obtain ⟨its,_,p,_⟩ := I.list hq
  obtain ⟨o,e,c,_⟩ := p.isList
  exact ⟨o,e,c⟩
 cases hb with
 | int_int => obtain ⟨t,rfl⟩ := rx; exact call_isinstance (isinstance_true (Tx := "int") m_int y_int) ⟨rfl,fin0⟩
 | int_str => obtain ⟨t,rfl⟩ := rx; exact call_isinstance (isinstance_false_int (by decide) m_str n_int_str) (fin _)
 | int_bool => obtain ⟨t,rfl⟩ := rx; exact call_isinstance (isinstance_false_int (by decide) m_bool n_int_bool) (fin _)
 | int_tuple => obtain ⟨t,rfl⟩ := rx; exact call_isinstance (isinstance_false_int (by decide) m_tuple n_int_tuple) (fin _)
 | int_list => obtain ⟨t,rfl⟩ := rx; exact call_isinstance (isinstance_false_int (by decide) m_list n_int_list) (fin _)
 | str_int => obtain ⟨t,rfl⟩ := rx; exact call_isinstance (isinstance_false_str (by decide) m_int n_str_int) (fin _)
 | str_str => obtain ⟨t,rfl⟩ := rx; exact call_isinstance (isinstance_true (Tx := "str") m_str y_str) ⟨rfl,fin0⟩
 | str_bool => obtain ⟨t,rfl⟩ := rx; exact call_isinstance (isinstance_false_str (by decide) m_bool n_str_bool) (fin _)
 | str_tuple => obtain ⟨t,rfl⟩ := rx; exact call_isinstance (isinstance_false_str (by decide) m_tuple n_str_tuple) (fin _)
 | str_list => obtain ⟨t,rfl⟩ := rx; exact call_isinstance (isinstance_false_str (by decide) m_list n_str_list) (fin _)
 | bl_int => cases rx; exact call_isinstance (isinstance_true (Tx := "bool") m_int y_bool_int) ⟨rfl,fin0⟩
 | bl_bool => cases rx; exact call_isinstance (isinstance_true (Tx := "bool") m_bool y_bool) ⟨rfl,fin0⟩
 | bl_str => cases rx; exact call_isinstance (isinstance_false_bool (by decide) m_str n_bool_str) (fin _)
 | bl_tuple => cases rx; exact call_isinstance (isinstance_false_bool (by decide) m_tuple n_bool_tuple) (fin _)
 | tup_int hq => cases rx; exact call_isinstance (isinstance_false_tuple (by decide) m_int n_tuple_int) ⟨tup hq,fin _⟩
 | tup_str hq => cases rx; exact call_isinstance (isinstance_false_tuple (by decide) m_str n_tuple_str) ⟨tup hq,fin _⟩
 | tup_bool hq => cases rx; exact call_isinstance (isinstance_false_tuple (by decide) m_bool n_tuple_bool) ⟨tup hq,fin _⟩
 | tup_tuple hq => cases rx; exact call_isinstance (isinstance_true (Tx := "tuple") m_tuple y_tuple) ⟨tup hq,fin0⟩
 | tup_list hq => cases rx; exact call_isinstance (isinstance_false_tuple (by decide) m_list n_tuple_list) ⟨tup hq,fin _⟩
 | lst_int hq => cases rx; exact call_isinstance (isinstance_false_list (by decide) m_int n_list_int) ⟨lst hq,fin _⟩
 | lst_str hq => cases rx; exact call_isinstance (isinstance_false_list (by decide) m_str n_list_str) ⟨lst hq,fin _⟩
 | lst_tuple hq => cases rx; exact call_isinstance (isinstance_false_list (by decide) m_tuple n_list_tuple) ⟨lst hq,fin _⟩
 | lst_list hq => cases rx; exact call_isinstance (isinstance_true (Tx := "list") m_list y_list) ⟨lst hq,fin0⟩
noncomputable def bls : List Bool → List V := List.map V.bl
end
end L2
set_option Elab.async false
set_option linter.all false
set_option maxRecDepth 100000
set_option maxHeartbeats 4000000
namespace L2
open PySem PySem.Spec PyProof.Rows
section
variable {X : Cx}
theorem call_any : CallR X (.builtin "any") (fun xs H Q => ∃ p ys,xs = [.ref p] ∧ X.calm = true ∧ SqL X.K H p (bls ys) ∧ Q (.bl (ys.any id)) H) := by
 intro pins s σ H xs us Q I r h
 obtain ⟨p,ys,rfl,hcm,hq,q⟩ := h
 obtain ⟨u,rfl,rx⟩ := vals1 r
 cases rx
 obtain ⟨its,r',pl,hz⟩ := I.list hq
 have hh : X.A.in1.handled = none := I.ok.hd hcm
 have hne : p ≠ s.heap.objs.size := by
  obtain ⟨o,e,_⟩ := pl.isList
  exact Nat.ne_of_lt (Heap.lt_size e)
 have hlen : its.length = ys.length := by rw [← r'.length]; simp [bls]
 refine call_any_walk (wpAny_pyIter_list pl.isList ⟨s.heap.objs.size,_,_,_,_,_,fun i => ys.getD i false,rfl,Walks.list hh _ p hne its.toArray,⟨⟨_,Heap.get?_push_size _ rfl,rfl,rfl⟩,pl.isList.at fun o e => Heap.get?_push_of_some _ e⟩,?_,?_⟩)
 ·intro i v s' Q' E' hv hQ
  have hv' : its[i]? = some v := by simpa using hv
  have hi : i < ys.length := by
   rw [← hlen]
   exact (List.getElem?_eq_some_iff.mp hv').1
  have e1 : (bls ys)[i]? = some (V.bl ys[i]) := by simp [bls,hi]
  obtain ⟨u,hu,ru⟩ := r'.get e1
  rw [hv'] at hu
  obtain rfl := Option.some.inj hu
  cases ru
  refine wpAny_truthy_bool ?_
  have e2 : ys.getD i false = ys[i] := by simp [List.getD_eq_getElem?_getD,hi]
  have hQ' : Q' (ys.getD i false) s' := hQ
  rw [e2] at hQ'
  exact hQ'
 ·intro h' tk kk
  have e3 : (List.range its.toArray.size).any (fun i => ys.getD i false) = ys.any id := by
   rw [List.size_toArray,hlen]
   rw [Bool.eq_iff_iff,List.any_eq_true,List.any_eq_true]
   constructor
   ·rintro ⟨i,hi,g⟩
    have hi' := List.mem_range.mp hi
    exact ⟨ys[i],List.getElem_mem hi',by simpa [List.getD_eq_getElem?_getD,hi'] using g⟩
   ·rintro ⟨x,hx,g⟩
    obtain ⟨i,hi,rfl⟩ := List.mem_iff_getElem.mp hx
    exact ⟨i,List.mem_range.mpr hi,by simpa [List.getD_eq_getElem?_getD,hi] using g⟩
  rw [e3]
  refine ⟨.bl _,H,?_,rfl,q⟩
  have I1 : Inv X pins σ H { s with heap := s.heap.push { cls := .type "list_iterator",data := .fields #[.ref p,.int 0 0] } } := I.kept (t' := s.toks) fun b o e => Heap.get?_push_of_some _ e
  exact I.kept (t' := tk) fun b o e => kk b o (by
   intro z
   have z' : b = s.heap.objs.size := by simpa using z
   exact absurd (Heap.lt_size e) (by rw [z']; exact Nat.lt_irrefl _)) (Heap.get?_push_of_some _ e)
theorem preSum_take (ns : List Int) : ∀ n,n ≤ ns.length → preSum (fun i => ns.getD i 0) n = (ns.take n).sum
 | 0,_ => by simp [preSum]
 | n + 1,h => by
  have hn : n < ns.length := h
  rw [preSum,preSum_take ns n (Nat.le_of_lt hn),List.take_add_one,List.sum_append]
  simp [List.getD_eq_getElem?_getD,hn]
theorem call_sum : CallR X (.builtin "sum") (fun xs H Q => ∃ (p : Addr) (ns : List Int),xs = [.ref p] ∧ X.calm = true ∧ SqL X.K H p (ns.map V.int) ∧ Q (.int ns.sum) H) := by
 intro pins s σ H xs us Q I r h
 obtain ⟨p,ns,rfl,hcm,hq,q⟩ := h
 obtain ⟨u,rfl,rx⟩ := vals1 r
 cases rx
 obtain ⟨its,r',pl,hz⟩ := I.list hq
 have hh : X.A.in1.handled = none := I.ok.hd hcm
 have hlt : p < s.heap.objs.size := by
  obtain ⟨o,e,_⟩ := pl.isList
  exact Heap.lt_size e
 have hne : p ≠ s.heap.objs.size := Nat.ne_of_lt hlt
 have hlen : its.length = ns.length := by rw [← r'.length]; simp
 refine call_sum_walkG (wpAny_pyIter_list pl.isList ⟨s.heap.objs.size,_,_,_,_,_,fun i => ns.getD i 0,rfl,Walks.list hh _ p hne its.toArray,⟨⟨_,Heap.get?_push_size _ rfl,rfl,rfl⟩,pl.isList.at fun o e => Heap.get?_push_of_some _ e⟩,?_,?_,?_⟩)
 ·intro b hb
  have hb' : b = s.heap.objs.size ∨ b = p := by simpa using hb
  show b < (s.heap.push _).objs.size
  rw [Heap.size_push]
  rcases hb' with e | e
  ·exact e ▸ Nat.lt_succ_self _
  ·exact Nat.lt_succ_of_lt (e ▸ hlt)
 ·intro i v hv
  have hv' : its[i]? = some v := by simpa using hv
  have hi : i < ns.length := by
   rw [← hlen]
   exact (List.getElem?_eq_some_iff.mp hv').1
  have e1 : (ns.map V.int)[i]? = some (V.int ns[i]) := by simp [hi]
  obtain ⟨u,hu,ru⟩ := r'.get e1
  rw [hv'] at hu
  obtain rfl := Option.some.inj hu
  obtain ⟨t,rfl⟩ := ru
  exact ⟨t,by simp [List.getD_eq_getElem?_getD,hi]⟩
 ·intro h' tk t' kk
  have e3 : preSum (fun i => ns.getD i 0) its.toArray.size = ns.sum := by
   rw [List.size_toArray,hlen,preSum_take ns _ (Nat.le_refl _),List.take_length]
  rw [e3]
  refine ⟨.int _,H,?_,⟨_,rfl⟩,q⟩
  exact I.kept (t' := tk) fun b o e => kk b o (by
   intro z
   have z' : b = s.heap.objs.size := by simpa using z
   exact absurd (Heap.lt_size e) (by rw [z']; exact Nat.lt_irrefl _)) (Heap.get?_push_of_some _ e)
noncomputable def rSlS : V → Option Int → Option Int → Hp → VK → Prop := fun x lo hi H Q => ∃ z,x = .str z ∧ z.length ≤ sizeLine ∧ Q (.str (Txt.slice z lo hi)) H
theorem sl_str : SlR X rSlS := by
 intro pins s σ H x v vl vu lo hi sl Q I rx hs pl pu h
 obtain ⟨z,rfl,hz,q⟩ := h
 obtain ⟨t,rfl⟩ := rx
 refine ⟨"str",_,F.slot_str_getitem.lookup,typeIs_str _ _ _,?_⟩
 have fin : ∀ t' k,EP X pins σ Q (.str (Txt.slice z lo hi) t') { s with toks := k } := fun t' k => ⟨.str _,H,I.tok k,⟨t',rfl⟩,q⟩
 cases pl with
 | none =>
  cases pu with
  | none => exact wpAny_getItem_str_slice (l := none) (u := none) (st := none) hs rfl (post_val_or_str ⟨Nat.le_trans (Txt.slice_le z _ _) hz,fun t' k => fin t' k⟩)
  | int j uj => exact wpAny_getItem_str_slice (l := none) (u := some (j,uj)) (st := none) hs rfl (post_val_or_str ⟨Nat.le_trans (Txt.slice_le z _ _) hz,fun t' k => fin t' k⟩)
 | int i ui =>
  cases pu with
  | none => exact wpAny_getItem_str_slice (l := some (i,ui)) (u := none) (st := none) hs rfl (post_val_or_str ⟨Nat.le_trans (Txt.slice_le z _ _) hz,fun t' k => fin t' k⟩)
  | int j uj => exact wpAny_getItem_str_slice (l := some (i,ui)) (u := some (j,uj)) (st := none) hs rfl (post_val_or_str ⟨Nat.le_trans (Txt.slice_le z _ _) hz,fun t' k => fin t' k⟩)
end
end L2
set_option Elab.async false
set_option linter.all false
set_option maxRecDepth 100000
set_option maxHeartbeats 4000000
namespace L2
open PySem PySem.Spec PyProof.Rows
theorem same_new {H : Hp} {p : Addr} (h : H p = none) (o : HO) : Same H (upd H p o) := fun b u q => by rw [upd_ne (ne_of_none q h)]; exact q
noncomputable def But (r : Addr) (H H' : Hp) : Prop := ∀ b o,b ≠ r → H b = some o → H' b = some o
theorem But.refl (r : Addr) (H : Hp) : But r H H := fun _ _ _ h => h
theorem But.trans {r : Addr} {H H1 H2 : Hp} (a : But r H H1) (b : But r H1 H2) : But r H H2 := fun c o n h => b c o n (a c o n h)
theorem But.same {r : Addr} {H H1 : Hp} (a : Same H H1) : But r H H1 := fun c o _ h => a c o h
theorem But.put {r : Addr} {H : Hp} {o : HO} : But r H (upd H r o) := fun c u n h => by rw [upd_ne n]; exact h
theorem But.tup {K : PySem.W.Frag} {r : Addr} {H H' : Hp} {a : Addr} {xs : List V} (e : But r H H') (n : a ≠ r) (h : SqT K H a xs) : SqT K H' a xs := by
 rcases h with (h | ⟨o,h⟩) | h
 ·exact .inl (.inl (e _ _ n h))
 ·exact .inl (.inr ⟨o,e _ _ n h⟩)
 ·exact .inr h
theorem Same.tup {K : PySem.W.Frag} {H H' : Hp} {a : Addr} {xs : List V} (e : Same H H') (h : SqT K H a xs) : SqT K H' a xs := by
 rcases h with (h | ⟨o,h⟩) | h
 ·exact .inl (.inl (e _ _ h))
 ·exact .inl (.inr ⟨o,e _ _ h⟩)
 ·exact .inr h
theorem cs0 {X : Cx} {scope : Scope} {NL : List Str} (h1 : scope.kind = .function) (h2 : (scope.names.all fun x => x.2 != .cell && x.2 != .free) = true)
  (h3 : ∀ x ∈ scope.names,x.2 = .local → scope.names.lookup x.1 = some .local) : CScope X scope NL [] NL := by
 rw [List.all_eq_true] at h2
 refine ⟨h1,fun x hx e => ?_,h3,fun x hx e => ?_,by simp,fun j hj => by simp at hj⟩
 ·have := h2 x hx
  rw [e] at this
  exact absurd this (by decide)
 ·have := h2 x hx
  rw [e] at this
  exact absurd this (by decide)
theorem comp_range {lo : Int} {n : Nat} {l : Addr} {g : TG} {tb : List V → Addr → St → Hp → (List V → St → Hp → Prop) → Prop} {Q : VK} {σ0 : St} {H0 : Hp} (Pv : Nat → List V → St → Hp → Prop) (h0 : Pv 0 [] σ0 H0)
  (hs : ∀ i ys σ H (N : List V → St → Hp → Prop),i < n → Pv i ys σ H → (∀ ys' σ' H',Pv (i + 1) ys' σ' H' → N ys' σ' H') → g (.int (lo + i)) σ H fun σ2 H2 => tb ys l σ2 H2 N)
  (hd : ∀ ys σ H,Pv n ys σ H → Q (.ref l) H) :
  ∃ W : Nat → Nat → List V → St → Hp → Prop,(∃ m,W 0 m [] σ0 H0) ∧ ∀ i m ys σ' H',W i m ys σ' H' → ((Itr lo n).stop i H' ∧ Q (.ref l) H') ∨
   ((Itr lo n).go i H' ∧ ∀ x H'',(Itr lo n).yld i H' x H'' → g x σ' H'' fun σ2 H2 => tb ys l σ2 H2 fun ys' σ3 H3 => ∃ m',m' < m ∧ W (i + 1) m' ys' σ3 H3) := by
 refine ⟨fun i m ys σ H => m = n - i ∧ i ≤ n ∧ Pv i ys σ H,⟨n,by simp,Nat.zero_le _,h0⟩,?_⟩
 rintro i m ys σ H ⟨rfl,hi,p⟩
 by_cases hlt : i < n
 ·refine .inr ⟨hlt,fun x H' y => ?_⟩
  obtain ⟨e,rfl⟩ := y
  subst e
  exact hs i ys σ _ _ hlt p fun ys' σ' H' q => ⟨_,by lia,rfl,hlt,q⟩
 ·have e : i = n := by lia
  subst e
  exact .inl ⟨Nat.le_refl _,hd ys σ H p⟩
theorem comp_list {K : PySem.W.Frag} {a : Addr} {xs : List V} {l : Addr} {g : TG} {tb : List V → Addr → St → Hp → (List V → St → Hp → Prop) → Prop} {Q : VK} {σ0 : St} {H0 : Hp} (Pv : Nat → List V → St → Hp → Prop) (h0 : Pv 0 [] σ0 H0) (hl : ∀ i ys σ H,i ≤ xs.length → Pv i ys σ H → SqL K H a xs)
  (hs : ∀ i x ys σ H (N : List V → St → Hp → Prop),xs[i]? = some x → Pv i ys σ H → (∀ ys' σ' H',Pv (i + 1) ys' σ' H' → N ys' σ' H') → g x σ H fun σ2 H2 => tb ys l σ2 H2 N)
  (hd : ∀ ys σ H,Pv xs.length ys σ H → Q (.ref l) H) :
  ∃ W : Nat → Nat → List V → St → Hp → Prop,(∃ m,W 0 m [] σ0 H0) ∧ ∀ i m ys σ' H',W i m ys σ' H' → ((Itl K a).stop i H' ∧ Q (.ref l) H') ∨
   ((Itl K a).go i H' ∧ ∀ x H'',(Itl K a).yld i H' x H'' → g x σ' H'' fun σ2 H2 => tb ys l σ2 H2 fun ys' σ3 H3 => ∃ m',m' < m ∧ W (i + 1) m' ys' σ3 H3) := by
 refine ⟨fun i m ys σ H => m = xs.length - i ∧ i ≤ xs.length ∧ Pv i ys σ H,⟨xs.length,by simp,Nat.zero_le _,h0⟩,?_⟩
 rintro i m ys σ H ⟨rfl,hi,p⟩
 have q := hl i ys σ H hi p
 by_cases hlt : i < xs.length
 ·refine .inr ⟨⟨xs,xs[i],q,by simp [hlt]⟩,fun x H' y => ?_⟩
  obtain ⟨e,y⟩ := y
  subst e
  exact hs i x ys σ _ _ (y xs q) p fun ys' σ' H' q => ⟨_,by lia,rfl,hlt,q⟩
 ·have e : i = xs.length := by lia
  subst e
  exact .inl ⟨⟨xs,q,Nat.le_refl _⟩,hd ys σ H p⟩
theorem comp_tup {K : PySem.W.Frag} {a : Addr} {xs : List V} {l : Addr} {g : TG} {tb : List V → Addr → St → Hp → (List V → St → Hp → Prop) → Prop} {Q : VK} {σ0 : St} {H0 : Hp} (Pv : Nat → List V → St → Hp → Prop) (h0 : Pv 0 [] σ0 H0) (hl : ∀ i ys σ H,i ≤ xs.length → Pv i ys σ H → SqT K H a xs)
  (hs : ∀ i x ys σ H (N : List V → St → Hp → Prop),xs[i]? = some x → Pv i ys σ H → (∀ ys' σ' H',Pv (i + 1) ys' σ' H' → N ys' σ' H') → g x σ H fun σ2 H2 => tb ys l σ2 H2 N)
  (hd : ∀ ys σ H,Pv xs.length ys σ H → Q (.ref l) H) :
  ∃ W : Nat → Nat → List V → St → Hp → Prop,(∃ m,W 0 m [] σ0 H0) ∧ ∀ i m ys σ' H',W i m ys σ' H' → ((Itt K a).stop i H' ∧ Q (.ref l) H') ∨
   ((Itt K a).go i H' ∧ ∀ x H'',(Itt K a).yld i H' x H'' → g x σ' H'' fun σ2 H2 => tb ys l σ2 H2 fun ys' σ3 H3 => ∃ m',m' < m ∧ W (i + 1) m' ys' σ3 H3) := by
 refine ⟨fun i m ys σ H => m = xs.length - i ∧ i ≤ xs.length ∧ Pv i ys σ H,⟨xs.length,by simp,Nat.zero_le _,h0⟩,?_⟩
 rintro i m ys σ H ⟨rfl,hi,p⟩
 have q := hl i ys σ H hi p
 by_cases hlt : i < xs.length
 ·refine .inr ⟨⟨xs,xs[i],q,by simp [hlt]⟩,fun x H' y => ?_⟩
  obtain ⟨e,y⟩ := y
  subst e
  exact hs i x ys σ _ _ (y xs q) p fun ys' σ' H' q => ⟨_,by lia,rfl,hlt,q⟩
 ·have e : i = xs.length := by lia
  subst e
  exact .inl ⟨⟨xs,q,Nat.le_refl _⟩,hd ys σ H p⟩
theorem pe_gty {X : Cx} {x : Str} {n : String} {pos : Pos} (hg : Gl X x) (hm : X.mg x = none) (hv : bootBuiltins x = some (.type n)) (hn : x ≠ "__name__" := by decide) (hd : (x == ("__debug__" : Str)) = false := by decide) : PE X (.Name x pos) (tC (.ty n)) := pe_bltn hg hm hv rfl hn hd
structure Gn (K : PySem.W.Frag) (mg : Str → Option Value) (x : Str) (st : Stmt) (ps : List Str) (f : Addr) (fd : FuncData) : Prop where
 F : Fun K x x st f fd
 b : Binds K fd ps []
 m : mg x = some (.ref f)
end L2
set_option Elab.async false
set_option linter.all false
set_option maxRecDepth 100000
set_option maxHeartbeats 4000000
namespace L2
open PySem PySem.Spec PyProof.Rows
inductive Dt where
 | non | bl (b : Bool) | int (i : Int) | str (z : Str) | tup (l : List Dt)
mutual
inductive IsD (K : PySem.W.Frag) (H : Hp) : Dt → V → Prop
 | non : IsD K H .non .non
 | bl {b} : IsD K H (.bl b) (.bl b)
 | int {i} : IsD K H (.int i) (.int i)
 | str {z} : IsD K H (.str z) (.str z)
 | tup {l : List Dt} {a : Addr} {xs : List V} : SqT K H a xs → IsDs K H l xs → IsD K H (.tup l) (.ref a)
inductive IsDs (K : PySem.W.Frag) (H : Hp) : List Dt → List V → Prop
 | nil : IsDs K H [] []
 | cons {d : Dt} {l : List Dt} {x : V} {xs : List V} : IsD K H d x → IsDs K H l xs → IsDs K H (d :: l) (x :: xs)
end
mutual
noncomputable def Dt.dep : Dt → Nat
 | .tup l => depS l + 1
 | _ => 0
noncomputable def depS : List Dt → Nat
 | [] => 0
 | d :: l => max d.dep (depS l)
end
mutual
noncomputable def eqD : Dt → Dt → Bool
 | .non,.non => true
 | .bl a,.bl b => a == b
 | .bl a,.int i => (if a then 1 else 0) == i
 | .int i,.bl a => i == (if a then 1 else 0)
 | .int i,.int j => i == j
 | .str x,.str y => x == y
 | .tup l,.tup m => eqDs l m
 | _,_ => false
noncomputable def eqDs : List Dt → List Dt → Bool
 | [],[] => true
 | d :: l,e :: m => eqD d e && eqDs l m
 | _,_ => false
end
mutual
noncomputable def Dt.plain : Dt → Bool
 | .bl _ => false
 | .tup l => plainS l
 | _ => true
noncomputable def plainS : List Dt → Bool
 | [] => true
 | d :: l => d.plain && plainS l
end
mutual
theorem eqD_refl : ∀ d : Dt,eqD d d = true
 | .non => rfl
 | .bl a => by simp [eqD]
 | .int i => by simp [eqD]
 | .str z => by simp [eqD]
 | .tup l => by simp only [eqD]; exact eqDs_refl l
theorem eqDs_refl : ∀ l : List Dt,eqDs l l = true
 | [] => rfl
 | d :: l => by simp only [eqDs,eqD_refl d,eqDs_refl l,Bool.and_self]
end
mutual
theorem eqD_eq : ∀ d e : Dt,d.plain = true → e.plain = true → eqD d e = true → d = e
 | .non,e,_,_,h => by cases e <;> simp_all [eqD]
 | .bl _,_,h,_,_ => by simp [Dt.plain] at h
 | .int i,e,_,he,h => by cases e <;> simp_all [eqD,Dt.plain]
 | .str z,e,_,_,h => by cases e <;> simp_all [eqD]
 | .tup l,e,hd,he,h => by
  cases e with
  | tup m => rw [eqDs_eq l m (by simpa [Dt.plain] using hd) (by simpa [Dt.plain] using he) (by simpa [eqD] using h)]
  | _ => simp [eqD] at h
theorem eqDs_eq : ∀ l m : List Dt,plainS l = true → plainS m = true → eqDs l m = true → l = m
 | [],[],_,_,_ => rfl
 | [],_ :: _,_,_,h => by simp [eqDs] at h
 | _ :: _,[],_,_,h => by simp [eqDs] at h
 | d :: l,e :: m,hl,hm,h => by
  simp only [plainS,Bool.and_eq_true] at hl hm
  simp only [eqDs,Bool.and_eq_true] at h
  rw [eqD_eq d e hl.1 hm.1 h.1,eqDs_eq l m hl.2 hm.2 h.2]
end
section
variable {K : PySem.W.Frag} {H H' : Hp}
mutual
theorem IsD.same (g : Same H H') : ∀ {d : Dt} {v : V},IsD K H d v → IsD K H' d v
 | _,_,.non => .non
 | _,_,.bl => .bl
 | _,_,.int => .int
 | _,_,.str => .str
 | _,_,.tup h r => .tup (g.tup h) (IsDs.same g r)
theorem IsDs.same (g : Same H H') : ∀ {l : List Dt} {xs : List V},IsDs K H l xs → IsDs K H' l xs
 | _,_,.nil => .nil
 | _,_,.cons h r => .cons (IsD.same g h) (IsDs.same g r)
end
theorem sqT_ne {a r : Addr} {xs ys : List V} (hr : H r = some (.lst ys)) (h : SqT K H a xs) : a ≠ r ∨ ∀ H'',SqT K H'' a xs := by
 rcases h with (h | ⟨o,h⟩) | h
 ·exact .inl (ne_of h hr (by intro z; cases z))
 ·exact .inl (ne_of h hr (by intro z; cases z))
 ·exact .inr fun _ => .inr h
mutual
theorem IsD.but {r : Addr} {ys : List V} (hr : H r = some (.lst ys)) (g : But r H H') : ∀ {d : Dt} {v : V},IsD K H d v → IsD K H' d v
 | _,_,.non => .non
 | _,_,.bl => .bl
 | _,_,.int => .int
 | _,_,.str => .str
 | _,_,.tup h q => .tup (by
   rcases sqT_ne hr h with n | n
   ·exact g.tup n h
   ·exact n _) (IsDs.but hr g q)
theorem IsDs.but {r : Addr} {ys : List V} (hr : H r = some (.lst ys)) (g : But r H H') : ∀ {l : List Dt} {xs : List V},IsDs K H l xs → IsDs K H' l xs
 | _,_,.nil => .nil
 | _,_,.cons h q => .cons (IsD.but hr g h) (IsDs.but hr g q)
end
theorem IsDs.length {l : List Dt} {xs : List V} (h : IsDs K H l xs) : l.length = xs.length := by
 induction l generalizing xs with
 | nil => cases h; rfl
 | cons d l ih => cases h with | cons _ r => simp [ih r]
theorem IsDs.get {l : List Dt} {xs : List V} (h : IsDs K H l xs) {i : Nat} {d : Dt} (e : l[i]? = some d) : ∃ x,xs[i]? = some x ∧ IsD K H d x := by
 induction l generalizing xs i with
 | nil => simp at e
 | cons c l ih =>
  cases h with
  | cons h r =>
   cases i with
   | zero => simp at e; subst e; exact ⟨_,rfl,h⟩
   | succ i => exact ih r (by simpa using e)
end
section
variable {X : Cx} {pins : List (Addr × Obj)} {σ : St} {H : Hp} {s : Shared}
mutual
theorem IsD.inj (I : Inv X pins σ H s) : ∀ {d e : Dt} {v : V},IsD X.K H d v → IsD X.K H e v → d = e
 | _,_,_,.non,.non => rfl
 | _,_,_,.bl,.bl => rfl
 | _,_,_,.int,.int => rfl
 | _,_,_,.str,.str => rfl
 | _,_,_,.tup h r,.tup h' r' => by
  have e := I.tuple_inj h h'
  subst e
  rw [IsDs.inj I r r']
theorem IsDs.inj (I : Inv X pins σ H s) : ∀ {l m : List Dt} {xs : List V},IsDs X.K H l xs → IsDs X.K H m xs → l = m
 | _,_,_,.nil,.nil => rfl
 | _,_,_,.cons h r,.cons h' r' => by rw [IsD.inj I h h',IsDs.inj I r r']
end
theorem eqDs_range : ∀ (l m : List Dt),eqDs l m = ((List.range (min l.length m.length)).all (fun j => eqD (l.getD j .non) (m.getD j .non)) && l.length == m.length)
 | [],[] => rfl
 | [],_ :: _ => by simp [eqDs]
 | _ :: _,[] => by simp [eqDs]
 | d :: l,e :: m => by
  simp only [eqDs,List.length_cons]
  rw [eqDs_range l m,Nat.succ_min_succ,List.range_succ_eq_map,List.all_cons,List.all_map]
  have e1 : (l.length + 1 == m.length + 1) = (l.length == m.length) := by
   rw [Bool.eq_iff_iff]; simp
  rw [e1,Bool.and_assoc]
  rfl
theorem depS_get : ∀ {l : List Dt} {j : Nat},j < l.length → (l.getD j .non).dep ≤ depS l
 | [],_,h => by simp at h
 | d :: l,0,_ => by simp only [List.getD_cons_zero,depS]; lia
 | d :: l,j + 1,h => by
  have q := @depS_get l j (by simpa using h)
  simp only [List.getD_cons_succ,depS]; lia
theorem Inv.tup' (I : Inv X pins σ H s) {a : Addr} {xs : List V} (h : SqT X.K H a xs) : ∃ its : List Value,Vals xs its ∧ s.heap.IsTuple a its.toArray := by
 obtain ⟨its,r,p,_⟩ := I.tuple h
 exact ⟨its,r,p⟩
theorem in1_units (A : Around) : A.in1.units = A.units + 1 := by
 first | rfl | simp [Around.in1]
theorem eq_D (I : Inv X pins σ H s) : ∀ (n : Nat) (d e : Dt) (x y : V) (u v : Value) (A : Around),d.dep ≤ n → IsD X.K H d x → IsD X.K H e y → RelV x u → RelV y v → A.units + n < cLine →
  SeqAt.EqAt A s u v (eqD d e) ∧ SeqAt.RcAt A s u v (eqD d e) ∧ SeqAt.RcNeAt A s u v (!eqD d e) := by
 intro n
 induction n with
 | zero =>
  intro d e x y u v A hd hx hy rx ry hu
  have hu0 : A.units < cLine := by lia
  cases hx with
  | tup h r => simp [Dt.dep] at hd
  | non =>
   cases rx
   cases hy with
   | non => cases ry; exact ⟨.same _,.none_none,.none_none⟩
   | bl => cases ry; exact ⟨.none_bool _,.none_bool _,.none_bool _⟩
   | int => obtain ⟨t,rfl⟩ := ry; exact ⟨.none_int _ _,.none_int _ _,.none_int _ _⟩
   | str => obtain ⟨t,rfl⟩ := ry; exact ⟨.none_str _ _,.none_str _ _,.none_str _ _⟩
   | tup h r => cases ry; obtain ⟨its,_,p⟩ := I.tup' h; exact ⟨.none_tuple p hu0,.none_tuple p hu0,.none_tuple p hu0⟩
  | bl =>
   cases rx
   cases hy with
   | non => cases ry; exact ⟨.bool_none _,.bool_none _,.bool_none _⟩
   | bl => cases ry; exact ⟨.bool_bool _ _,.bool_bool _ _,.bool_bool _ _⟩
   | int => obtain ⟨t,rfl⟩ := ry; exact ⟨.bool_int _ _ _,.bool_int _ _ _,.bool_int _ _ _⟩
   | str => obtain ⟨t,rfl⟩ := ry; exact ⟨.bool_str _ _ _,.bool_str _ _ _,.bool_str _ _ _⟩
   | tup h r => cases ry; obtain ⟨its,_,p⟩ := I.tup' h; exact ⟨.bool_tuple _ p hu0,.bool_tuple _ p hu0,.bool_tuple _ p hu0⟩
  | int =>
   obtain ⟨t0,rfl⟩ := rx
   cases hy with
   | non => cases ry; exact ⟨.int_none _ _,.int_none _ _,.int_none _ _⟩
   | bl => cases ry; exact ⟨.int_bool _ _ _,.int_bool _ _ _,.int_bool _ _ _⟩
   | int => obtain ⟨t,rfl⟩ := ry; exact ⟨.int_int _ _ _ _,.int_int _ _ _ _,.int_int _ _ _ _⟩
   | str => obtain ⟨t,rfl⟩ := ry; exact ⟨.int_str _ _ _ _,.int_str _ _ _ _,.int_str _ _ _ _⟩
   | tup h r => cases ry; obtain ⟨its,_,p⟩ := I.tup' h; exact ⟨.int_tuple _ _ p hu0,.int_tuple _ _ p hu0,.int_tuple _ _ p hu0⟩
  | str =>
   obtain ⟨t0,rfl⟩ := rx
   cases hy with
   | non => cases ry; exact ⟨.str_none _ _,.str_none _ _,.str_none _ _⟩
   | bl => cases ry; exact ⟨.str_bool _ _ _,.str_bool _ _ _,.str_bool _ _ _⟩
   | int => obtain ⟨t,rfl⟩ := ry; exact ⟨.str_int _ _ _ _,.str_int _ _ _ _,.str_int _ _ _ _⟩
   | str => obtain ⟨t,rfl⟩ := ry; exact ⟨.str_str _ _ _ _,.str_str _ _ _ _,.str_str _ _ _ _⟩
   | tup h r => cases ry; obtain ⟨its,_,p⟩ := I.tup' h; exact ⟨.str_tuple _ _ p hu0,.str_tuple _ _ p hu0,.str_tuple _ _ p hu0⟩
 | succ n ih =>
  intro d e x y u v A hd hx hy rx ry hu
  have hu0 : A.units < cLine := by lia
  cases hx with
  | tup h r =>
   rename_i l a xs
   cases rx
   cases hy with
   | non => cases ry; obtain ⟨its,_,p⟩ := I.tup' h; exact ⟨.tuple_none p hu0,.tuple_none p hu0,.tuple_none p hu0⟩
   | bl => cases ry; obtain ⟨its,_,p⟩ := I.tup' h; exact ⟨.tuple_bool _ p hu0,.tuple_bool _ p hu0,.tuple_bool _ p hu0⟩
   | int => obtain ⟨t,rfl⟩ := ry; obtain ⟨its,_,p⟩ := I.tup' h; exact ⟨.tuple_int _ _ p hu0,.tuple_int _ _ p hu0,.tuple_int _ _ p hu0⟩
   | str => obtain ⟨t,rfl⟩ := ry; obtain ⟨its,_,p⟩ := I.tup' h; exact ⟨.tuple_str _ _ p hu0,.tuple_str _ _ p hu0,.tuple_str _ _ p hu0⟩
   | tup h' r' =>
    rename_i m b ys
    cases ry
    obtain ⟨its,q,p⟩ := I.tup' h
    obtain ⟨its',q',p'⟩ := I.tup' h'
    have l1 : its.length = l.length := by rw [← q.length,← r.length]
    have l2 : its'.length = m.length := by rw [← q'.length,← r'.length]
    have he : ∀ j (h1 : j < its.toArray.size) (h2 : j < its'.toArray.size),SeqAt.EqAt A.in1 s its.toArray[j] its'.toArray[j] (eqD (l.getD j .non) (m.getD j .non)) := by
     intro j h1 h2
     have j1 : j < l.length := by simpa [l1] using h1
     have j2 : j < m.length := by simpa [l2] using h2
     obtain ⟨x1,ex,dx⟩ := r.get (i := j) (d := l.getD j .non) (by simp [List.getD_eq_getElem?_getD,j1])
     obtain ⟨y1,ey,dy⟩ := r'.get (i := j) (d := m.getD j .non) (by simp [List.getD_eq_getElem?_getD,j2])
     obtain ⟨u1,eu,ru⟩ := q.get ex
     obtain ⟨v1,ev,rv⟩ := q'.get ey
     have e1 : its.toArray[j] = u1 := by
      have : its[j]? = some its[j] := by simp [l1,j1]
      rw [this] at eu
      simpa using Option.some.inj eu
     have e2 : its'.toArray[j] = v1 := by
      have : its'[j]? = some its'[j] := by simp [l2,j2]
      rw [this] at ev
      simpa using Option.some.inj ev
     rw [e1,e2]
     have hdl : depS l ≤ n := by simp only [Dt.dep] at hd; lia
     exact (ih _ _ _ _ _ _ A.in1 (Nat.le_trans (depS_get j1) hdl) dx dy ru rv (by rw [in1_units]; lia)).1
    have ev : eqD (.tup l) (.tup m) = ((List.range (min its.toArray.size its'.toArray.size)).all (fun j => eqD (l.getD j .non) (m.getD j .non)) && its.toArray.size == its'.toArray.size) := by
     simp only [eqD,List.size_toArray,l1,l2]
     exact eqDs_range l m
    rw [ev]
    refine ⟨?_,SeqAt.RcAt.tuples p p' hu0 he,SeqAt.RcNeAt.tuples p p' hu0 he⟩
    by_cases hab : a = b
    ·subst hab
     have e3 := I.tuple_inj h h'
     subst e3
     have e4 := IsDs.inj I r r'
     subst e4
     rw [← ev,eqD_refl]
     exact .same _
    ·exact .of_refs hab (SeqAt.RcAt.tuples p p' hu0 he)
  | non => exact ih _ _ _ _ _ _ A (by simp [Dt.dep]) .non hy rx ry (by lia)
  | bl => exact ih _ _ _ _ _ _ A (by simp [Dt.dep]) .bl hy rx ry (by lia)
  | int => exact ih _ _ _ _ _ _ A (by simp [Dt.dep]) .int hy rx ry (by lia)
  | str => exact ih _ _ _ _ _ _ A (by simp [Dt.dep]) .str hy rx ry (by lia)
noncomputable def rNeD (K : PySem.W.Frag) : R2 := fun x y H Q => ∃ d e,IsD K H d x ∧ IsD K H e y ∧ d.dep ≤ 60 ∧ Q (.bl (!eqD d e)) H
theorem op_neD (hu : X.A.units + 64 < cLine) : OpR X (compareOp .NotEq) (rNeD X.K) := by
 intro pins s σ H x y v u Q I rx ry h
 obtain ⟨d,e,hd,he,hn,q⟩ := h
 exact (eq_D I 60 d e x y v u X.A hn hd he rx ry (by lia)).2.2 _ _ _ _ ⟨.bl _,H,I,rfl,q⟩
noncomputable def rEqL (K : PySem.W.Frag) (neg : Bool) : R2 := fun x y H Q => ∃ p b xs ys l m,x = .ref p ∧ y = .ref b ∧ SqL K H p xs ∧ SqL K H b ys ∧ IsDs K H l xs ∧ IsDs K H m ys ∧ depS l ≤ 60 ∧ Q (.bl (if neg then !eqDs l m else eqDs l m)) H
theorem eqL_items (hu : X.A.units + 64 < cLine) (I : Inv X pins σ H s) {l m : List Dt} {xs ys : List V} {its its' : List Value} (r : IsDs X.K H l xs) (r' : IsDs X.K H m ys) (q : Vals xs its) (q' : Vals ys its') (hd : depS l ≤ 60) :
  ∀ j (h1 : j < its.toArray.size) (h2 : j < its'.toArray.size),SeqAt.EqAt X.A.in1 s its.toArray[j] its'.toArray[j] (eqD (l.getD j .non) (m.getD j .non)) := by
 have l1 : its.length = l.length := by rw [← q.length,← r.length]
 have l2 : its'.length = m.length := by rw [← q'.length,← r'.length]
 intro j h1 h2
 have j1 : j < l.length := by simpa [l1] using h1
 have j2 : j < m.length := by simpa [l2] using h2
 obtain ⟨x1,ex,dx⟩ := r.get (i := j) (d := l.getD j .non) (by simp [List.getD_eq_getElem?_getD,j1])
 obtain ⟨y1,ey,dy⟩ := r'.get (i := j) (d := m.getD j .non) (by simp [List.getD_eq_getElem?_getD,j2])
 obtain ⟨u1,eu,ru⟩ := q.get ex
 obtain ⟨v1,ev,rv⟩ := q'.get ey
 have e1 : its.toArray[j] = u1 := by
  have : its[j]? = some its[j] := by simp [l1,j1]
  rw [this] at eu
  simpa using Option.some.inj eu
 have e2 : its'.toArray[j] = v1 := by
  have : its'[j]? = some its'[j] := by simp [l2,j2]
  rw [this] at ev
  simpa using Option.some.inj ev
 rw [e1,e2]
 exact (eq_D I 60 _ _ _ _ _ _ X.A.in1 (Nat.le_trans (depS_get j1) hd) dx dy ru rv (by rw [in1_units]; lia)).1
theorem op_neL (hu : X.A.units + 64 < cLine) : OpR X (compareOp .NotEq) (rEqL X.K true) := by
 intro pins s σ H x y v u Q I rx ry h
 obtain ⟨p,b,xs,ys,l,m,rfl,rfl,hp,hb,r,r',hd,q⟩ := h
 cases rx
 cases ry
 obtain ⟨its,r1,p1,_⟩ := I.list hp
 obtain ⟨its',r2,p2,_⟩ := I.list hb
 have l1 : its.length = l.length := by rw [← r1.length,← r.length]
 have l2 : its'.length = m.length := by rw [← r2.length,← r'.length]
 have he := eqL_items hu I r r' r1 r2 hd
 have hu0 : X.A.units < cLine := by lia
 by_cases hs : its.length = its'.length
 ·have ev : eqDs l m = (List.range its.toArray.size).all (fun j => eqD (l.getD j .non) (m.getD j .non)) := by
   rw [eqDs_range l m,List.size_toArray,l1]
   have e3 : l.length = m.length := by lia
   rw [← e3,Nat.min_self,beq_self_eq_true,Bool.and_true]
  refine SeqAt.RcNeAt.lists p1.isList p2.isList (by simpa using hs) hu0 he _ _ _ _ ?_
  rw [← ev]
  exact ⟨.bl _,H,I,rfl,q⟩
 ·have ev : eqDs l m = false := by
   have e3 : (l.length == m.length) = false := by simpa using (show ¬ l.length = m.length by lia)
   rw [eqDs_range l m,e3,Bool.and_false]
  refine SeqAt.RcNeAt.lists_lengths p1.isList p2.isList (by simpa using hs) hu0 _ _ _ _ ?_
  have q' : Q (.bl (!eqDs l m)) H := q
  rw [ev] at q'
  exact ⟨.bl _,H,I,rfl,q'⟩
end
end L2
set_option Elab.async false
set_option linter.all false
set_option maxRecDepth 100000
set_option maxHeartbeats 4000000
namespace PySem.W
open PySem PySem.Spec PyProof.Rows PySem.Calls
section
variable {prog : Program} {w : World} {A : Around} {E : Value → Shared → Prop} {h : Heap} {g : Array GenState} {d : Drawn} {t : Nat} {os : OsState} {a C : Addr} {o : Obj} {K : Frag}
end
end PySem.W
set_option Elab.async false
set_option linter.all false
set_option maxRecDepth 100000
set_option maxHeartbeats 4000000
namespace L2
open PySem PySem.Spec PyProof.Rows
section
variable {X : Cx} {pins : List (Addr × Obj)} {σ : St} {H : Hp} {s : Shared}
end
end L2
set_option Elab.async false
set_option linter.all false
set_option maxRecDepth 100000
set_option maxHeartbeats 4000000
namespace L2
open PySem PySem.Spec PyProof.Rows
section
variable {X : Cx} {pins : List (Addr × Obj)} {σ : St} {H : Hp} {s : Shared}
end
end L2
set_option Elab.async false
set_option linter.all false
set_option maxRecDepth 100000
set_option maxHeartbeats 4000000
namespace L2
open PySem PySem.Spec PyProof.Rows
section
variable {X : Cx} {pins : List (Addr × Obj)} {σ : St} {H : Hp} {s : Shared}
end
end L2
set_option Elab.async false
set_option linter.all false
set_option maxRecDepth 100000
set_option maxHeartbeats 4000000
namespace L2
open PySem PySem.Spec PyProof.Rows
section
variable {X : Cx} {a b c d : Expr} {ta tb tc td : TE} {pos : Pos}
end
section
variable {X : Cx}
end
end L2
set_option Elab.async false
set_option linter.all false
set_option maxRecDepth 100000
set_option maxHeartbeats 4000000
namespace L2
open PySem PySem.Spec PyProof.Rows
theorem csR {X : Cx} {scope sc : Scope} {NL N N' : List Str} {ρ : List Nat} (hsc : X.env.scope = sc) (hN : X.N = N) (h1 : scope.kind = .function) (h2 : (scope.names.all fun x => x.2 != .cell) = true) (h3 : ∀ x ∈ scope.names,x.2 = .local → scope.names.lookup x.1 = some .local)
  (h4 : (scope.names.all fun x => x.2 != .free || sc.names.lookup x.1 == some .cell) = true) (h5 : N' = NL ++ ρ.map fun j => N.getD j "")
  (h6 : (ρ.all fun j => match N[j]? with | some x => scope.names.lookup x == some .free && sc.names.lookup x == some .cell | none => false) = true) : CScope X scope NL ρ N' := by
 rw [List.all_eq_true] at h2 h4 h6
 refine ⟨h1,fun x hx e => ?_,h3,fun x hx e => .inl ?_,by rw [hN]; exact h5,fun j hj => ?_⟩
 ·have := h2 x hx
  rw [e] at this
  exact absurd this (by decide)
 ·have z := h4 x hx
  rw [e] at z
  have z2 : (sc.names.lookup x.1 == some NameKind.cell) = true := by simpa using z
  show X.env.scope.names.lookup x.1 = some .cell
  rw [hsc]
  exact beq_iff_eq.mp z2
 ·have z := h6 j hj
  cases q : N[j]? with
  | none => rw [q] at z; cases z
  | some x =>
   rw [q] at z
   simp only [Bool.and_eq_true,beq_iff_eq] at z
   exact ⟨x,by rw [hN]; exact q,z.1,.inl (by rw [hsc]; exact z.2)⟩
end L2
set_option Elab.async false
set_option linter.all false
set_option maxRecDepth 100000
set_option maxHeartbeats 4000000
namespace L2
open PySem PySem.Spec PyProof.Rows
structure RoomH (k : Nat) (A : Around) : Prop where
 dp : A.depth + 3 * k + 5 < recursionLimit
 un : A.units + 16 * k + 200 < cLine
structure FnOkH (P : Program) (w : World) (K : PySem.W.Frag) (mg : Str → Option Value) (base : Heap) (k : Nat) (f : Addr) (fd : FuncData) (ps : List Str) (sp : Sp) : Prop where
 len : ∀ vs H Q E,sp vs H Q E → vs.length = ps.length
 run : ∀ (A : Around) (outer : List Env) (s : Shared) (H : Hp) (args : Args) (us : List Value) (vs : List V) (Q : VK) (E : XK),RoomH k A → Env0 P w K mg base A outer s H → BindsTo s fd args (ps.zip us) → Vals vs us → sp vs H Q E →
  codeAny (model P w) A (.call (.ref f) args) (CR CX0 outer P w H s Q E) s
section
variable {X : Cx}
end
end L2
set_option Elab.async false
set_option linter.all false
set_option maxRecDepth 100000
set_option maxHeartbeats 4000000
namespace HT
open PySem PySem.Spec PyProof.Rows
section
variable {prog : Program} {w : World} {A : Around} {E : Value → Shared → Prop} {s : Shared}
end
end HT
namespace L2
open PySem PySem.Spec PyProof.Rows
section
variable {X : Cx}
theorem IsD.unref {K : PySem.W.Frag} {H : Hp} {l : List Dt} {v : V} (h : IsD K H (.tup l) v) : ∃ a xs,v = .ref a ∧ SqT K H a xs ∧ IsDs K H l xs := by
 cases h with
 | tup h r => exact ⟨_,_,rfl,h,r⟩
theorem call_lenD : CallR X (.builtin "len") (fun xs H Q => ∃ x l,xs = [x] ∧ IsD X.K H (.tup l) x ∧ Q (.int l.length) H) := by
 intro pins s σ H xs us Q I r h
 obtain ⟨x,l,rfl,dx,q⟩ := h
 obtain ⟨a,ys,rfl,hx,ra⟩ := dx.unref
 exact call_len_seq pins s σ H [.ref a] us Q I r ⟨a,ys,rfl,.inr hx,by rw [← ra.length]; exact q⟩
end
end L2
set_option Elab.async false
set_option linter.all false
set_option maxRecDepth 100000
set_option maxHeartbeats 4000000
namespace PySem
open Sem (wp)
section
variable {M : Model} {A : Around} {E : Value → Shared → Prop} {s : Shared}
end
end PySem
namespace L2
open PySem PySem.Spec PyProof.Rows
section
variable {X : Cx} {E : XK}
variable {pins : List (Addr × Obj)} {σ : St} {H : Hp} {s : Shared}
end
end L2
set_option Elab.async false
set_option linter.all false
set_option maxRecDepth 100000
set_option maxHeartbeats 4000000
namespace L2
open PySem PySem.Spec PyProof.Rows
section
variable {κ : Type} [DecidableEq κ]
noncomputable def valV (kvs : List (κ × V)) (k : κ) : Option V := (kvs.find? fun kv => decide (kv.1 = k)).map (·.2)
noncomputable def putK (kvs : List (κ × V)) (k : κ) (v : V) : List (κ × V) :=
 if (kvs.any fun kv => decide (kv.1 = k)) = true then kvs.map (fun kv => if kv.1 = k then (kv.1,v) else kv) else kvs ++ [(k,v)]
noncomputable def dropK (kvs : List (κ × V)) (k : κ) : List (κ × V) := kvs.filter fun kv => decide (kv.1 ≠ k)
theorem valV_pos {p : κ × V} {r : List (κ × V)} {k : κ} (e : p.1 = k) : valV (p :: r) k = some p.2 := by simp [valV,List.find?_cons,e]
theorem valV_neg {p : κ × V} {r : List (κ × V)} {k : κ} (e : ¬ p.1 = k) : valV (p :: r) k = valV r k := by simp [valV,List.find?_cons,e]
theorem valV_any (k : κ) : ∀ kvs : List (κ × V),(kvs.any fun kv => decide (kv.1 = k)) = (valV kvs k).isSome
 | [] => rfl
 | p :: r => by
  rw [List.any_cons]
  by_cases e : p.1 = k
  ·simp only [valV_pos e,decide_eq_true e,Bool.true_or,Option.isSome_some]
  ·rw [valV_neg e,decide_eq_false e,Bool.false_or]; exact valV_any k r
theorem valV_map (k j : κ) (y : V) : ∀ kvs : List (κ × V),valV (kvs.map fun kv => if kv.1 = k then (kv.1,y) else kv) j = (valV kvs j).map fun x => if j = k then y else x
 | [] => rfl
 | p :: r => by
  have ih := valV_map k j y r
  rw [List.map_cons]
  by_cases h : p.1 = k
  ·rw [if_pos h]
   by_cases e : p.1 = j
   ·rw [valV_pos (p := (p.1,y)) e,valV_pos e,Option.map_some,if_pos (e.symm.trans h)]
   ·rw [valV_neg (p := (p.1,y)) e,valV_neg e,ih]
  ·rw [if_neg h]
   by_cases e : p.1 = j
   ·rw [valV_pos (p := p) e,valV_pos e,Option.map_some,if_neg (fun z => h (e.trans z))]
   ·rw [valV_neg (p := p) e,valV_neg e,ih]
theorem valV_snoc (k j : κ) (y : V) : ∀ kvs : List (κ × V),valV kvs k = none → valV (kvs ++ [(k,y)]) j = if j = k then some y else valV kvs j
 | [],_ => by
  by_cases e : k = j
  ·rw [if_pos e.symm]; exact valV_pos (p := (k,y)) e
  ·rw [if_neg (fun z => e z.symm)]; exact valV_neg (p := (k,y)) e
 | p :: r,hn => by
  rw [List.cons_append]
  have hk : ¬ p.1 = k := fun z => by rw [valV_pos z] at hn; cases hn
  rw [valV_neg hk] at hn
  have ih := valV_snoc k j y r hn
  by_cases e : p.1 = j
  ·rw [valV_pos e,valV_pos e,if_neg (fun z => hk (e.trans z))]
  ·rw [valV_neg e,valV_neg e,ih]
theorem valV_put (kvs : List (κ × V)) (k j : κ) (y : V) : valV (putK kvs k y) j = if j = k then some y else valV kvs j := by
 unfold putK
 by_cases a : (kvs.any fun kv => decide (kv.1 = k)) = true
 ·rw [if_pos a,valV_map]
  rw [valV_any] at a
  by_cases e : j = k
  ·obtain ⟨x,hx⟩ := Option.isSome_iff_exists.mp a
   rw [if_pos e,e,hx,Option.map_some,if_pos rfl]
  ·rw [if_neg e]
   cases valV kvs j with
   | none => rfl
   | some x => rw [Option.map_some,if_neg e]
 ·rw [if_neg a]
  refine valV_snoc k j y kvs ?_
  rw [valV_any] at a
  cases q : valV kvs k with
  | none => rfl
  | some x => rw [q] at a; exact (a rfl).elim
theorem length_putK (kvs : List (κ × V)) (k : κ) (v : V) : (putK kvs k v).length ≤ kvs.length + 1 := by
 unfold putK
 split
 ·rw [List.length_map]; lia
 ·rw [List.length_append,List.length_cons,List.length_nil]; lia
theorem RelO.isSome_eq {o : Option V} {u : Option Value} (r : RelO o u) : o.isSome = u.isSome := by
 cases o with
 | none => cases u with
  | none => rfl
  | some _ => exact (show False from r).elim
 | some _ => cases u with
  | none => exact (show False from r).elim
  | some _ => rfl
theorem KV.val {kvs : List (κ × V)} {vs : List (κ × Value)} (r : KV kvs vs) (k : κ) : RelO (valV kvs k) (valueAt vs k) := by
 unfold KV at r
 induction r with
 | nil => exact True.intro
 | @cons p q ps qs h t ih =>
  obtain ⟨h1,h2⟩ := h
  by_cases e : p.1 = k
  ·have e' : q.1 = k := h1.symm.trans e
   have b : valueAt (q :: qs) k = some q.2 := by simp [valueAt,List.find?_cons,e']
   rw [valV_pos e,b]; exact h2
  ·have e' : ¬ q.1 = k := fun z => e (h1.trans z)
   have b : valueAt (q :: qs) k = valueAt qs k := by simp [valueAt,List.find?_cons,e']
   rw [valV_neg e,b]; exact ih
theorem KV.any {kvs : List (κ × V)} {vs : List (κ × Value)} (r : KV kvs vs) (k : κ) : (kvs.any fun kv => decide (kv.1 = k)) = vs.any fun kv => decide (kv.1 = k) := by
 unfold KV at r
 induction r with
 | nil => rfl
 | cons h t ih => rw [List.any_cons,List.any_cons,ih,h.1]
theorem KV.repl {kvs : List (κ × V)} {vs : List (κ × Value)} (r : KV kvs vs) (k : κ) {y : V} {u : Value} (ry : RelV y u) :
  KV (kvs.map fun kv => if kv.1 = k then (kv.1,y) else kv) (vs.map fun kv => if kv.1 = k then (kv.1,u) else kv) := by
 unfold KV at r ⊢
 induction r with
 | nil => exact .nil
 | @cons p q ps qs h t ih =>
  rw [List.map_cons,List.map_cons]
  refine .cons ?_ ih
  obtain ⟨h1,h2⟩ := h
  by_cases e : p.1 = k
  ·rw [if_pos e,if_pos (h1.symm.trans e)]; exact ⟨h1,ry⟩
  ·rw [if_neg e,if_neg (fun z => e (h1.trans z))]; exact ⟨h1,h2⟩
theorem KV.put {kvs : List (κ × V)} {vs : List (κ × Value)} (r : KV kvs vs) (k : κ) {y : V} {u : Value} (ry : RelV y u) : KV (putK kvs k y) (stored vs k u) := by
 unfold putK stored
 rw [r.any k]
 by_cases e : (vs.any fun kv => decide (kv.1 = k)) = true
 ·rw [if_pos e,if_pos e]; exact r.repl k ry
 ·rw [if_neg e,if_neg e]; exact Paired.snoc r ⟨rfl,ry⟩
theorem KV.keys {kvs : List (κ × V)} {vs : List (κ × Value)} (r : KV kvs vs) : kvs.map (·.1) = vs.map (·.1) := by
 unfold KV at r
 induction r with
 | nil => rfl
 | cons h t ih => rw [List.map_cons,List.map_cons,ih,h.1]
theorem KV.length {kvs : List (κ × V)} {vs : List (κ × Value)} (r : KV kvs vs) : kvs.length = vs.length := Paired.length r
end
theorem kV_is {P : Program} {w : World} {k : Key} {u : Value} (r : RelV (kV k) u) : (mixKind P w).is k u = true := by
 cases k with
 | inl i => obtain ⟨t,e⟩ := (show ∃ t,u = Value.int i t from r); subst e; exact mixKind_int P w i t
 | inr x => obtain ⟨t,e⟩ := (show ∃ t,u = Value.str x t from r); subst e; exact mixKind_str P w x t
theorem items_are {P : Program} {w : World} : ∀ {ks : List Key} {us : List Value},Vals (ks.map kV) us → ItemsAre (mixKind P w) ks us
 | [],_,r => by rw [List.map_nil] at r; cases r; exact .nil
 | k :: ks,_,r => by
  rw [List.map_cons] at r
  cases r with
  | cons h t => exact .cons (kV_is h) (items_are t)
noncomputable abbrev KT (H : Hp) : List (List Key × V) → List (List Key × Addr × Value) → Prop := Paired fun p q => p.1 = q.1 ∧ H q.2.1 = some (.tup (p.1.map kV)) ∧ RelV p.2 q.2.2
theorem KT.val {H : Hp} {kvs : List (List Key × V)} {xs : List (List Key × Addr × Value)} (r : KT H kvs xs) (k : List Key) : RelO (valV kvs k) ((atKey xs k).map (·.2)) := by
 induction r with
 | nil => exact True.intro
 | @cons p q ps qs h t ih =>
  obtain ⟨h1,_,h2⟩ := h
  by_cases e : p.1 = k
  ·have e' : q.1 = k := h1.symm.trans e
   have b : atKey (q :: qs) k = some q.2 := by simp [atKey,List.find?_cons,e']
   rw [valV_pos e,b]; exact h2
  ·have e' : ¬ q.1 = k := fun z => e (h1.trans z)
   have b : atKey (q :: qs) k = atKey qs k := by simp [atKey,List.find?_cons,e']
   rw [valV_neg e,b]; exact ih
theorem KT.repl {H : Hp} {kvs : List (List Key × V)} {xs : List (List Key × Addr × Value)} (r : KT H kvs xs) (k : List Key) {y : V} {u : Value} (ry : RelV y u) :
  KT H (kvs.map fun kv => if kv.1 = k then (kv.1,y) else kv) (xs.map (putAt k u)) := by
 induction r with
 | nil => exact .nil
 | @cons p q ps qs h t ih =>
  rw [List.map_cons,List.map_cons]
  refine .cons ?_ ih
  obtain ⟨h1,h2,h3⟩ := h
  unfold putAt
  by_cases e : p.1 = k
  ·rw [if_pos e,if_pos (h1.symm.trans e)]; exact ⟨h1,h2,ry⟩
  ·rw [if_neg e,if_neg (fun z => e (h1.trans z))]; exact ⟨h1,h2,h3⟩
theorem KT.put {H : Hp} {kvs : List (List Key × V)} {xs : List (List Key × Addr × Value)} (r : KT H kvs xs) (k : List Key) {b : Addr} {y : V} {u : Value} (hb : H b = some (.tup (k.map kV))) (ry : RelV y u) :
  KT H (putK kvs k y) (storedH xs k b u) := by
 have e : (kvs.any fun kv => decide (kv.1 = k)) = (atKey xs k).isSome := by
  rw [valV_any,(r.val k).isSome_eq,Option.isSome_map]
 unfold putK storedH
 rw [e]
 by_cases q : (atKey xs k).isSome = true
 ·rw [if_pos q,if_pos q]; exact r.repl k ry
 ·rw [if_neg q,if_neg q]; exact Paired.snoc r ⟨rfl,hb,ry⟩
theorem KT.keeps {H H' : Hp} {kvs : List (List Key × V)} {xs : List (List Key × Addr × Value)} (r : KT H kvs xs) (ht : ∀ b ys,H b = some (.tup ys) → H' b = some (.tup ys)) : KT H' kvs xs :=
 Paired.mapP r fun _ _ z => ⟨z.1,ht _ _ z.2.1,z.2.2⟩
section
variable {P : Program} {w : World} {H : Hp} {h : Heap} {a : Addr}
theorem rd_of {u : HO} (ok : HOk P w H h) (e : Rd H a u) : ObjOk P w H h a u := e.ok ok
theorem dk_rd {kvs : List (Key × V)} (ok : HOk P w H h) (e : Rd H a (.dK kvs)) : kvs.length ≤ sizeLine ∧ (a == sysModules) = false ∧ ∃ vs,KV kvs vs ∧ h.DictOf (mixKind P w) a vs :=
 show ObjOk P w H h a (.dK kvs) from rd_of ok e
theorem dk_of {kvs : List (Key × V)} (ok : HOk P w H h) (e : H a = some (.dK kvs)) : kvs.length ≤ sizeLine ∧ (a == sysModules) = false ∧ ∃ vs,KV kvs vs ∧ h.DictOf (mixKind P w) a vs := dk_rd ok (.inl e)
theorem key_of {ks : List Key} (ok : HOk P w H h) (e : H a = some (.tup (ks.map kV))) : (tupleKind (mixKind P w)).is h ks a := by
 obtain ⟨_,its,r,o,h1,h2,n,h3⟩ := (show ObjOk P w H h a (.tup (ks.map kV)) from ok a _ e)
 exact ⟨o,its.toArray,n,h1,h2,h3,by simpa using items_are r⟩
theorem dt_rd {kvs : List (List Key × V)} (ok : HOk P w H h) (e : Rd H a (.dT kvs)) : kvs.length ≤ sizeLine ∧ (a == sysModules) = false ∧
  ∃ xs,KT H kvs xs ∧ h.DictOfH (tupleKind (mixKind P w)) a xs := by
 obtain ⟨z,y,xs,r,o,es,ep,h1,h2,h3,h4,h5⟩ := (show ObjOk P w H h a (.dT kvs) from rd_of ok e)
 refine ⟨z,y,xs,r,o,es,ep,h1,h2,h3,h4,fun x hx => ?_,h5⟩
 have all : ∀ {l : List (List Key × V)} {m : List (List Key × Addr × Value)},KT H l m → ∀ x ∈ m,(tupleKind (mixKind P w)).is h x.1 x.2.1 := by
  intro l m q
  induction q with
  | nil => intro x hx; exact nomatch hx
  | @cons p q ps qs hq t ih =>
   intro x hx
   rcases List.mem_cons.mp hx with e | hx
   ·subst e
    exact key_of ok (by rw [← hq.1]; exact hq.2.1)
   ·exact ih x hx
 exact all r x hx
theorem dt_of {kvs : List (List Key × V)} (ok : HOk P w H h) (e : H a = some (.dT kvs)) : kvs.length ≤ sizeLine ∧ (a == sysModules) = false ∧
  ∃ xs,KT H kvs xs ∧ h.DictOfH (tupleKind (mixKind P w)) a xs := dt_rd ok (.inl e)
end
noncomputable def DGet (H : Hp) (a : Addr) (y : V) (r : Option V) : Prop :=
 (∃ kvs k,Rd H a (.dK kvs) ∧ y = kV k ∧ r = valV kvs k) ∨ ∃ kvs k b,Rd H a (.dT kvs) ∧ y = .ref b ∧ H b = some (.tup (k.map kV)) ∧ r = valV kvs k
noncomputable def DPut (H : Hp) (a : Addr) (y v : V) (H' : Hp) : Prop :=
 (∃ kvs k,H a = some (.dK kvs) ∧ y = kV k ∧ kvs.length < sizeLine ∧ H' = upd H a (.dK (putK kvs k v))) ∨
 ∃ kvs k b,H a = some (.dT kvs) ∧ y = .ref b ∧ H b = some (.tup (k.map kV)) ∧ kvs.length < sizeLine ∧ H' = upd H a (.dT (putK kvs k v))
section
variable {X : Cx} {pins : List (Addr × Obj)} {σ : St} {H : Hp} {s : Shared} {a : Addr} {y v : V} {u r : Value} {o : Option V} {A : Around} {E : Value → Shared → Prop}
theorem Inv.big (I : Inv X pins σ H s) : sysModules < s.heap.objs.size := by
 have h : mainGlobals < s.heap.objs.size := (I.mod.glob.keeps I.bk).lt
 exact Nat.lt_trans (by decide) h
theorem d_getItem {Q : Value → Shared → Prop} (hu : A.units + 1 < cLine) (I : Inv X pins σ H s) (g : DGet H a y (some v)) (ry : RelV y u) (h : ∀ w' s',Inv X pins σ H s' → RelV v w' → Q w' s') :
  wpAny (model X.prog X.w) A (getItem (.ref a) u) Q E s := by
 rcases g with ⟨kvs,k,e,ey,l⟩ | ⟨kvs,k,b,e,ey,eb,l⟩
 ·subst ey
  obtain ⟨z,hd,vs,rel,dd⟩ := dk_rd I.hok e
  obtain ⟨w',hw,rw'⟩ := RelO.some_of (v := v) (o := valueAt vs k) (by rw [l]; exact rel.val k)
  exact wpAny_getItem_of (kV_is ry) dd.mapOf hw (h w' _ (I.tok _) rw')
 ·subst ey
  cases (show u = Value.ref b from ry)
  obtain ⟨z,hd,xs,rel,dd⟩ := dt_rd I.hok e
  obtain ⟨w',hw,rw'⟩ := RelO.some_of (v := v) (o := (atKey xs k).map (·.2)) (by rw [l]; exact rel.val k)
  obtain ⟨p,hp,hp2⟩ := Option.map_eq_some_iff.mp hw
  refine wpAny_getItem_heap (tupleKind_room_in1 hu) (key_of I.hok eb) dd hp ?_
  rw [hp2]
  exact h w' _ (I.tok _) rw'
theorem d_write {h' : Heap} {t' : Nat} {ob : HO} (I : Inv X pins σ H s) (mu : Mut (H a)) (hs : Heap.SameBut a s.heap h') (he : ∃ q,h'.get? a = some q) (new : ObjOk X.prog X.w (upd H a ob) h' a ob) :
  Inv X pins σ (upd H a ob) { s with heap := h',toks := t' } :=
 I.write (x := a) (e := a) mu (.inl rfl) (fun b q hb z => (hs.2 b hb).trans z) he new
theorem dk_new {P : Program} {w : World} {H' : Hp} {h' : Heap} {kvs : List (Key × V)} {vs : List (Key × Value)} (z : kvs.length ≤ sizeLine) (hd : (a == sysModules) = false) (rel : KV kvs vs) (dd : h'.DictOf (mixKind P w) a vs) :
  ObjOk P w H' h' a (.dK kvs) := ⟨z,hd,vs,rel,dd⟩
theorem d_setItem {H' : Hp} {Q : Unit → Shared → Prop} (hu : A.units + 1 < cLine) (I : Inv X pins σ H s) (g : DPut H a y v H') (ry : RelV y u) (rv : RelV v r) (h : ∀ s',Inv X pins σ H' s' → Q () s') :
  wpAny (model X.prog X.w) A (setItem (.ref a) u r) Q E s := by
 rcases g with ⟨kvs,k,e,ey,l,eH⟩ | ⟨kvs,k,b,e,ey,eb,l,eH⟩
 ·subst ey eH
  obtain ⟨z,hd,vs,rel,dd⟩ := dk_of I.hok e
  have hz : vs.length ≤ sizeLine := by rw [← rel.length]; exact z
  have hl : (putK kvs k v).length ≤ sizeLine := by have := length_putK kvs k v; lia
  refine wpAny_setItem_pairs (hsz := hz) (kV_is ry) dd fun h' dd' hs => h _ ?_
  have he : ∃ q,h'.get? a = some q := let ⟨q,_,_,hq,_⟩ := dd'; ⟨q,hq⟩
  exact d_write I (by rw [e]; exact True.intro) hs he (dk_new hl hd (rel.put k rv) dd')
 ·subst ey eH
  cases (show u = Value.ref b from ry)
  obtain ⟨z,hd,xs,rel,dd⟩ := dt_of I.hok e
  have hz : xs.length ≤ sizeLine := by rw [← Paired.length rel]; exact z
  have hl : (putK kvs k v).length ≤ sizeLine := by have := length_putK kvs k v; lia
  refine wpAny_setItem_heap (hsz := hz) (tupleKind_room_in1 hu) (key_of I.hok eb) dd fun h' dd' hs => h _ ?_
  obtain ⟨q,es,ep,hq,h2,h3,h4,_,h5⟩ := dd'
  refine d_write I (by rw [e]; exact True.intro) hs ⟨q,hq⟩ ⟨hl,hd,_,(rel.put k eb rv).keeps fun c ys ec => ?_,q,es,ep,hq,h2,h3,h4,h5⟩
  rw [upd_ne (ne_of ec e (fun z => nomatch z))]
  exact ec
end
section
variable {X : Cx} {pins : List (Addr × Obj)} {σ : St} {H : Hp} {s : Shared} {a : Addr} {kvs : List (Key × V)} {k : Key} {u : Value} {A : Around} {E : Value → Shared → Prop}
end
noncomputable def NoSl (i : Expr) : Prop := ∀ ov iv,subscripted i false ov iv = operate [ov,iv] (getItem ov iv)
theorem subD_of {prog : Program} {w : World} {A : Around} {E : Value → Shared → Prop} {s : Shared} {env : Env} {value slice : Expr} {pos : Pos} {T id : String} {Q : Value → Shared → Prop}
  (hl : typeLookup (.type T) "__getitem__" = pure (some (.builtin id))) (hs : NoSl slice)
  (h : wpAny (model prog w) A (eval value env) (fun o s₁ => wpAny (model prog w) A (eval slice env) (fun i s₂ => s₂.TypeIs o T ∧ wpAny (model prog w) A (getItem o i) Q E s₂) E s₁) E s) :
  wpAny (model prog w) A (eval (.Subscript value slice pos) env) Q E s := by
 refine Subscript_ (wpAny_mono h (fun o s₁ h₁ => wpAny_mono h₁ (fun i s₂ h₂ => ?_) fun _ _ x => x) fun _ _ x => x)
 obtain ⟨hT,h₂⟩ := h₂
 unfold subscriptTail
 refine wpAny_bind ?_
 rw [getitemInPython_of_ne hT.not_modules]
 refine wpAny_bind (wpAny_specialOf hT hl ?_)
 have fin : wpAny (model prog w) A (subscripted slice false o i) (fun r s₃ => wpAny (model prog w) A (letTemporaryGo value o r >>= fun _ => pure r) Q E s₃) E s₂ := by
  rw [hs o i]
  exact wpAny_operating (wpAny_mono h₂ (fun r s₃ h₃ => wpAny_bind (wpAny_letTemporaryGo (wpAny_pure h₃))) fun _ _ x => x)
 first
  | exact wpAny_pure (wpAny_bind fin)
  | exact wpAny_bind (wpAny_pure (wpAny_bind fin))
  | exact wpAny_bind fin
theorem dict_typeIs {X : Cx} {pins : List (Addr × Obj)} {σ : St} {H : Hp} {s : Shared} {a : Addr} {y : V} {o : Option V} (I : Inv X pins σ H s) (g : DGet H a y o) : s.TypeIs (.ref a) "dict" := by
 rcases g with ⟨kvs,k,e,_,_⟩ | ⟨kvs,k,b,e,_,_,_⟩
 ·obtain ⟨_,_,vs,_,dd⟩ := dk_rd I.hok e
  exact dd.typeIs
 ·obtain ⟨_,_,xs,_,dd⟩ := dt_rd I.hok e
  exact dd.typeIs
noncomputable def tDGet (td ty : TE) : TE := fun σ H Q => td σ H fun x H1 => ty σ H1 fun y H2 => ∃ a v,x = .ref a ∧ DGet H2 a y (some v) ∧ Q v H2
noncomputable def sDPut (td ty tv : TE) : TS := fun D σ H => tv σ H fun v H1 => td σ H1 fun x H2 => ty σ H2 fun y H3 => ∃ a H4,x = .ref a ∧ DPut H3 a y v H4 ∧ D.nx σ H4
section
variable {X : Cx} {o i e value : Expr} {pos pos' tpos : Pos} {td ty tv : TE}
theorem pe_dget (hu : X.A.units + 1 < cLine) (ho : PE X o td) (hi : PE X i ty) (hs : NoSl i) : PE X (.Subscript o i pos) (tDGet td ty) := by
 intro pins s σ H Q I h
 refine subD_of PySem.F.slot_dict_getitem.lookup hs (thn (ho pins s σ H _ I h) fun u s1 ⟨x,H1,I1,rx,q1⟩ => thn (hi pins s1 σ H1 _ I1 q1) fun iv s2 ⟨y,H2,I2,ry,a,v,ex,g,q2⟩ => ?_)
 subst ex
 obtain rfl : u = Value.ref a := rx
 exact ⟨dict_typeIs I2 g,d_getItem hu I2 g ry fun w' s3 I3 rw' => ⟨v,H2,I3,rw',q2⟩⟩
theorem ps_dput (hu : X.A.units + 1 < cLine) (ho : PE X o td) (hi : PE X i ty) (hv : PE X value tv) (hs : swapsWith value (some (.Subscript o i pos')) pos.line X.env = pure false) :
  PS X (.Assign [.Subscript o i pos'] value pos) (sDPut td ty tv) := by
 intro pins s σ H D I h
 refine wpAny_Assign_Subscript (thn (hv pins s σ H _ I h) fun r s1 ⟨v,H1,I1,rv,q1⟩ => thn (ho pins s1 σ H1 _ I1 q1) fun u s2 ⟨x,H2,I2,rx,q2⟩ => thn (hi pins s2 σ H2 _ I2 q2) fun iv s3 ⟨y,H3,I3,ry,a,H4,ex,g,q3⟩ => ?_) hs
 subst ex
 obtain rfl : u = Value.ref a := rx
 exact d_setItem hu I3 g ry rv fun s4 I4 => ⟨σ,H4,I4,q3⟩
end
theorem dk_empty {P : Program} {w : World} {H : Hp} (h : Heap) (hb : sysModules < h.objs.size) : ObjOk P w H (h.push { cls := .type "dict",data := .dict #[] }) h.objs.size (.dK []) :=
 ⟨Nat.zero_le _,beq_eq_false_iff_ne.mpr (Ne.symm (Nat.ne_of_lt hb)),[],.nil,Heap.DictOf.new h⟩
noncomputable def tDNewK : TE := fun _ H Q => ∀ p,H p = none → Q (.ref p) (upd H p (.dK []))
section
variable {X : Cx} {pos : Pos}
theorem pe_dnewK : PE X (.Dict [] [] pos) tDNewK := fun pins s σ H Q I h =>
 wpAny_Dict_empty ⟨.ref s.heap.objs.size,_,I.laid (a := s.heap.objs.size) (o := .dK []) (t' := s.toks) (fun _ _ q => Heap.get?_push_of_some _ q) (Nat.le_refl _) (dk_empty s.heap I.big),rfl,h _ (I.hok.fresh (Nat.le_refl _))⟩
end
section
variable {X : Cx} {pins : List (Addr × Obj)} {σ : St} {H : Hp} {s : Shared} {a : Addr} {y d : V} {u r : Value} {o : Option V} {A : Around} {E : Value → Shared → Prop}
end
section
variable {X : Cx} {o e f : Expr} {apos cpos : Pos} {td ty tx : TE}
end
section
variable {X : Cx} {pins : List (Addr × Obj)} {σ : St} {H : Hp} {s : Shared} {a : Addr} {kvs : List (Key × V)} {A : Around} {E : Value → Shared → Prop}
end
section
variable {X : Cx} {pins : List (Addr × Obj)} {σ : St} {H : Hp} {s : Shared} {a : Addr} {y : V} {u : Value} {A : Around} {E : Value → Shared → Prop}
end
end L2
set_option Elab.async false
set_option linter.all false
set_option maxRecDepth 100000
set_option maxHeartbeats 4000000
namespace PySem
open Sem (wp)
namespace F
theorem entry_dict_update_loop : entryFor table "dict.update.loop" = some Builtin.«dict.update.loop» := entryFor_of_tree (by kernel_rfl)
theorem plain_dict_update_loop : plainId "dict.update.loop" = true := by decide +kernel
theorem miss_keys_tuple : typeLookup (.type "tuple") "keys" = pure none := by rw [typeLookup_type,builtinLookup_eq_fast]; kernel_rfl
end F
theorem keys_none_tuple {prog : Program} {w : World} {A : Around} {E : Value → Shared → Prop} {s : Shared} {a : Addr} {o : Obj} {xs : Array Value} {k : Nat} {Q : Option Value → Shared → Prop}
  (hx : s.heap.get? a = some o) (hc : o.cls = .type "tuple") (hdat : o.data = .seq xs k) (hd : o.dict = none) (hA : A.handled = none)
  (h : ∀ h' tk e,Heap.NewExcOf s.heap h' e "AttributeError" → Q none { s with heap := h',toks := tk }) :
  wpAny (model prog w) A (getAttr? (.ref a) "keys") Q E s := by
 obtain ⟨c,dct,dat,sl⟩ := o
 simp only at hc hdat hd
 subst hc hdat hd
 obtain ⟨hp,g,d,tk,os⟩ := s
 have hT : ∀ tk',(⟨hp,g,d,tk',os⟩ : Shared).TypeIs (.ref a) "tuple" := fun _ => ⟨_,hx,rfl⟩
 have f1 := sub_AttributeError
 have f3 := F.slot_tuple_getattribute.lookup
 have f4 := F.slot_tuple_getattribute.bind (.ref a)
 have f5 := am_tuple_getattr_none
 unfold getAttr? getAttrBy? getAttrBy
 repeat (any_goals (first | assumption | exact hT _ | ((with_reducible show wpAny _ _ (call (Value.builtin "tuple.__getattribute__") _ _) _ _ _); refine call_meets F.slot_tuple_getattribute (hT _) am_entry_tuple_getattribute (F.args_tuple_getattribute_2 _ _) (meets_getattribute_miss_tuple a xs k sl "keys" _ F.miss_keys_tuple (by decide)) ⟨hx,hA,fun h' tk' e hx' => ?_⟩) | wp_step))
 obtain ⟨t',u',he⟩ := hx'.there
 show wpAny _ _ (getattributeRaised _ _ _ _ _ _ _) _ _ _
 unfold getattributeRaised
 repeat (any_goals (first | assumption | wp_step))
 all_goals exact h _ _ _ hx'.of
end PySem
set_option Elab.async false
set_option linter.all false
set_option maxRecDepth 100000
set_option maxHeartbeats 4000000
namespace PySem
open Sem (wp)
section
variable {prog : Program} {w : World} {K : Type} [DecidableEq K] {knd : KeyKind prog w K} {A : Around} {E : Value → Shared → Prop}
noncomputable def Heap.PairItems (h : Heap) (knd : KeyKind prog w K) (items : Array Value) (kvs : List (K × Value)) : Prop :=
 items.size = kvs.length ∧ ∀ (i : Nat) (kv : K × Value),kvs[i]? = some kv → ∃ (a : Addr) (key : Value),items[i]? = some (.ref a) ∧ h.IsTuple a #[key,kv.2] ∧ knd.is kv.1 key = true
theorem Heap.PairItems.stay {h h' : Heap} {items : Array Value} {kvs : List (K × Value)} (x : h.PairItems knd items kvs) (k : ∀ (i : Nat) (a : Addr) (o : Obj),items[i]? = some (.ref a) → h.get? a = some o → h'.get? a = some o) : h'.PairItems knd items kvs :=
 ⟨x.1,fun i kv e => by
  obtain ⟨a,key,e1,⟨o,e2,r⟩,e3⟩ := x.2 i kv e
  exact ⟨a,key,e1,⟨o,k i a o e1 e2,r⟩,e3⟩⟩
theorem codeAny_dict_loop {t it d : Addr} {items : Array Value} {kvs : List (K × Value)} {R : Result → Shared → Prop} (hh : A.handled = none) (hdt : t ≠ d) (hit : t ≠ it) (hdi : d ≠ it) (hav : ∀ (i : Nat) (a : Addr),items[i]? = some (.ref a) → a ≠ d ∧ a ≠ it) (hsz : kvs.length + kvs.length ≤ sizeLine) :
  ∀ (n i : Nat) (s : Shared) (acc : List (K × Value)),kvs.length - i = n → i ≤ kvs.length → acc.length ≤ i → s.heap.IsTuple t items → s.heap.PairItems knd items kvs → s.heap.IsTupleIter it t i → s.heap.DictOf knd d acc →
   (∀ h' tk,h'.DictOf knd d (merged acc (kvs.drop i)) → (∀ b o,b ≠ d → b ≠ it → s.heap.get? b = some o → h'.get? b = some o) → R (.ok (.ret .none)) { s with heap := h',toks := tk }) →
   codeAny (model prog w) A (.builtin "dict.update.loop" ⟨[.ref d,.ref it,rawInt i,.none],[]⟩) R s := by
 intro n
 induction n with
 | zero =>
  intro i s acc hn hi ha ht hp hs hd hR
  have e : i = kvs.length := by lia
  refine codeAny_builtin F.entry_dict_update_loop ?_
  rw [Around.under_plainId F.plain_dict_update_loop _]
  show wpAny _ A.in1 (pyNext (.ref it) >>= _) _ _ s
  refine wpAny_bind (wpAny_pyNext_tuple_end (by first | exact hh | simpa using hh) hs ht (by rw [e,← hp.1]; simp) fun h' eb => ?_)
  show wpAny _ _ (Builtin.Dict.addKeywords d [] >>= _) _ _ _
  have hd' : h'.DictOf knd d acc := by
   obtain ⟨o,es,ep,ho,r⟩ := hd
   exact ⟨o,es,ep,eb d o hdi ho,r⟩
  have q := hR h' s.toks (by rw [e,List.drop_length]; exact hd') fun b o _ hb z => eb b o hb z
  exact wpAny_bind (wpAny_pure (wpAny_pure q))
 | succ n ih =>
  intro i s acc hn hi ha ht hp hs hd hR
  have hlt : i < kvs.length := by lia
  obtain ⟨kv,hkv⟩ : ∃ kv,kvs[i]? = some kv := ⟨_,List.getElem?_eq_getElem hlt⟩
  obtain ⟨a,key,hx,hpair,hkey⟩ := hp.2 i kv hkv
  refine codeAny_builtin F.entry_dict_update_loop ?_
  rw [Around.under_plainId F.plain_dict_update_loop _]
  show wpAny _ A.in1 (pyNext (.ref it) >>= _) _ _ s
  refine wpAny_bind (wpAny_pyNext_tuple_item hs ht hx fun h1 hs1 sb => ?_)
  obtain ⟨av1,av2⟩ := hav i a hx
  have keep1 : ∀ b o,b ≠ it → s.heap.get? b = some o → h1.get? b = some o := fun b o hb z => (sb.2 b hb).trans z
  obtain ⟨po,pe,pc,pn,pd⟩ := hpair
  have pe1 := keep1 a po av2 pe
  have hd1 : h1.DictOf knd d acc := by
   obtain ⟨o,es,ep,ho,r⟩ := hd
   exact ⟨o,es,ep,keep1 d o hdi ho,r⟩
  refine wpAny_bind (wpAny_holding ?_)
  refine wpAny_bind (wpAny_tryCatch ?_)
  unfold Builtin.Dict.pairItems
  refine wpAny_bind (wpAny_typeOf (T := "tuple") ⟨_,pe1,pc⟩ ?_)
  rw [if_pos (by decide)]
  refine wpAny_bind (wpAny_seqItems pe1 pd ?_)
  refine wpAny_pure ?_
  show wpAny _ _ (holding [key,kv.2] (dictSet d key kv.2)) _ _ _
  refine wpAny_holding (wpAny_dictSet_pairs (s := { s with heap := h1 }) hkey hd1 (fun h2 hd2 sb2 => ?_) (by lia))
  refine wpAny_pure ⟨plainId_quiet F.plain_dict_update_loop _,?_⟩
  have keep2 : ∀ b o,b ≠ d → b ≠ it → s.heap.get? b = some o → h2.get? b = some o := fun b o hb hb' z => (sb2.2 b hb).trans (keep1 b o hb' z)
  have hlen : (stored acc kv.1 kv.2).length ≤ i + 1 := by have := stored_length_le acc kv.1 kv.2; lia
  have ht2 : h2.IsTuple t items := by
   obtain ⟨o,ho,r⟩ := ht
   exact ⟨o,keep2 t o hdt hit ho,r⟩
  have hs2 : h2.IsTupleIter it t (i + 1) := by
   obtain ⟨o,ho,r⟩ := hs1
   exact ⟨o,(sb2.2 it (Ne.symm hdi)).trans ho,r⟩
  have e : rawInt ((i : Int) + 1) = rawInt ((i + 1 : Nat) : Int) := by rw [Int.natCast_add]; rfl
  show codeAny _ _ (.builtin "dict.update.loop" ⟨[.ref d,.ref it,rawInt ((i : Int) + 1),.none],[]⟩) _ _
  rw [e]
  refine ih (i + 1) { s with heap := h2,toks := s.toks + 1 } (stored acc kv.1 kv.2) (by lia) hlt hlen ht2 (hp.stay fun j b o z z2 => keep2 b o (hav j b z).1 (hav j b z).2 z2) hs2 hd2 fun h' tk hd' k' => ?_
  have q := hR h' tk (by
   have z : kvs.drop i = kv :: kvs.drop (i + 1) := by
    rw [List.drop_eq_getElem_cons hlt]
    rw [List.getElem?_eq_getElem hlt] at hkv
    rw [Option.some.inj hkv]
   rw [z]
   exact hd') fun b o hb hb' z => k' b o hb hb' (keep2 b o hb hb' z)
  exact q
theorem call_dict_pairs {s : Shared} {t : Addr} {o : Obj} {items : Array Value} {n : Nat} {kvs : List (K × Value)} {Q : Value → Shared → Prop} (hh : A.handled = none) (ho : s.heap.get? t = some o) (hc : o.cls = .type "tuple") (hdat : o.data = .seq items n) (hd : o.dict = none)
  (hp : s.heap.PairItems knd items kvs) (hsz : kvs.length + kvs.length ≤ sizeLine)
  (h : ∀ h' tk,h'.DictOf knd s.heap.objs.size (merged [] kvs) → (∀ b o,s.heap.get? b = some o → h'.get? b = some o) → Q (.ref s.heap.objs.size) { s with heap := h',toks := tk }) :
  wpAny (model prog w) A (call (.type "dict") [.ref t]) Q E s := by
 refine callType_codes (Q₁ := fun obj s₁ => obj = .ref s.heap.objs.size ∧ s₁ = { s with heap := s.heap.push { cls := .type "dict",data := .dict #[] } }) F.kt_called_dict (F.kt_typeCall_dict_1 _) F.entry_dict_init (kt_code_dict_new _ ⟨rfl,rfl⟩) ?_
 rintro obj s₁ ⟨rfl,rfl⟩
 have hnew : (s.heap.push { cls := .type "dict",data := .dict #[] }).DictOf knd s.heap.objs.size [] := Heap.DictOf.new s.heap
 have ho1 : (s.heap.push { cls := .type "dict",data := .dict #[] }).get? t = some o := Heap.get?_push_of_some _ ho
 have htl : t < s.heap.objs.size := Heap.lt_size ho
 refine ⟨hnew.typeIs,F.args_dict_init_2 _ _,?_⟩
 unfold Builtin.«dict.__init__»
 refine wpAny_bind ?_
 unfold Builtin.Dict.selfAndRest
 refine wpAny_bind (wpAny_notOrdered_dict hnew.typeIs ?_)
 show wpAny _ _ (pure (s.heap.objs.size,[Value.ref t])) _ _ _
 refine wpAny_pure ?_
 show wpAny _ _ (Builtin.Dict.updateFrom "dict.__init__" s.heap.objs.size (.ref t) [] .none) _ _ _
 unfold Builtin.Dict.updateFrom
 refine wpAny_bind (wpAny_typeOf (T := "tuple") ⟨_,ho1,hc⟩ ?_)
 rw [if_pos (by decide)]
 refine wpAny_bind (keys_none_tuple ho1 hc hdat hd (by first | exact hh | simpa using hh) fun h1 tk1 e hx => ?_)
 rw [if_pos (by rfl)]
 refine wpAny_bind (wpAny_rule ?_)
 have kp1 : ∀ b o,(s.heap.push { cls := .type "dict",data := .dict #[] }).get? b = some o → h1.get? b = some o := fun b o z => hx.keeps b o z
 have ht1 : h1.IsTuple t items := ⟨o,kp1 t o ho1,hc,n,hdat⟩
 refine wpAny_bind (wpAny_pyIter_tuple ht1 ?_)
 have hit : s.heap.objs.size < h1.objs.size := by
  obtain ⟨o2,es,ep,ho2,_⟩ := hnew
  exact Heap.lt_size (kp1 _ _ ho2)
 have kp0 : ∀ b o,s.heap.get? b = some o → h1.get? b = some o := fun b o z => kp1 b o (Heap.get?_push_of_some _ z)
 refine wpAny_pure ⟨plainId_quiet F.plain_dict_update_loop _,?_⟩
 refine codeAny_dict_loop (knd := knd) (t := t) (items := items) (kvs := kvs) (by first | exact hh | simpa using hh) (Nat.ne_of_lt htl) (Nat.ne_of_lt (Nat.lt_trans htl hit)) (Nat.ne_of_lt hit) (fun i a z => ?_) hsz kvs.length 0 _ [] (by lia) (Nat.zero_le _) (Nat.le_refl _)
  ⟨o,Heap.get?_push_of_some _ (kp1 t o ho1),hc,n,hdat⟩ (hp.stay fun i a o2 _ z => Heap.get?_push_of_some _ (kp0 a o2 z)) ⟨_,Heap.get?_push_size _ rfl,rfl,rfl⟩ ?_ fun h' tk hd' k' => ⟨rfl,?_⟩
 ·have hi : i < kvs.length := by
   rw [← hp.1]
   exact (Array.getElem?_eq_some_iff.mp z).1
  obtain ⟨b,key,e1,⟨ob,e2,_⟩,_⟩ := hp.2 i _ (List.getElem?_eq_getElem hi)
  rw [z] at e1
  have e3 : a = b := by injection (Option.some.inj e1)
  subst e3
  have := Heap.lt_size e2
  exact ⟨Nat.ne_of_lt this,Nat.ne_of_lt (Nat.lt_trans this hit)⟩
 ·obtain ⟨o2,es,ep,ho2,r⟩ := hnew
  exact ⟨o2,es,ep,Heap.get?_push_of_some _ (kp1 _ _ ho2),r⟩
 ·refine h h' tk hd' fun b ob z => k' b ob (Nat.ne_of_lt (Heap.lt_size z)) (Nat.ne_of_lt (Nat.lt_trans (Heap.lt_size z) hit)) (Heap.get?_push_of_some _ (kp0 b ob z))
end
end PySem
set_option Elab.async false
set_option linter.all false
set_option maxRecDepth 100000
set_option maxHeartbeats 4000000
namespace L2
open PySem PySem.Spec PyProof.Rows
noncomputable def Pl (H : Hp) (a : Addr) : Prop := ∃ o u,H a = some (.frz o u) ∧ o.dict = none
mutual
inductive IsP (K : PySem.W.Frag) (H : Hp) : Dt → V → Prop
 | non : IsP K H .non .non
 | bl {b} : IsP K H (.bl b) (.bl b)
 | int {i} : IsP K H (.int i) (.int i)
 | str {z} : IsP K H (.str z) (.str z)
 | tup {l : List Dt} {a : Addr} {xs : List V} : SqT K H a xs → Pl H a → IsPs K H l xs → IsP K H (.tup l) (.ref a)
inductive IsPs (K : PySem.W.Frag) (H : Hp) : List Dt → List V → Prop
 | nil : IsPs K H [] []
 | cons {d : Dt} {l : List Dt} {x : V} {xs : List V} : IsP K H d x → IsPs K H l xs → IsPs K H (d :: l) (x :: xs)
end
section
variable {K : PySem.W.Frag} {H H' : Hp}
mutual
theorem IsP.d : ∀ {d : Dt} {v : V},IsP K H d v → IsD K H d v
 | _,_,.non => .non
 | _,_,.bl => .bl
 | _,_,.int => .int
 | _,_,.str => .str
 | _,_,.tup h _ r => .tup h (IsPs.d r)
theorem IsPs.d : ∀ {l : List Dt} {xs : List V},IsPs K H l xs → IsDs K H l xs
 | _,_,.nil => .nil
 | _,_,.cons h r => .cons (IsP.d h) (IsPs.d r)
end
theorem Pl.same {a : Addr} (g : Same H H') (h : Pl H a) : Pl H' a := by
 obtain ⟨o,u,e,d⟩ := h
 exact ⟨o,u,g _ _ e,d⟩
theorem Pl.but {a r : Addr} {ys : List V} (hr : H r = some (.lst ys)) (g : But r H H') (h : Pl H a) : Pl H' a := by
 obtain ⟨o,u,e,d⟩ := h
 exact ⟨o,u,g _ _ (ne_of e hr (by intro z; cases z)) e,d⟩
mutual
theorem IsP.same (g : Same H H') : ∀ {d : Dt} {v : V},IsP K H d v → IsP K H' d v
 | _,_,.non => .non
 | _,_,.bl => .bl
 | _,_,.int => .int
 | _,_,.str => .str
 | _,_,.tup h p r => .tup (g.tup h) (p.same g) (IsPs.same g r)
theorem IsPs.same (g : Same H H') : ∀ {l : List Dt} {xs : List V},IsPs K H l xs → IsPs K H' l xs
 | _,_,.nil => .nil
 | _,_,.cons h r => .cons (IsP.same g h) (IsPs.same g r)
end
mutual
theorem IsP.but {r : Addr} {ys : List V} (hr : H r = some (.lst ys)) (g : But r H H') : ∀ {d : Dt} {v : V},IsP K H d v → IsP K H' d v
 | _,_,.non => .non
 | _,_,.bl => .bl
 | _,_,.int => .int
 | _,_,.str => .str
 | _,_,.tup h p q => .tup (by
   rcases sqT_ne hr h with n | n
   ·exact g.tup n h
   ·exact n _) (p.but hr g) (IsPs.but hr g q)
theorem IsPs.but {r : Addr} {ys : List V} (hr : H r = some (.lst ys)) (g : But r H H') : ∀ {l : List Dt} {xs : List V},IsPs K H l xs → IsPs K H' l xs
 | _,_,.nil => .nil
 | _,_,.cons h q => .cons (IsP.but hr g h) (IsPs.but hr g q)
end
theorem IsPs.length {l : List Dt} {xs : List V} (h : IsPs K H l xs) : l.length = xs.length := h.d.length
theorem IsPs.get {l : List Dt} {xs : List V} (h : IsPs K H l xs) {i : Nat} {d : Dt} (e : l[i]? = some d) : ∃ x,xs[i]? = some x ∧ IsP K H d x := by
 induction l generalizing xs i with
 | nil => simp at e
 | cons c l ih =>
  cases h with
  | cons h r =>
   cases i with
   | zero => simp at e; subst e; exact ⟨_,rfl,h⟩
   | succ i => exact ih r (by simpa using e)
theorem IsPs.get' {l : List Dt} {xs : List V} (h : IsPs K H l xs) {i : Nat} {x : V} (e : xs[i]? = some x) : ∃ d,l[i]? = some d ∧ IsP K H d x := by
 induction l generalizing xs i with
 | nil => cases h; simp at e
 | cons c l ih =>
  cases h with
  | cons h r =>
   cases i with
   | zero => simp at e; subst e; exact ⟨_,rfl,h⟩
   | succ i => exact ih r (by simpa using e)
theorem IsPs.append {l m : List Dt} {xs ys : List V} (h : IsPs K H l xs) (h' : IsPs K H m ys) : IsPs K H (l ++ m) (xs ++ ys) := by
 induction l generalizing xs with
 | nil => cases h; exact h'
 | cons d l ih => cases h with | cons h r => exact .cons h (ih r)
theorem IsP.unref {l : List Dt} {v : V} (h : IsP K H (.tup l) v) : ∃ a xs,v = .ref a ∧ SqT K H a xs ∧ Pl H a ∧ IsPs K H l xs := by
 cases h with
 | tup h p r => exact ⟨_,_,rfl,h,p,r⟩
end
noncomputable def plO (xs : List V) (us : List Value) : HO := .frz { cls := .type "tuple",data := .seq us.toArray } (.tup xs)
section
variable {X : Cx} {pins : List (Addr × Obj)} {σ : St} {H : Hp} {s : Shared}
theorem Inv.plain {xs : List V} {us : List Value} {t' : Nat} (I : Inv X pins σ H s) (r : Vals xs us) (z : xs.length ≤ sizeLine) :
  Inv X pins σ (upd H s.heap.objs.size (plO xs us)) { s with heap := s.heap.push { cls := .type "tuple",data := .seq us.toArray },toks := t' } ∧ H s.heap.objs.size = none :=
 ⟨I.laid (t' := t') (fun b ob q => Heap.get?_push_of_some _ q) (Nat.le_refl _) ⟨Heap.get?_push_size _ rfl,z,us,r,IsTup.new _ _⟩,I.hok.fresh (Nat.le_refl _)⟩
theorem plain_is {p : Addr} {l : List Dt} {xs : List V} {us : List Value} (hf : H p = none) (d : IsPs X.K H l xs) : Same H (upd H p (plO xs us)) ∧ IsP X.K (upd H p (plO xs us)) (.tup l) (.ref p) :=
 ⟨same_new hf _,.tup (.inl (.inr ⟨_,upd_same⟩)) ⟨_,_,upd_same,rfl⟩ (d.same (same_new hf _))⟩
variable {e : Expr} {es : List Expr} {t : TA} {pos : Pos}
inductive ITup (K : PySem.W.Frag) (xs : List V) (H1 : Hp) (Q : VK) : Prop
 | mk (l : List Dt) : (IsPs K H1 l xs) → (xs.length ≤ sizeLine) → (∀ v H',Same H1 H' → IsP K H' (.tup l) v → Q v H') → ITup K xs H1 Q
noncomputable def tTupP (K : PySem.W.Frag) (t : TA) : TE := fun σ H Q => t σ H fun xs H1 => ITup K xs H1 Q
theorem pe_tupP {x1} (h : PA X es t) : PE X (.Tuple es x1 pos) (tTupP X.K t) := by
 intro pins s σ H Q I hq
 refine wpAny_Tuple_spliced (thn (h pos pins s σ H _ I hq) fun us s1 ⟨xs,H1,I1,r,l,d,z,q⟩ => ⟨by rw [← r.length]; exact z,?_⟩)
 obtain ⟨I2,hf⟩ := I1.plain (t' := s1.toks) r z
 obtain ⟨g,dp⟩ := plain_is (X := X) (us := us) hf d
 exact ⟨.ref s1.heap.objs.size,_,I2,rfl,q _ _ g dp⟩
theorem call_tupleP : CallR X (.type "tuple") (fun xs H Q => ∃ p ys l,xs = [.ref p] ∧ SqL X.K H p ys ∧ IsPs X.K H l ys ∧ ∀ v H',Same H H' → IsP X.K H' (.tup l) v → Q v H') := by
 intro pins s σ H xs us Q I r h
 obtain ⟨p,ys,l,rfl,hq,d,q⟩ := h
 obtain ⟨u,rfl,rx⟩ := vals1 r
 cases rx
 obtain ⟨its,r',pl,hz⟩ := I.list hq
 have hlen := r'.length
 refine call_tuple_list pl.isList (fun h' kp => ?_) (by simp only [List.size_toArray] <;> lia)
 have I1 : Inv X pins σ H { s with heap := h' } := I.kept (t' := s.toks) kp
 obtain ⟨I2,hf⟩ := I1.plain (t' := s.toks) r' hz
 obtain ⟨g,dp⟩ := plain_is (X := X) (us := its) hf d
 exact ⟨.ref h'.objs.size,_,I2,rfl,q _ _ g dp⟩
theorem ix_tupP : IxR X (fun x y H Q => ∃ l i d,IsP X.K H (.tup l) x ∧ y = .int i ∧ atI l i = some d ∧ ∀ v,IsP X.K H d v → Q v H) := by
 intro value slice pins s σ H x y v u Q I rx ry h hs
 obtain ⟨l,i,d,dx,rfl,ha,q⟩ := h
 obtain ⟨a,xs,rfl,hx,pa,ra⟩ := id dx.unref
 obtain ⟨j,hj,hd,_⟩ := atI_get ha
 have e1 := ra.length
 obtain ⟨w',hw,dw⟩ := ra.get hd
 have hat : atI xs i = some w' := by
  unfold atI at ha ⊢
  rw [← e1]
  cases z : ixN l.length i with
  | none => rw [z] at ha; cases ha
  | some j' =>
   rw [z] at ha
   have ha' : l[j']? = some d := ha
   obtain ⟨w2,hw2,dw2⟩ := ra.get ha'
   have z2 := ixN_seq z
   rw [hj] at z2
   have : j = j' := Option.some.inj z2.1
   subst this
   exact hw
 exact ix_tup value slice pins s σ H (.ref a) (.int i) v u Q I rx ry ⟨a,xs,i,w',rfl,rfl,hx,hat,q w' dw⟩ hs
theorem op_mulB : OpR X (binaryOp .Mult) (rI IntMulOk fun i j => .int (i * j)) := opI fun _ _ _ _ _ _ _ hc q => mul_int q hc
end
end L2
set_option Elab.async false
set_option linter.all false
set_option maxRecDepth 100000
set_option maxHeartbeats 4000000
namespace L2
open PySem PySem.Spec PyProof.Rows
noncomputable def lookS (fs : List (Str × Dt)) (z : Str) : Option Dt := (fs.find? fun p => decide (p.1 = z)).map (·.2)
noncomputable abbrev prD (p : Str × Dt) : Dt := .tup [.str p.1,p.2]
noncomputable def DicP (K : PySem.W.Frag) (H : Hp) (p : Addr) (fs : List (Str × Dt)) : Prop :=
 ∃ kvs,H p = some (.dK kvs) ∧ ∀ z,(lookS fs z = none → valV kvs (Sum.inr z : Key) = none) ∧ ∀ d,lookS fs z = some d → ∃ v,valV kvs (Sum.inr z : Key) = some v ∧ IsP K H d v
section
variable {X : Cx} {pins : List (Addr × Obj)} {σ : St} {H : Hp} {s : Shared}
theorem pairs_of (I : Inv X pins σ H s) : ∀ {fs : List (Str × Dt)} {xs : List V} {its : List Value},IsPs X.K H (fs.map prD) xs → Vals xs its →
  ∃ (kvs : List (Key × V)) (vs : List (Key × Value)),KV kvs vs ∧ kvs.map (·.1) = fs.map (fun p => Sum.inr p.1) ∧ kvs.length = fs.length ∧
   (∀ z,(lookS fs z = none → valV kvs (Sum.inr z : Key) = none) ∧ ∀ d,lookS fs z = some d → ∃ v,valV kvs (Sum.inr z : Key) = some v ∧ IsP X.K H d v) ∧
   its.length = vs.length ∧ ∀ (i : Nat) (kv : Key × Value),vs[i]? = some kv → ∃ (a : Addr) (key : Value),its[i]? = some (.ref a) ∧ s.heap.IsTuple a #[key,kv.2] ∧ (mixKind X.prog X.w).is kv.1 key = true := by
 intro fs
 induction fs with
 | nil =>
  intro xs its h r
  cases h
  cases r
  exact ⟨[],[],.nil,rfl,rfl,fun z => ⟨fun _ => rfl,fun d q => by cases q⟩,rfl,fun i kv q => by simp at q⟩
 | cons f fs ih =>
  intro xs its h r
  cases h with
  | cons h1 h2 =>
   cases r with
   | cons r1 r2 =>
    obtain ⟨kvs,vs,e1,e2,e3,e4,e5,e6⟩ := ih h2 r2
    obtain ⟨a,ys,rfl,ha,pa,ra⟩ := h1.unref
    cases r1
    obtain ⟨its',r',p',_⟩ := I.tuple ha
    cases ra with
    | cons d1 ra =>
     cases ra with
     | @cons _ _ v _ d2 ra =>
      cases ra
      cases d1
      cases r' with
      | cons q1 r' =>
       cases r' with
       | @cons _ u _ _ q2 r' =>
        cases r'
        obtain ⟨tk,rfl⟩ := q1
        refine ⟨(Sum.inr f.1,v) :: kvs,(Sum.inr f.1,u) :: vs,.cons ⟨rfl,q2⟩ e1,by simp [e2],by simp [e3],fun z => ?_,by simp [e5],fun i kv q => ?_⟩
        ·by_cases hz : f.1 = z
         ·subst hz
          have l1 : lookS (f :: fs) f.1 = some f.2 := by simp [lookS]
          have l2 : valV ((Sum.inr f.1,v) :: kvs) (Sum.inr f.1 : Key) = some v := by simp [valV]
          exact ⟨fun q => (by rw [l1] at q; cases q),fun d q => (by rw [l1] at q; cases q; exact ⟨v,l2,d2⟩)⟩
         ·have l1 : lookS (f :: fs) z = lookS fs z := by simp [lookS,hz]
          have l2 : valV ((Sum.inr f.1,v) :: kvs) (Sum.inr z : Key) = valV kvs (Sum.inr z : Key) := by simp [valV,hz]
          rw [l1,l2]
          exact e4 z
        ·cases i with
         | zero =>
          simp at q
          subst q
          exact ⟨a,_,rfl,p',kV_is (k := Sum.inr f.1) ⟨tk,rfl⟩⟩
         | succ i => exact e6 i kv (by simpa using q)
end
end L2
set_option Elab.async false
set_option linter.all false
set_option maxRecDepth 100000
set_option maxHeartbeats 4000000
namespace PySem
open Sem (wp)
open Builtin
section
variable {prog : Program} {w : World} {A : Around} {E : Value → Shared → Prop} {s : Shared}
end
end PySem
namespace L2
open PySem PySem.Spec PyProof.Rows
section
variable {X : Cx}
variable {tg : Expr}
end
end L2
set_option Elab.async false
set_option linter.all false
set_option maxRecDepth 100000
set_option maxHeartbeats 4000000
namespace L2
open PySem PySem.Spec PyProof.Rows
theorem u1 {A : Around} (h : A.units + 64 < cLine) : A.units + 1 < cLine := by lia
theorem fn_none {P : Program} {w : World} {K : PySem.W.Frag} {mg : Str → Option Value} {base : Heap} {CX : CXT} {k : Nat} {f : Addr} {fd : FuncData} {ps : List Str} {sp : Sp} (h : ∀ vs H Q E,¬ sp vs H Q E) : FnOk P w K mg base CX k f fd ps sp :=
 ⟨fun vs H Q E z => (h vs H Q E z).elim,fun A outer s H args us vs Q E hr e0 hb r z => (h vs H Q E z).elim⟩
end L2
set_option Elab.async false
set_option linter.all false
set_option maxRecDepth 100000
namespace L2
open PySem PySem.Spec PyProof.Rows
end L2
set_option Elab.async false
set_option linter.all false
set_option maxRecDepth 100000
namespace L2
open PySem PySem.Spec PyProof.Rows
section
variable {X : Cx}
theorem op_fdivB : OpR X (binaryOp .FloorDiv) (rI (fun _ j => 0 < j ∧ j < 10000000000000000000000000000000000000000000000000000000000000) fun i j => .int (i / j)) := opI fun i j _ _ _ _ _ hc q => by
 have h1 : (0 : Int) < j := hc.1
 have h2 : j < 10000000000000000000000000000000000000000000000000000000000000 := hc.2
 refine floordiv_int (by lia) (by rw [Int.fdiv_eq_ediv_of_nonneg i (by lia)]; exact q) (.inl (PyProof.noPylong_of_log2 ?_))
 have h3 : j.natAbs < 2 ^ 9000 := Nat.lt_of_lt_of_le (show j.natAbs < 10000000000000000000000000000000000000000000000000000000000000 by lia) (by decide +kernel)
 exact (Nat.log2_lt (by lia)).mpr h3
end
open PySem.NumText
noncomputable def dg (m : Nat) : List Nat := (Nat.toDigits 10 m).map Char.toNat
noncomputable def strI (n : Int) : List Nat := if n < 0 then 45 :: dg n.natAbs else dg n.natAbs
theorem str_int (n : Int) : (Str.ofString (toString n)).cps.toList = strI n := by
 rw [signs_ofString]
 cases n with
 | ofNat m =>
  have : ¬ (Int.ofNat m < 0) := by simp
  unfold strI
  rw [if_neg this]
  show (Nat.repr m).toList.map Char.toNat = _
  rw [Nat.toList_repr]
  rfl
 | negSucc m =>
  have : Int.negSucc m < 0 := Int.negSucc_lt_zero m
  unfold strI
  rw [if_pos this]
  show ("-" ++ Nat.repr (m + 1)).toList.map Char.toNat = _
  rw [String.toList_append,List.map_append,Nat.toList_repr]
  rfl
end L2
set_option Elab.async false
set_option linter.all false
set_option maxRecDepth 100000
namespace L2
open PySem PySem.Spec PyProof.Rows
section
variable {X : Cx} {pins : List (Addr × Obj)} {σ : St} {H : Hp} {s : Shared} {h' : Heap}
theorem Inv.turnedT {t' : Nat} {wr : List Addr} {T : Addr} {o : HO} (I : Inv X pins σ H s) (k : ∀ b u,b ∉ wr → s.heap.get? b = some u → h'.get? b = some u) (f : ∀ b ∈ wr,FpOk X pins H b)
  (hT : s.heap.objs.size ≤ T) (new : ObjOk X.prog X.w (upd H T o) h' T o) : Inv X pins σ (upd H T o) { s with heap := h',toks := t' } := by
 have nT : ∀ b u,s.heap.get? b = some u → b ≠ T := fun b u e z => absurd (Nat.lt_of_lt_of_le (Heap.lt_size e) (z ▸ hT)) (Nat.lt_irrefl _)
 have nH : ∀ b u,H b = some u → b ≠ T := fun b u e z => absurd (Nat.lt_of_lt_of_le (I.hok.lt e) (z ▸ hT)) (Nat.lt_irrefl _)
 have nw : ∀ b u,H b = some u → b ∉ wr := fun b u e z => by rw [(f b z).1] at e; cases e
 refine I.step (g' := s.gens) (d' := s.drawn) (ch := wr) (fun b hb => ?_) (fun b u _ _ hc e _ => k b u hc e) (fun b u _ _ hc e _ => ⟨u.slots,k b u hc e⟩) (fun b u _ e n => by rw [upd_ne (nT b u e)]; exact n)
  (fun b u hc e => ⟨u,k b u hc e⟩) (fun b xs e => by rw [upd_ne (nH b _ e)]; exact e) (fun b u v e => by rw [upd_ne (nH b _ e)]; exact e) (fun b ps e => ⟨#[],by rw [upd_ne (nH b _ e),e]; simp⟩) (fun m hm => ?_) (fun b u e => ?_) I.bare
 ·obtain ⟨f0,f1,f2,f3,f4,f5⟩ := f b hb
  exact ⟨f3,f1,f4,f5⟩
 ·obtain ⟨u,es,ep,ho,r⟩ := hm
  exact ⟨u,es,ep,k _ u (fun z => (f _ z).2.1 rfl) ho,r⟩
 ·by_cases hb : b = T
  ·subst hb
   rw [upd_same] at e
   cases e
   exact new
  ·rw [upd_ne hb] at e
   refine (I.hok b u e).stay (fun c v hc q => k c v ?_ q) (fun c q => ?_) fun c xs q => by rw [upd_ne (nH c _ q)]; exact q
   ·rcases hc with z | z
    ·rw [z]; exact nw b u e
    ·exact nw c _ z
   ·rw [upd_ne (nH c _ q)]; exact q
theorem Inv.turnedL {t' : Nat} {wr : List Addr} (I : Inv X pins σ H s) (k : ∀ b u,b ∉ wr → s.heap.get? b = some u → h'.get? b = some u) (f : ∀ b ∈ wr,FpOk X pins H b) : Inv X pins σ H { s with heap := h',toks := t' } := by
 have nw : ∀ b u,H b = some u → b ∉ wr := fun b u e z => by rw [(f b z).1] at e; cases e
 refine I.step (g' := s.gens) (d' := s.drawn) (ch := wr) (fun b hb => ?_) (fun b u _ _ hc e _ => k b u hc e) (fun b u _ _ hc e _ => ⟨u.slots,k b u hc e⟩) (fun _ _ _ _ n => n)
  (fun b u hc e => ⟨u,k b u hc e⟩) (fun _ _ e => e) (fun _ _ _ e => e) (fun b ps e => ⟨#[],by rw [e]; simp⟩) (fun m hm => ?_) (fun b u e => ?_) I.bare
 ·obtain ⟨f0,f1,f2,f3,f4,f5⟩ := f b hb
  exact ⟨f3,f1,f4,f5⟩
 ·obtain ⟨u,es,ep,ho,r⟩ := hm
  exact ⟨u,es,ep,k _ u (fun z => (f _ z).2.1 rfl) ho,r⟩
 ·refine (I.hok b u e).stay (fun c v hc q => k c v ?_ q) (fun _ q => q) fun _ _ q => q
  rcases hc with z | z
  ·rw [z]; exact nw b u e
  ·exact nw c _ z
end
noncomputable def Itz (K : PySem.W.Frag) (a b : Addr) : It :=
 ⟨fun i H => ∃ xs ys x y,SqL K H a xs ∧ SqL K H b ys ∧ xs[i]? = some x ∧ ys[i]? = some y,
  fun i H v H' => ∃ T x y,v = .ref T ∧ H T = none ∧ H' = upd H T (.tup [x,y]) ∧ (∀ xs,SqL K H a xs → xs[i]? = some x) ∧ (∀ ys,SqL K H b ys → ys[i]? = some y),
  fun i H => ∃ xs ys,SqL K H a xs ∧ SqL K H b ys ∧ min xs.length ys.length = i⟩
noncomputable def zipTn (z TI TO i1 i2 l1 l2 : Addr) (i : Nat) (h : Heap) : Prop := IsZip h z TI TO .none ∧ IsPair h TI (.ref i1) (.ref i2) ∧ (∃ a b,IsPair h TO a b) ∧ h.IsListIter i1 l1 i ∧ h.IsListIter i2 l2 i
theorem turn_zip {P : Program} {w : World} {K : PySem.W.Frag} {elts : List Expr} {k : Nat} {pos : Pos} (z TI TO i1 i2 l1 l2 : Addr) (D : ZipApart z TI TO i1 i2 l1 l2) :
  Turn P w K (.Tuple elts k pos) (Itz K l1 l2) [z,TI,TO,i1,i2] z (zipTn z TI TO i1 i2 l1 l2) where
 mem := by simp
 obj := fun i h st b hb => by
  obtain ⟨hz,hTI,⟨a,c,hTO⟩,⟨o1,e1,c1,d1⟩,⟨o2,e2,c2,d2⟩⟩ := st
  simp only [List.mem_cons,List.not_mem_nil,or_false] at hb
  rcases hb with rfl | rfl | rfl | rfl | rfl
  ·exact ⟨_,hz,fun v q => by cases q⟩
  ·exact ⟨_,hTI,fun v q => by cases q⟩
  ·exact ⟨_,hTO,fun v q => by cases q⟩
  ·exact ⟨o1,e1,fun v q => by rw [d1] at q; cases q⟩
  ·exact ⟨o2,e2,fun v q => by rw [d2] at q; cases q⟩
 keep := fun i h h' st kk => by
  obtain ⟨hz,hTI,⟨a,c,hTO⟩,h1,h2⟩ := st
  exact ⟨kk z (by simp) _ hz,kk TI (by simp) _ hTI,⟨a,c,kk TO (by simp) _ hTO⟩,h1.at fun o e => kk i1 (by simp) o e,h2.at fun o e => kk i2 (by simp) o e⟩
 item := by
  intro X hP hw hK hc i pins s σ H E I hf st hg
  subst hP hw hK
  obtain ⟨xs,ys,x,y,hx,hy,ex,ey⟩ := hg
  obtain ⟨its,rv,p,hz⟩ := I.list hx
  obtain ⟨its2,rv2,p2,hz2⟩ := I.list hy
  obtain ⟨s1,s2,s3,s4,s5⟩ := st
  have W := WalksT.zip2 (prog := X.prog) (w := X.w) (I.ok.hd hc) z TI TO i1 i2 l1 l2 D its.toArray its2.toArray
  have li : i < xs.length := (List.getElem?_eq_some_iff.mp ex).1
  have li2 : i < ys.length := (List.getElem?_eq_some_iff.mp ey).1
  have el := rv.length
  have el2 := rv2.length
  have wsub : ∀ b ∈ [z,TO,i1,i2],b ∈ [z,TI,TO,i1,i2] := fun b hb => by
   simp only [List.mem_cons,List.not_mem_nil,or_false] at hb ⊢
   rcases hb with rfl | rfl | rfl | rfl <;> simp
  refine W.item i s _ _ (by simp only [List.size_toArray]; lia) ⟨s1,s2,s3,s4,s5,p.isList,p2.isList⟩ fun T vals h' tk hv hT hTup hm hk => ?_
  obtain ⟨u,v,eu,ev,rfl⟩ := hv
  obtain ⟨u',eu',ru⟩ := rv.get ex
  obtain ⟨v',ev',rv'⟩ := rv2.get ey
  have e1 : u = u' := by
   have : its[i]? = some u := by simpa using eu
   rw [eu'] at this
   exact (Option.some.inj this).symm
  have e2 : v = v' := by
   have : its2[i]? = some v := by simpa using ev
   rw [ev'] at this
   exact (Option.some.inj this).symm
  subst e1 e2
  have hTn : H T = none := I.hok.fresh hT
  have I1 : Inv X pins σ (upd H T (.tup [x,y])) { s with heap := h',toks := tk } := I.turnedT hk (fun b hb => hf b (wsub b hb)) hT ⟨by show 2 ≤ sizeLine; decide,[u,v],.cons ru (.cons rv' .nil),hTup⟩
  have ap := W.apart i T h' hm
  have f1 : ∀ b ∈ [z,TO,i1,i2],FpOk X pins (upd H T (.tup [x,y])) b := fun b hb => by
   obtain ⟨f0,f1⟩ := hf b (wsub b hb)
   exact ⟨by rw [upd_ne (fun e : b = T => ap (by rw [← e]; exact hb))]; exact f0,f1⟩
  refine ⟨_,rfl,W.go elts k pos i T _ _ _ hm fun h'' st2 hk2 => ?_⟩
  obtain ⟨t1,t2,t3,t4,t5,_,_⟩ := st2
  refine ⟨.ref T,_,Inv.turnedL (s := { s with heap := h',toks := tk }) (t' := tk) I1 hk2 f1,rfl,⟨T,x,y,rfl,hTn,rfl,fun zs q => by rw [I.list_inj q hx]; exact ex,fun zs q => by rw [I.list_inj q hy]; exact ey⟩,⟨t1,t2,t3,t4,t5⟩,fun b hb => ?_⟩
  have fb := (hf b hb).1
  by_cases e : b = T
  ·subst e
   have lti : s.heap.objs.size > TI := Heap.lt_size s2
   simp only [List.mem_cons,List.not_mem_nil,or_false] at hb
   rcases hb with rfl | rfl | rfl | rfl | rfl
   ·exact absurd (by simp) ap
   ·exact absurd lti (Nat.not_lt.mpr hT)
   ·exact absurd (by simp) ap
   ·exact absurd (by simp) ap
   ·exact absurd (by simp) ap
  ·rw [upd_ne e]; exact fb
 done := by
  intro X hP hw hK hc i pins s σ H E I hf st hg
  subst hP hw hK
  obtain ⟨xs,ys,hx,hy,hi⟩ := hg
  obtain ⟨its,rv,p,hz⟩ := I.list hx
  obtain ⟨its2,rv2,p2,hz2⟩ := I.list hy
  obtain ⟨s1,s2,s3,s4,s5⟩ := st
  have W := WalksT.zip2 (prog := X.prog) (w := X.w) (I.ok.hd hc) z TI TO i1 i2 l1 l2 D its.toArray its2.toArray
  have el := rv.length
  have el2 := rv2.length
  have en : min its.toArray.size its2.toArray.size = i := by simp only [List.size_toArray]; lia
  have wsub : ∀ b ∈ [z,TO,i1,i2],b ∈ [z,TI,TO,i1,i2] := fun b hb => by
   simp only [List.mem_cons,List.not_mem_nil,or_false] at hb ⊢
   rcases hb with rfl | rfl | rfl | rfl <;> simp
  refine W.done s _ _ ?_ fun h' tk hk => ⟨rfl,I.turnedL hk fun b hb => hf b (wsub b hb)⟩
  rw [en]
  exact ⟨s1,s2,s3,s4,s5,p.isList,p2.isList⟩
 self := fun _ _ _ _ _ st h => wpAny_pyIter_zip st.1 h
section
variable {X : Cx} {elts : List Expr} {k : Nat} {tpos : Pos}
noncomputable def iZip (K : PySem.W.Frag) (ta : TA) : TI := fun σ H R => ta σ H fun vs H1 => ∃ a b,vs = [.ref a,.ref b] ∧ (∃ xs,SqL K H1 a xs) ∧ (∃ ys,SqL K H1 b ys) ∧ R (Itz K a b) H1
theorem pi_zip {a b : Expr} {ta : TA} {p pos : Pos} (hg : Gl X "zip") (hm : X.mg "zip" = none) (ha : PA X [a,b] ta) (hs : starEach [a,b] X.env = [(false,eval a X.env),(false,eval b X.env)] := by rfl) (hs2 : starEach [b] X.env = [(false,eval b X.env)] := by rfl) :
  PI X (.Tuple elts k tpos) (.Call (.Name "zip" p) [a,b] [] pos) (iZip X.K ta) := by
 intro pins s σ H R I h
 refine Call_ (ld_blt I hg hm boot_zip (PyProof.Rows.callWith_type1 (thn (ha pos pins s σ H _ I h) fun us s1 ⟨vs,H1,I1,r1,q1⟩ => ?_) (by rw [hs,hs2]) (by rw [hs2]; rfl)))
 obtain ⟨l1,l2,e,⟨xs,hx⟩,⟨ys,hy⟩,q⟩ := q1
 subst e
 obtain ⟨u,v,rfl,ru,rv⟩ := r1.two
 cases ru
 cases rv
 obtain ⟨its,rr,pl,hz⟩ := I1.list hx
 obtain ⟨its2,rr2,pl2,hz2⟩ := I1.list hy
 have lt1 : l1 < s1.heap.objs.size := by obtain ⟨o,e,_⟩ := pl.isList; exact Heap.lt_size e
 have lt2 : l2 < s1.heap.objs.size := by obtain ⟨o,e,_⟩ := pl2.isList; exact Heap.lt_size e
 refine call_zip_2 pl.isList pl2.isList fun h' z1 z2 z3 z4 z5 zs kk => ?_
 have I2 : Inv X pins σ H1 { s1 with heap := h' } := I1.kept (t' := s1.toks) kk
 refine wpAny_pyIter_zip z1 ?_
 refine ⟨_,_,_,_,H1,rfl,I2,turn_zip _ _ _ _ _ l1 l2 ?_,⟨z1,z2,⟨_,_,z3⟩,z4,z5⟩,fun b hb => ?_,q⟩
 ·have lt1' : s1.heap.objs.size > l1 := lt1
  have lt2' : s1.heap.objs.size > l2 := lt2
  constructor <;> (show ¬ (@Eq Nat _ _)) <;> lia
 ·have : s1.heap.objs.size ≤ b := by
   simp only [List.mem_cons,List.not_mem_nil,or_false] at hb
   rcases hb with rfl | rfl | rfl | rfl | rfl <;> lia
  exact I1.fpOk this (I1.hok.fresh this)
end
end L2
set_option Elab.async false
set_option linter.all false
set_option maxRecDepth 100000
namespace L2
open PySem PySem.Spec PyProof.Rows
noncomputable def met : List Key → List Key
 | [] => []
 | k :: r => if r.any (fun j => decide (j = k)) then met r else k :: met r
theorem met_any (k : Key) : ∀ l : List Key,(met l).any (fun j => decide (j = k)) = l.any (fun j => decide (j = k))
 | [] => rfl
 | a :: r => by
  unfold met
  split
  ·rename_i h
   rw [met_any k r,List.any_cons]
   by_cases e : a = k
   ·subst e; rw [h]; simp
   ·simp [e]
  ·rw [List.any_cons,List.any_cons,met_any k r]
theorem met_le : ∀ l : List Key,(met l).length ≤ l.length
 | [] => Nat.le_refl _
 | a :: r => by
  unfold met
  have := met_le r
  split
  ·rw [List.length_cons]; lia
  ·rw [List.length_cons,List.length_cons]; lia
noncomputable abbrev seen (ks : List Key) (i : Nat) : List Key := met (ks.take i).reverse
theorem seen_next {ks : List Key} {i : Nat} {k : Key} (h : ks[i]? = some k) : seen ks (i + 1) = if (seen ks i).any (fun j => decide (j = k)) then seen ks i else k :: seen ks i := by
 have e : (ks.take (i + 1)).reverse = k :: (ks.take i).reverse := by rw [List.take_add_one,h]; simp
 show met (ks.take (i + 1)).reverse = _
 rw [e]
 show (if (ks.take i).reverse.any (fun j => decide (j = k)) then met (ks.take i).reverse else k :: met (ks.take i).reverse) = _
 rw [← met_any k (ks.take i).reverse]
theorem seen_le (ks : List Key) (i : Nat) : (seen ks i).length ≤ i := by
 have h := met_le (ks.take i).reverse
 rw [List.length_reverse,List.length_take] at h
 show (met (ks.take i).reverse).length ≤ i
 lia
section
variable {P : Program} {w : World} {A : Around} {R : Result → Shared → Prop} {it : Addr} {fp wr : List Addr} {G : Array GenState → Array GenState → Prop} {n : Nat} {Pt : Nat → Value → Prop} {St : Nat → Shared → Prop}
noncomputable abbrev SetK (P : Program) (w : World) (h : Heap) (a : Addr) (l : List Key) : Prop := h.SetOf (mixKind P w) a (fun k => l.any fun j => decide (j = k)) l.length
end
section
variable {P : Program} {w : World} {A : Around} {E : Value → Shared → Prop} {s : Shared}
noncomputable def setN (b : Bool) : Obj := { cls := .type "set",dict := none,data := .set #[] 0 (.fresh 0 0 b) }
end
end L2
set_option Elab.async false
set_option linter.all false
set_option maxRecDepth 100000
namespace L2
open PySem PySem.Spec PyProof.Rows
section
variable {X : Cx}
end
end L2
set_option Elab.async false
set_option linter.all false
set_option maxRecDepth 100000
namespace L2
open PySem PySem.Spec PyProof.Rows
section
variable {K : PySem.W.Frag} {a b l : Addr} {xs ys : List V} {g : TG} {tb : List V → Addr → St → Hp → (List V → St → Hp → Prop) → Prop} {R : Hp → Prop} {σ0 : St} {H0 : Hp}
theorem comp_tupR (Pv : Nat → List V → St → Hp → Prop) (h0 : Pv 0 [] σ0 H0) (hl : ∀ i ys σ H,i ≤ xs.length → Pv i ys σ H → SqT K H a xs)
  (hs : ∀ i x ys σ H (N : List V → St → Hp → Prop),xs[i]? = some x → Pv i ys σ H → (∀ ys' σ' H',Pv (i + 1) ys' σ' H' → N ys' σ' H') → g x σ H fun σ2 H2 => tb ys l σ2 H2 N)
  (hd : ∀ ys σ H,Pv xs.length ys σ H → R H) :
  ∃ W : Nat → Nat → List V → St → Hp → Prop,(∃ m,W 0 m [] σ0 H0) ∧ ∀ i m ys σ' H',W i m ys σ' H' → ((Itt K a).stop i H' ∧ R H') ∨
   ((Itt K a).go i H' ∧ ∀ x H'',(Itt K a).yld i H' x H'' → g x σ' H'' fun σ2 H2 => tb ys l σ2 H2 fun ys' σ3 H3 => ∃ m',m' < m ∧ W (i + 1) m' ys' σ3 H3) := comp_tup (Q := fun _ H => R H) Pv h0 hl hs hd
theorem comp_listR (Pv : Nat → List V → St → Hp → Prop) (h0 : Pv 0 [] σ0 H0) (hl : ∀ i ys σ H,i ≤ xs.length → Pv i ys σ H → SqL K H a xs)
  (hs : ∀ i x ys σ H (N : List V → St → Hp → Prop),xs[i]? = some x → Pv i ys σ H → (∀ ys' σ' H',Pv (i + 1) ys' σ' H' → N ys' σ' H') → g x σ H fun σ2 H2 => tb ys l σ2 H2 N)
  (hd : ∀ ys σ H,Pv xs.length ys σ H → R H) :
  ∃ W : Nat → Nat → List V → St → Hp → Prop,(∃ m,W 0 m [] σ0 H0) ∧ ∀ i m ys σ' H',W i m ys σ' H' → ((Itl K a).stop i H' ∧ R H') ∨
   ((Itl K a).go i H' ∧ ∀ x H'',(Itl K a).yld i H' x H'' → g x σ' H'' fun σ2 H2 => tb ys l σ2 H2 fun ys' σ3 H3 => ∃ m',m' < m ∧ W (i + 1) m' ys' σ3 H3) := comp_list (Q := fun _ H => R H) Pv h0 hl hs hd
end
theorem pg_tupK {X : Cx} {K : PySem.W.Frag} {es : List Expr} {k : Nat} {pos : Pos} {t : TGs} {n : Nat} (hK : X.K = K) (hc : X.calm = true) (h : PGs X es t)
  (hn : (assignEach es X.env).length = n := by rfl) (hst : (assignEach es X.env).findIdx? (·.1) = none := by rfl) : PG X (.Tuple es k pos) (gTup K n t) := by
 subst hK
 exact pg_tup hc h hn hst
theorem same_upd {H H1 : Hp} {l : Addr} {o : HO} (hl : H l = none) (g : Same H H1) : Same H (upd H1 l o) := fun b u e => by rw [upd_ne (ne_of_none e hl)]; exact g b u e
end L2
set_option Elab.async false
set_option linter.all false
set_option maxRecDepth 100000
set_option maxHeartbeats 4000000
namespace L2
open PySem PySem.Spec PyProof.Rows
section
variable {X : Cx}
theorem ps_compG {elt tgt iter : Expr} {ifs : List Expr} {scope : Scope} {pos spos py : Pos} {NL N' : List Str} {ρ : List Nat} {wi : TI} {g : TG} {tb : List V → Addr → St → Hp → (List V → St → Hp → Prop) → Prop} {body : Value → Env → Sem Unit} {j : Nat} {y : Str}
  (hN : X.N.Nodup) (hj : X.N[j]? = some y) (hy : Loc X.env.scope y) (hfn : X.fn y = true ∨ X.env.scope.names.lookup y = some .local)
  (hsw : swapsWith (.ListComp elt [⟨tgt,iter,ifs,0⟩] scope pos) (some (.Name y py)) spos.line X.env = pure true)
  (hc : X.calm = true) (S : CScope X scope NL ρ N') (hi : PI X tgt iter wi)
  (hg : ∀ C s₀ H₀ fp,PG (ccx X scope C N' s₀ H₀ fp) tgt g) (hb : ∀ C s₀ H₀ fp,PB (ccx X scope C N' s₀ H₀ fp) (fun acc => body acc (ccx X scope C N' s₀ H₀ fp).env) tb)
  (he : ∀ (it acc : Value) (env : Env),compTurn (.ListComp elt [⟨tgt,iter,ifs,0⟩] scope pos) 0 it acc env = (standAt iter.pos >>= fun _ => pyNext it >>= fun r => match r with
   | none => pure (.done .next)
   | some v => letOwnedTupleGo tgt it v >>= fun _ => assign tgt env v >>= fun _ => body acc env >>= fun _ => again (.compLoop (.ListComp elt [⟨tgt,iter,ifs,0⟩] scope pos) 0 it acc env)))
  (hs : ∀ x,foldedSetIterable iter X.env x = pure x := by intro _; rfl) : PS X (.Assign [.Name y py] (.ListComp elt [⟨tgt,iter,ifs,0⟩] scope pos) spos) (tAsg (tComp NL.length ρ wi g tb) (gName j)) := by
 intro pins s σ H D0 I h
 have free_in : ∀ x ∈ scope.names,x.2 = .free → ∃ c,X.env.cells.lookup x.1 = some c := fun x hx hk => I.ok.has x.1 (S.frees x hx hk)
 rw [exec_Assign_Name_used _ _ _ _ hsw]
 refine wpAny_bind (wpAny_standAt (wpAny_bind ?_))
 rw [arm_evalThenUse_ListComp]
 refine wpAny_bind (thn (Q := fun _ s' => SP X pins D0 .next s') ?_ fun _ s' q0 => wpAny_pure (wpAny_pure q0))
 refine wpAny_comprehension_free (use := some (assign (.Name y py) X.env)) (Q := fun _ s' => SP X pins D0 .next s') rfl hs (closure_is free_in) S.kind S.locs ?_
 refine thn (hi pins s σ H _ I h) fun v s1 h1 => thn h1 fun itv s2 h2 => ?_
 obtain ⟨it,fp,tn,J,H2,e,I2,T,st2,f2,w⟩ := h2
 subst e
 refine wpAny_newObj_type (wpAny_newFunctionEnv S.nocell (by intro y hy; simp at hy) (fun h₁ hns₁ hsb₁ => ?_) S.kind)
 dsimp only at hns₁ hsb₁ ⊢
 generalize hH2 : s2.heap.push { cls := .type "list",dict := none,data := .seq ([] : List Value).toArray } = h2' at hns₁ hsb₁ ⊢
 have hCs : h2'.objs.size = s2.heap.objs.size + 1 := by rw [← hH2,Heap.size_push]
 have hDC : s2.heap.objs.size ≠ h2'.objs.size := by rw [hCs]; exact Nat.ne_of_lt (Nat.lt_succ_self _)
 have hC : s2.heap.objs.size ≤ h2'.objs.size := by rw [hCs]; exact Nat.le_succ _
 have old : ∀ b o,s2.heap.get? b = some o → h₁.get? b = some o := fun b o e => hsb₁.extBut b o (Nat.ne_of_lt (Nat.lt_of_lt_of_le (Heap.lt_size e) hC)) (Heap.get?_push_of_some _ (hH2 ▸ Heap.get?_push_of_some _ e))
 have hd : h₁.get? s2.heap.objs.size = some { cls := .type "list",data := .seq #[] 0 } := hsb₁.extBut _ _ hDC (Heap.get?_push_of_some _ (hH2 ▸ Heap.get?_push_size _ rfl))
 have hfo : ∀ b ∈ fp,∃ o,s2.heap.get? b = some o := fun b hb => let ⟨o,e,_⟩ := T.obj _ _ st2 b hb; ⟨o,e⟩
 have I4 : Inv (ccx X scope h2'.objs.size N' s2 H2 fp) (X.pn ++ pins) (cst NL.length ρ σ) (upd H2 s2.heap.objs.size (.lst [])) { s2 with heap := h₁,toks := s2.toks + ([] : List (Str × Value)).length } :=
  Inv.comp S I2 f2 hfo hC (Nat.le_refl _) hDC old hd (by simpa using hns₁)
 have hD0 : H2 s2.heap.objs.size = none := I2.hok.fresh (Nat.le_refl _)
 have nfp : s2.heap.objs.size ∉ fp := fun z => by
  obtain ⟨o,e⟩ := hfo _ z
  exact absurd (Heap.lt_size e) (Nat.lt_irrefl _)
 obtain ⟨W,⟨m0,w0⟩,turn⟩ := w s2.heap.objs.size hD0
 have stat : ∀ {H' : Hp},(∀ b ∈ fp,H' b = none) → ∀ b ∈ fp,FpOk (ccx X scope h2'.objs.size N' s2 H2 fp) (X.pn ++ pins) H' b := fun {H'} hn b hb => by
  obtain ⟨f0,f1,f2',f3,f4,f5⟩ := f2 b hb
  have ok := I4.ok
  refine ⟨hn b hb,(ok.exf b hb).1,ok.exfs b hb,.inl hb,(ok.exf b hb).2,fun p hp => f5 p hp⟩
 have loop : ∀ s₃ : Shared,s₃ = { s2 with heap := h₁,toks := s2.toks + ([] : List (Str × Value)).length } →
   codeAny (model X.prog X.w) X.A (.compLoop (.ListComp elt [⟨tgt,iter,ifs,0⟩] scope pos) 0 (.ref it) (.ref s2.heap.objs.size) (compEnvC scope (cloOf X.env scope.names []) h2'.objs.size X.env))
    (compPost (model X.prog X.w) X.A X.xe (some (assign (.Name y py) X.env)) (fun _ s' => SP X pins D0 .next s') (.ref s2.heap.objs.size) h2'.objs.size) s₃ := by
  rintro s₃ rfl
  refine codeAny_loop rfl (fun n s' => ∃ i ys σ' H',Inv (ccx X scope h2'.objs.size N' s2 H2 fp) (X.pn ++ pins) σ' H' s' ∧ tn i s'.heap ∧ (∀ b ∈ fp,H' b = none) ∧ W i n ys σ' H') (fun n s3 hI => ?_) m0
   ⟨0,[],_,_,I4,T.keep _ _ _ st2 (fun b _ o e => old b o e),fun b hb => ?_,w0⟩
  ·obtain ⟨i,ys,σ3,H3,I3,st3,fr3,w3⟩ := hI
   show wpAny _ _ ((compTurn (.ListComp elt [⟨tgt,iter,ifs,0⟩] scope pos) 0 (.ref it) (.ref s2.heap.objs.size) (compEnvC scope (cloOf X.env scope.names []) h2'.objs.size X.env)).onRaise (fun x => do noteFrame x _; theTreesLotGoes x)) _ _ s3
   refine wpAny_noted ?_
   rw [he]
   refine wpAny_bind (wpAny_standAt (wpAny_bind ?_))
   rcases turn i n ys σ3 H3 w3 with ⟨stop,qn⟩ | ⟨go,step⟩
   ·refine thn (T.done (ccx X scope h2'.objs.size N' s2 H2 fp) rfl rfl rfl hc i _ s3 σ3 H3 _ I3 (stat fr3) st3 stop) fun r s4 ⟨hr,I5⟩ => ?_
    subst hr
    refine wpAny_pure ?_
    obtain ⟨m,hm,_⟩ := id I5.loc
    have IX : Inv X pins σ H3 { s4 with heap := s4.heap } := Inv.compEnd I2 f2 hC I5 (Heap.SameBut.refl _ _)
    have cne : ∀ x c,X.env.cells.lookup x = some c → c ≠ h2'.objs.size := fun x c ec z => by
     obtain ⟨v0,oc,hoc,_⟩ := I2.cell x c ec
     exact absurd (Nat.lt_of_lt_of_le (Heap.lt_size hoc) hC) (by rw [z]; exact Nat.lt_irrefl _)
    have lne : h2'.objs.size ≠ X.env.locals := Nat.ne_of_gt (Nat.lt_of_lt_of_le I2.lt hC)
    refine wpAny_assign_Name (store_ok2 IX hN hj hy (v := .ref s2.heap.objs.size) rfl (fun s5 I6 ⟨a,sb,ha⟩ => ?_) hfn)
    have na : h2'.objs.size ≠ a := fun z => by
     rcases ha with e | e
     ·exact lne (z.trans e)
     ·exact cne _ _ e z.symm
    refine ⟨m,hm.at' fun o e => (sb.2 _ na).trans e,fun h' hs' => ⟨_,H3,?_,qn⟩⟩
    exact I6.turned (t' := s5.toks) (fun b o hb' e => (hs'.2 b hb').trans e) I5.free lne (.inr (Nat.le_trans I2.sz hC)) cne fun q hq z => by
     obtain ⟨e,_⟩ := I2.pin q hq
     exact absurd (Nat.lt_of_lt_of_le (Heap.lt_size e) hC) (by rw [z]; exact Nat.lt_irrefl _)
   ·refine thn (T.item (ccx X scope h2'.objs.size N' s2 H2 fp) rfl rfl rfl hc i _ s3 σ3 H3 _ I3 (stat fr3) st3 go) fun r s4 ⟨u,hr,h4⟩ => ?_
    subst hr
    refine wpAny_bind (thn h4 fun _ s5 ⟨x,H5,I5,r5,y5,st5,fr5⟩ => ?_)
    have I5' := I5.pinned (stat fr5) (T.obj _ _ st5)
    refine wpAny_bind (wpAny_mono (hg h2'.objs.size s2 H2 fp _ s5 σ3 H5 x u _ I5' r5 (step x H5 y5)) (fun _ s6 ⟨σ6,H6,I6,q6⟩ => ?_) fun _ _ z => z.elim)
    refine wpAny_bind (wpAny_mono (hb h2'.objs.size s2 H2 fp _ s6 σ6 H6 s2.heap.objs.size ys _ I6 q6) (fun _ s7 ⟨ys7,σ7,H7,I7,m',hm,w7⟩ => ?_) fun _ _ z => z.elim)
    refine wpAny_pure ⟨rfl,m',hm,i + 1,ys7,σ7,H7,I7.unpinned,T.keep _ _ _ st5 fun b hb o e => (I7.pin (b,o) (List.mem_append_right _ (List.mem_append_right _ (mem_pinsAt hb e)))).1,fun b hb => ?_,w7⟩
    obtain ⟨o,e,d⟩ := T.obj _ _ st5 b hb
    exact (I7.pin (b,o) (List.mem_append_right _ (List.mem_append_right _ (mem_pinsAt hb e)))).2.1
  ·rw [upd_ne (show b ≠ s2.heap.objs.size from fun z => nfp (by rw [← z]; exact hb))]
   exact (f2 b hb).1
 refine codeAny_compStart_list (loop _ rfl) (T.self _ 0 _ _ _ ?_ (loop _ rfl))
 exact T.keep _ _ _ st2 fun b _ o e => old b o e
theorem ps_setC {elt tgt iter : Expr} {scope : Scope} {pos spos py : Pos} {NL N' : List Str} {ρ : List Nat} {wi : TI} {g : TG} {te : TE} {j : Nat} {y : Str} (hN : X.N.Nodup) (hj : X.N[j]? = some y) (hy : Loc X.env.scope y)
  (hc : X.calm = true) (S : CScope X scope NL ρ N') (hi : PI X tgt iter wi) (hg : ∀ C s₀ H₀ fp,PG (ccx X scope C N' s₀ H₀ fp) tgt g) (he : ∀ C s₀ H₀ fp,PE (ccx X scope C N' s₀ H₀ fp) elt te)
  (hsw : swapsWith (.ListComp elt [⟨tgt,iter,[],0⟩] scope pos) (some (.Name y py)) spos.line X.env = pure true := by rfl) (hfn : X.fn y = true ∨ X.env.scope.names.lookup y = some .local := by first | exact .inl rfl | exact .inr rfl | assumption)
  (hs : ∀ x,foldedSetIterable iter X.env x = pure x := by intro _; rfl) : PS X (.Assign [.Name y py] (.ListComp elt [⟨tgt,iter,[],0⟩] scope pos) spos) (tAsg (tComp NL.length ρ wi g (cEl te)) (gName j)) :=
 ps_compG (body := fun acc env => do let x ← eval elt env; let _ ← call (.builtin "list.append") [acc,x]; pure ()) hN hj hy hfn hsw hc S hi hg (fun C s₀ H₀ fp => pb_el (he C s₀ H₀ fp)) (fun it acc env => turn_eq0 elt tgt iter scope pos it acc env) hs
end
end L2
set_option Elab.async false
set_option linter.all false
set_option maxRecDepth 100000
namespace L2
open PySem PySem.Spec PyProof.Rows
section
variable {X : Cx}
variable {K : PySem.W.Frag}
theorem pe_tupPK {es : List Expr} {x1 : Nat} {pos : Pos} {t : TA} (hK : X.K = K) (h : PA X es t) : PE X (.Tuple es x1 pos) (tTupP K t) := by subst hK; exact pe_tupP h
theorem ix_listK (hK : X.K = K) : IxR X (rIxL K) := by subst hK; exact ix_list
theorem op_in_seqK (hK : X.K = K) : OpR X (compareOp .In) (rIn K false) := by subst hK; exact op_in_seq
theorem op_notIn_seqK (hK : X.K = K) : OpR X (compareOp .NotIn) (rIn K true) := by subst hK; exact op_notIn_seq
end
end L2
set_option Elab.async false
set_option linter.all false
set_option maxRecDepth 100000
set_option maxHeartbeats 4000000
namespace L2
open PySem PySem.Spec PyProof.Rows
section
variable {X : Cx}
end
end L2
set_option Elab.async false
set_option linter.all false
set_option maxRecDepth 100000
namespace L2
open PySem PySem.Spec PyProof.Rows
section
variable {X : Cx}
theorem strs_vals : ∀ {ss : List Str} {us : List Value},Vals (ss.map V.str) us → StrsAre us ss
 | [],us,h => by cases h; exact .nil
 | z :: ss,us,h => by
  cases h with
  | cons r rr =>
   obtain ⟨t,rfl⟩ := r
   exact .cons z t (strs_vals rr)
theorem vals_strs : ∀ {ss : List Str} {us : List Value},StrsAre us ss → Vals (ss.map V.str) us
 | _,_,.nil => .nil
 | _,_,.cons z t r => .cons ⟨t,rfl⟩ (vals_strs r)
theorem call_sortS : CallR X (.builtin "sorted") (fun xs H Q => ∃ (p : Addr) (ss : List Str),xs = [.ref p] ∧ SqL X.K H p (ss.map V.str) ∧ ss.length < 64 ∧ ∀ a ss',H a = none → ss'.Perm ss → sortedS ss' = true → Q (.ref a) (upd H a (.lst (ss'.map V.str)))) := by
 intro pins s σ H xs us Q I r h
 obtain ⟨p,ss,rfl,hp,hl,q⟩ := h
 obtain ⟨u,rfl,rx⟩ := vals1 r
 cases rx
 obtain ⟨its,rv,pl,hz⟩ := I.list hp
 have el := rv.length
 rw [List.length_map] at el
 refine sorted_strs pl.isList (strs_vals rv) (by lia) fun out ss' h1 h2 h3 => ?_
 obtain ⟨e,he⟩ := sortedAll_at s.heap its out
 have hn : H (s.heap.objs.size + 1) = none := I.hok.fresh (Nat.le_succ _)
 refine ⟨.ref (s.heap.objs.size + 1),_,I.laid (t' := s.toks) (o := .lst (ss'.map V.str)) (fun b o => sortedAll_old) (Nat.le_succ _) ?_,rfl,q _ _ hn h2 h3⟩
 have e2 : seqObj "list" out e = seqObj "list" out.toList.toArray e := by rw [Array.toArray_toList]
 refine ⟨?_,out.toList,e,vals_strs h1,?_⟩
 ·rw [List.length_map,h2.length_eq]
  exact Nat.le_of_lt (Nat.lt_trans hl (by decide))
 ·rw [he,e2]
end
end L2
set_option Elab.async false
set_option linter.all false
set_option maxRecDepth 100000
namespace L2
open PySem PySem.Spec PyProof.Rows
noncomputable abbrev two (v : Value) (c : Nat) : Obj := { cls := .type "list",dict := none,data := .seq #[v,v] c,slots := #[] }
section
variable {prog : Program} {w : World} {A : Around} {R : Result → Shared → Prop} {it : Addr} {fp wr : List Addr} {n : Nat} {P : Nat → Value → Prop} {St : Nat → Heap → Prop}
end
section
variable {prog : Program} {w : World} {A : Around} {E : Value → Shared → Prop} {s : Shared} {l : Addr} {zs : Array (Int × Tok)} {d : Value} {Q : Value → Shared → Prop}
end
section
variable {X : Cx}
end
end L2
namespace L2
open PySem PySem.Spec PyProof.Rows
section
variable {X : Cx} {K : PySem.W.Frag}
end
end L2
namespace L2
open PySem PySem.Spec PyProof.Rows
section
variable {l : Addr} {g : TG} {tb : List V → Addr → St → Hp → (List V → St → Hp → Prop) → Prop} {R : Hp → Prop} {σ0 : St} {H0 : Hp} {lo : Int} {n : Nat} {z : Str}
theorem comp_rangeR (Pv : Nat → List V → St → Hp → Prop) (h0 : Pv 0 [] σ0 H0) (hs : ∀ i ys σ H (N : List V → St → Hp → Prop),i < n → Pv i ys σ H → (∀ ys' σ' H',Pv (i + 1) ys' σ' H' → N ys' σ' H') → g (.int (lo + i)) σ H fun σ2 H2 => tb ys l σ2 H2 N) (hd : ∀ ys σ H,Pv n ys σ H → R H) :
  ∃ W : Nat → Nat → List V → St → Hp → Prop,(∃ m,W 0 m [] σ0 H0) ∧ ∀ i m ys σ' H',W i m ys σ' H' → ((Itr lo n).stop i H' ∧ R H') ∨ ((Itr lo n).go i H' ∧ ∀ x H'',(Itr lo n).yld i H' x H'' → g x σ' H'' fun σ2 H2 => tb ys l σ2 H2 fun ys' σ3 H3 => ∃ m',m' < m ∧ W (i + 1) m' ys' σ3 H3) := comp_range (Q := fun _ H => R H) Pv h0 hs hd
end
end L2
set_option Elab.async false
set_option linter.all false
set_option maxRecDepth 100000
namespace L2
open PySem PySem.Spec PyProof.Rows
section
variable {X : Cx} {K : PySem.W.Frag}
inductive JIxP (K : PySem.W.Frag) (x y : V) (H : Hp) (Q : VK) : Prop
 | mk (l : List Dt) (i : Int) (d : Dt) : (IsP K H (.tup l) x) → (y = .int i) → (atI l i = some d) → (∀ v,IsP K H d v → Q v H) → JIxP K x y H Q
noncomputable def nIxP (K : PySem.W.Frag) : R2 := fun x y H Q => JIxP K x y H Q
inductive JLenD (K : PySem.W.Frag) (xs : List V) (H : Hp) (Q : VK) : Prop
 | mk (x : V) (l : List Dt) : (xs = [x]) → (IsD K H (.tup l) x) → (Q (.int l.length) H) → JLenD K xs H Q
noncomputable def nLenD (K : PySem.W.Frag) : List V → Hp → VK → Prop := fun xs H Q => JLenD K xs H Q
inductive JIsi (K : PySem.W.Frag) (xs : List V) (H : Hp) (Q : VK) : Prop
 | mk (x : V) (T : String) (b : Bool) : (xs = [x,.ty T]) → (IsiB K H x T b) → (Q (.bl b) H) → JIsi K xs H Q
noncomputable def nIsi (K : PySem.W.Frag) : List V → Hp → VK → Prop := fun xs H Q => JIsi K xs H Q
inductive JTupP (K : PySem.W.Frag) (xs : List V) (H : Hp) (Q : VK) : Prop
 | mk (p : Addr) (ys : List V) (l : List Dt) : (xs = [.ref p]) → (SqL K H p ys) → (IsPs K H l ys) → (∀ v H',Same H H' → IsP K H' (.tup l) v → Q v H') → JTupP K xs H Q
noncomputable def nTupP (K : PySem.W.Frag) : List V → Hp → VK → Prop := fun xs H Q => JTupP K xs H Q
theorem ix_tupPN (hK : X.K = K) : IxR X (nIxP K) := by
 subst hK
 intro e1 e2 pins s σ H x y v u Q I rx ry h hs
 obtain ⟨l,i,d,a,b,c,q⟩ := h
 exact ix_tupP _ _ _ _ _ _ _ _ _ _ _ I rx ry ⟨l,i,d,a,b,c,q⟩ hs
theorem op_neDN (hK : X.K = K) (hu : X.A.units + 64 < cLine) : OpR X (compareOp .NotEq) (rNeD K) := by subst hK; exact op_neD hu
theorem call_lenDN (hK : X.K = K) : CallR X (.builtin "len") (nLenD K) := by
 subst hK
 intro pins s σ H xs us Q I r h
 obtain ⟨x,l,a,b,q⟩ := h
 exact call_lenD _ _ _ _ _ _ _ I r ⟨x,l,a,b,q⟩
theorem call_isiN' (hK : X.K = K) : CallR X (.builtin "isinstance") (nIsi K) := by
 subst hK
 intro pins s σ H xs us Q I r h
 obtain ⟨x,l,m,a,b,q⟩ := h
 exact call_isi _ _ _ _ _ _ _ I r ⟨x,l,m,a,b,q⟩
theorem call_tuplePN (hK : X.K = K) : CallR X (.type "tuple") (nTupP K) := by
 subst hK
 intro pins s σ H xs us Q I r h
 obtain ⟨x,l,m,a,b,c,q⟩ := h
 exact call_tupleP _ _ _ _ _ _ _ I r ⟨x,l,m,a,b,c,q⟩
theorem pi_tupN {tg l : Expr} {tl : TE} (hK : X.K = K) (hl : PE X l tl) : PI X tg l (iTup K tl) := by subst hK; exact pi_tup hl
theorem pi_listN {tg l : Expr} {tl : TE} (hK : X.K = K) (hl : PE X l tl) : PI X tg l (iList K tl) := by subst hK; exact pi_list hl
end
end L2
set_option Elab.async false
set_option linter.all false
set_option maxRecDepth 100000
namespace L2
open PySem PySem.Spec PyProof.Rows
end L2
set_option Elab.async false
set_option linter.all false
set_option maxRecDepth 100000
namespace L2
open PySem PySem.Spec PyProof.Rows
section
variable {prog : Program} {w : World} {A : Around} {E : Value → Shared → Prop} {s : Shared}
theorem nextT_item {b t : Addr} {k : Nat} {its : Array Value} {v : Value} {Q : Value → Shared → Prop} (hb : IsTupIter s.heap b t k) (ht : IsTup s.heap t its) (hv : its[k]? = some v)
  (q : ∀ h',IsTupIter h' b t (k + 1) → Heap.SameBut b s.heap h' → Q v { s with heap := h' }) : wpAny (model prog w) A (Builtin.SmallTypes.nextOf (.ref b)) Q E s := by
 obtain ⟨ob,gb,cb,db⟩ := id hb
 obtain ⟨ot,gt,_,nt,dt⟩ := ht
 unfold Builtin.SmallTypes.nextOf
 refine wpAny_bind (wpAny_callSpecial?_slot (name := Str.ofString "__next__") hb.typeIs slot_tupleiter_next (wpAny_call_entry slot_tupleiter_next hb.typeIs entry_tupleiter_next ?_ (args_tupleiter_next _)))
 refine show wpAny _ _ (field (.ref b) 0 >>= _) _ _ s from wpAny_bind (wpAny_field gb db (x := .ref t) rfl ?_)
 refine show wpAny _ _ (if (Value.ref t == Value.none) = true then _ else _) _ _ s from ?_
 rw [if_neg (by exact Bool.false_ne_true)]
 refine show wpAny _ _ (field (.ref b) 1 >>= _) _ _ s from wpAny_bind (wpAny_field gb db (x := .int k 0) rfl ?_)
 refine show wpAny _ _ (seqItems? (.ref t) >>= _) _ _ s from wpAny_bind (wpAny_seqItems gt dt ?_)
 simp only [hv,Int.toNat_natCast]
 refine wpAny_bind (wpAny_setField gb db (by simp) (wpAny_pure ⟨v,rfl,wpAny_pure (q _ ⟨_,Heap.get?_update_self _ gb (Obj.isFreed_of_fields (Obj.data_mapFields db _)),(Obj.cls_mapFields ..).trans cb,?_⟩ (Heap.SameBut.update ..))⟩))
 rw [Obj.data_mapFields db]
 simp [rawInt]
theorem nextT_end {b t : Addr} {k : Nat} {its : Array Value} {Q : Value → Shared → Prop} (hh : A.handled = none) (hb : IsTupIter s.heap b t k) (ht : IsTup s.heap t its) (hv : its[k]? = none)
  (q : ∀ h' e,Heap.ExtBut b s.heap h' → (∃ o,h'.get? e = some o ∧ o.cls = .type "StopIteration") → E (.ref e) { s with heap := h' }) : wpAny (model prog w) A (Builtin.SmallTypes.nextOf (.ref b)) Q E s := by
 obtain ⟨ob,gb,cb,db⟩ := id hb
 obtain ⟨ot,gt,_,nt,dt⟩ := ht
 unfold Builtin.SmallTypes.nextOf
 refine wpAny_bind (wpAny_callSpecial?_slot (name := Str.ofString "__next__") hb.typeIs slot_tupleiter_next (wpAny_call_entry slot_tupleiter_next hb.typeIs entry_tupleiter_next ?_ (args_tupleiter_next _)))
 refine show wpAny _ _ (field (.ref b) 0 >>= _) _ _ s from wpAny_bind (wpAny_field gb db (x := .ref t) rfl ?_)
 refine show wpAny _ _ (if (Value.ref t == Value.none) = true then _ else _) _ _ s from ?_
 rw [if_neg (by exact Bool.false_ne_true)]
 refine show wpAny _ _ (field (.ref b) 1 >>= _) _ _ s from wpAny_bind (wpAny_field gb db (x := .int k 0) rfl ?_)
 refine show wpAny _ _ (seqItems? (.ref t) >>= _) _ _ s from wpAny_bind (wpAny_seqItems gt dt ?_)
 simp only [hv,Int.toNat_natCast]
 refine wpAny_bind (wpAny_rule (wpAny_bind (wpAny_setField gb db (by simp) ?_)))
 refine show wpAny _ _ (newExc (.type "StopIteration") [] >>= _) _ _ _ from wpAny_bind ?_
 simp only [newTuple,newExc]
 refine wpAny_bind (wpAny_newObj_type (wpAny_bind (m := firstArgMember _ _) (wpAny_of_eq (a := Value.none) (by first | rfl | (simp only [firstArgMember]; rfl)) (wpAny_newObj_type ?_ (by size_fits)))) (by size_fits))
 simp only [raiseNew]
 refine wpAny_bind (wpAny_handled ?_)
 rw [show A.in1.handled = none from hh]
 exact wpAny_bind (wpAny_pure (wpAny_throw (q _ _ (((Heap.SameBut.update ..).extBut.push _).push _) ⟨_,Heap.get?_push_size _ rfl,rfl⟩)))
theorem zipT_item {z P0 P1 u v l m : Addr} {k : Nat} {xs ys : Array Value} {x y a b : Value} {Q : Option Value → Shared → Prop} (D : ZipApart z P0 P1 u v l m) (Z : IsZip s.heap z P0 P1 .none) (I0 : IsPair s.heap P0 (.ref u) (.ref v)) (I1 : IsPair s.heap P1 a b)
  (wu : IsTupIter s.heap u l k) (wv : IsTupIter s.heap v m k) (tl : IsTup s.heap l xs) (tm : IsTup s.heap m ys) (ex : xs[k]? = some x) (ey : ys[k]? = some y)
  (q : ∀ h',IsZip h' z P0 P1 (rawInt s.heap.objs.size) → IsPair h' P1 x y → IsTupIter h' u l (k + 1) → IsTupIter h' v m (k + 1) → IsPair h' s.heap.objs.size x y → h'.objs.size = s.heap.objs.size + 1 →
   (∀ c o,c ≠ z → c ≠ P1 → c ≠ u → c ≠ v → s.heap.get? c = some o → h'.get? c = some o) → Q (some (.ref s.heap.objs.size)) { s with heap := h' }) : wpAny (model prog w) A (pyNext (.ref z)) Q E s := by
 have hT : s.TypeIs (.ref z) "zip" := ⟨_,Z,rfl⟩
 unfold pyNext
 refine wpAny_bind (wpAny_attempt (wpAny_callSpecial?_slot (name := Str.ofString "__next__") hT F.slot_zip_next (wpAny_call_entry F.slot_zip_next hT F.entry_zip_next ?_ (F.args_zip_next_1 _))))
 refine show wpAny _ _ (field (.ref z) 2 >>= _) _ _ _ from wpAny_bind (wpAny_field Z rfl (x := .bool false) rfl ?_)
 refine show wpAny _ _ (field (.ref z) 3 >>= _) _ _ _ from wpAny_bind (wpAny_field Z rfl (x := .ref P0) rfl (wpAny_bind (wpAny_seqItems I0 rfl ?_)))
 refine show wpAny _ _ (Builtin.SmallTypes.ownedTupleIsFree (.ref z) >>= _) _ _ _ from wpAny_bind ?_
 unfold Builtin.SmallTypes.ownedTupleIsFree
 refine wpAny_bind (wpAny_field Z rfl (x := .none) rfl (wpAny_pure ?_))
 rw [if_pos rfl]
 refine wpAny_bind (wpAny_rule (wpAny_bind (wpAny_field Z rfl (x := .ref P1) rfl (wpAny_bind (wpAny_setField_rec Z (by simp) fun ha Za sa => ?_)))))
 replace Za : IsZip ha z P0 P1 .ellipsis := Za
 refine wpAny_bind ?_
 simp only [List.zipIdx_cons,List.forIn_cons,List.zipIdx_nil,List.forIn_nil]
 refine wpAny_bind (wpAny_bind (wpAny_onRaise ?_))
 refine show wpAny _ _ (Builtin.SmallTypes.nextOf (.ref u) >>= _) _ _ _ from wpAny_bind (nextT_item (wu.extBut sa.extBut D.i1z) (tl.extBut sa.extBut D.l1z) ex fun hb wb sb => wpAny_pure ?_)
 have Ib : IsPair hb P1 a b := sb.extBut _ _ D.TOi1 (sa.extBut _ _ D.TOz I1)
 refine wpAny_bind (wpAny_seqItems Ib rfl (wpAny_bind (wpAny_updateSeq_pair Ib fun hc Ic sc => wpAny_bind (wpAny_letGo (wpAny_pure ?_)))))
 replace Ic : IsPair hc P1 x b := Ic
 refine wpAny_bind (wpAny_bind (wpAny_onRaise ?_))
 refine show wpAny _ _ (Builtin.SmallTypes.nextOf (.ref v) >>= _) _ _ _ from wpAny_bind (nextT_item (((wv.extBut sa.extBut D.i2z).extBut sb.extBut D.i12.symm).extBut sc.extBut D.TOi2.symm) (((tm.extBut sa.extBut D.l2z).extBut sb.extBut D.l2i1).extBut sc.extBut D.l2TO) ey fun hd wd sd => wpAny_pure ?_)
 have Id : IsPair hd P1 x b := sd.extBut _ _ D.TOi2 Ic
 refine wpAny_bind (wpAny_seqItems Id rfl (wpAny_bind (wpAny_updateSeq_pair Id fun he Ie se => wpAny_bind (wpAny_letGo (wpAny_pure (wpAny_pure ?_))))))
 replace Ie : IsPair he P1 x y := Ie
 refine wpAny_bind (wpAny_seqItems Ie rfl (wpAny_bind (wpAny_newTuple ?_)))
 have size : he.objs.size = s.heap.objs.size := by rw [se.1,sd.1,sc.1,sb.1,sa.1]
 have Ze : IsZip he z P0 P1 .ellipsis := se.extBut _ _ D.TOz.symm (sd.extBut _ _ D.i2z.symm (sc.extBut _ _ D.TOz.symm (sb.extBut _ _ D.i1z.symm Za)))
 have keep : ∀ c o,c ≠ z → c ≠ P1 → c ≠ u → c ≠ v → s.heap.get? c = some o → he.get? c = some o := fun c o n1 n2 n3 n4 e => se.extBut _ _ n2 (sd.extBut _ _ n4 (sc.extBut _ _ n2 (sb.extBut _ _ n3 (sa.extBut _ _ n1 e))))
 have we : IsTupIter he u l (k + 1) := ((wb.extBut sc.extBut D.TOi1.symm).extBut sd.extBut D.i12).extBut se.extBut D.TOi1.symm
 have we' : IsTupIter he v m (k + 1) := wd.extBut se.extBut D.TOi2.symm
 have ltz : z < he.objs.size := Heap.lt_size Ze
 refine show wpAny _ _ (Builtin.SmallTypes.ownedTupleHandOut (.ref z) (.ref he.objs.size) >>= _) _ _ _ from wpAny_bind ?_
 unfold Builtin.SmallTypes.ownedTupleHandOut
 have Zf : IsZip (he.push { cls := .type "tuple",data := .seq #[x,y] }) z P0 P1 .ellipsis := Heap.get?_push_of_some _ Ze
 refine wpAny_bind (wpAny_setField_rec Zf (by simp) fun hg Zg sg => ?_)
 replace Zg : IsZip hg z P0 P1 (rawInt he.objs.size) := Zg
 refine wpAny_setField_rec Zg (by simp) fun hi Zi si => ?_
 replace Zi : IsZip hi z P0 P1 (rawInt he.objs.size) := Zi
 have up : ∀ c o,c ≠ z → he.get? c = some o → hi.get? c = some o := fun c o n e => si.extBut _ _ n (sg.extBut _ _ n (Heap.get?_push_of_some _ e))
 have Ti : IsPair hi he.objs.size x y := si.extBut _ _ (Nat.ne_of_gt ltz) (sg.extBut _ _ (Nat.ne_of_gt ltz) (Heap.get?_push_size _ rfl))
 have size' : hi.objs.size = he.objs.size + 1 := by rw [si.1,sg.1,Heap.size_push]
 refine wpAny_pure ⟨_,rfl,wpAny_pure ?_⟩
 rw [size] at Zi Ti size'
 have go := q hi Zi (up _ _ D.TOz Ie) (by obtain ⟨o,e,r⟩ := we; exact ⟨o,up _ o D.i1z e,r⟩) (by obtain ⟨o,e,r⟩ := we'; exact ⟨o,up _ o D.i2z e,r⟩) Ti size' fun c o n1 n2 n3 n4 e => up c o n1 (keep c o n1 n2 n3 n4 e)
 rw [← size] at go
 exact go
theorem zipT_end {z P0 P1 u v l m : Addr} {k : Nat} {xs ys : Array Value} {a b : Value} {Q : Option Value → Shared → Prop} (hh : A.handled = none) (D : ZipApart z P0 P1 u v l m) (Z : IsZip s.heap z P0 P1 .none) (I0 : IsPair s.heap P0 (.ref u) (.ref v)) (I1 : IsPair s.heap P1 a b)
  (wu : IsTupIter s.heap u l k) (wv : IsTupIter s.heap v m k) (tl : IsTup s.heap l xs) (tm : IsTup s.heap m ys) (no : xs[k]? = none ∨ ys[k]? = none)
  (q : ∀ h',(∀ c o,c ≠ z → c ≠ P1 → c ≠ u → c ≠ v → s.heap.get? c = some o → h'.get? c = some o) → Q none { s with heap := h' }) : wpAny (model prog w) A (pyNext (.ref z)) Q E s := by
 have hT : s.TypeIs (.ref z) "zip" := ⟨_,Z,rfl⟩
 unfold pyNext
 refine wpAny_bind (wpAny_attempt (wpAny_callSpecial?_slot (name := Str.ofString "__next__") hT F.slot_zip_next (wpAny_call_entry F.slot_zip_next hT F.entry_zip_next ?_ (F.args_zip_next_1 _))))
 refine show wpAny _ _ (field (.ref z) 2 >>= _) _ _ _ from wpAny_bind (wpAny_field Z rfl (x := .bool false) rfl ?_)
 refine show wpAny _ _ (field (.ref z) 3 >>= _) _ _ _ from wpAny_bind (wpAny_field Z rfl (x := .ref P0) rfl (wpAny_bind (wpAny_seqItems I0 rfl ?_)))
 refine show wpAny _ _ (Builtin.SmallTypes.ownedTupleIsFree (.ref z) >>= _) _ _ _ from wpAny_bind ?_
 unfold Builtin.SmallTypes.ownedTupleIsFree
 refine wpAny_bind (wpAny_field Z rfl (x := .none) rfl (wpAny_pure ?_))
 rw [if_pos rfl]
 refine wpAny_bind (wpAny_rule (wpAny_bind (wpAny_field Z rfl (x := .ref P1) rfl (wpAny_bind (wpAny_setField_rec Z (by simp) fun ha Za sa => ?_)))))
 replace Za : IsZip ha z P0 P1 .ellipsis := Za
 refine wpAny_bind ?_
 simp only [List.zipIdx_cons,List.forIn_cons,List.zipIdx_nil,List.forIn_nil]
 refine wpAny_bind (wpAny_bind (wpAny_onRaise ?_))
 have stop : ∀ {h' : Heap} {e : Addr},(∃ o,h'.get? e = some o ∧ o.cls = .type "StopIteration") → IsZip h' z P0 P1 .ellipsis → e ≠ z := fun he hz c => by
  obtain ⟨o,ho,hc⟩ := he
  subst c
  rw [hz] at ho
  cases ho
  simp at hc
 have fin : ∀ {h' : Heap} {e : Addr},(∃ o,h'.get? e = some o ∧ o.cls = .type "StopIteration") → (∀ c o,c ≠ z → c ≠ P1 → c ≠ u → c ≠ v → s.heap.get? c = some o → h'.get? c = some o) →
   wpAny (model prog w) A (do if (← isInstance (.ref e) (.type "StopIteration")) then pure none else throw (.ref e)) Q E { s with heap := h' } := fun {h' e} he hk => by
  obtain ⟨o,ho,hc⟩ := he
  exact wpAny_bind (wpAny_isInstance (T := "StopIteration") (b := true) ⟨o,ho,hc⟩ isSubtype_stop (wpAny_pure (q _ hk)))
 cases ex : xs[k]? with
 | none =>
  refine show wpAny _ _ (Builtin.SmallTypes.nextOf (.ref u) >>= _) _ _ _ from wpAny_bind (nextT_end hh (wu.extBut sa.extBut D.i1z) (tl.extBut sa.extBut D.l1z) ex fun hb e sb he => ?_)
  have Zb : IsZip hb z P0 P1 .ellipsis := sb _ _ D.i1z.symm Za
  have ne := stop he Zb
  obtain ⟨o,ho,hc⟩ := he
  exact wpAny_setField_rec Zb (by simp) fun hd _ sd => fin ⟨o,sd.extBut _ _ ne ho,hc⟩ fun c o n1 _ n3 _ e => sd.extBut _ _ n1 (sb _ _ n3 (sa.extBut _ _ n1 e))
 | some x =>
  have ey : ys[k]? = none := no.resolve_left (by rw [ex]; simp)
  refine show wpAny _ _ (Builtin.SmallTypes.nextOf (.ref u) >>= _) _ _ _ from wpAny_bind (nextT_item (wu.extBut sa.extBut D.i1z) (tl.extBut sa.extBut D.l1z) ex fun hb wb sb => wpAny_pure ?_)
  have Ib : IsPair hb P1 a b := sb.extBut _ _ D.TOi1 (sa.extBut _ _ D.TOz I1)
  refine wpAny_bind (wpAny_seqItems Ib rfl (wpAny_bind (wpAny_updateSeq_pair Ib fun hc Ic sc => wpAny_bind (wpAny_letGo (wpAny_pure (wpAny_bind (wpAny_bind (wpAny_onRaise ?_))))))))
  refine show wpAny _ _ (Builtin.SmallTypes.nextOf (.ref v) >>= _) _ _ _ from wpAny_bind (nextT_end hh (((wv.extBut sa.extBut D.i2z).extBut sb.extBut D.i12.symm).extBut sc.extBut D.TOi2.symm) (((tm.extBut sa.extBut D.l2z).extBut sb.extBut D.l2i1).extBut sc.extBut D.l2TO) ey fun hd e sd he => ?_)
  have Zd : IsZip hd z P0 P1 .ellipsis := sd _ _ D.i2z.symm (sc.extBut _ _ D.TOz.symm (sb.extBut _ _ D.i1z.symm Za))
  have ne := stop he Zd
  obtain ⟨o,ho,hcl⟩ := he
  exact wpAny_setField_rec Zd (by simp) fun hf _ sf => fin ⟨o,sf.extBut _ _ ne ho,hcl⟩ fun c o n1 n2 n3 n4 e => sf.extBut _ _ n1 (sd _ _ n4 (sc.extBut _ _ n2 (sb.extBut _ _ n3 (sa.extBut _ _ n1 e))))
theorem walkT (hh : A.handled = none) (z P0 P1 u v l m : Addr) (D : ZipApart z P0 P1 u v l m) (xs ys : Array Value) :
  WalksT prog w A z [z,P0,P1,u,v,l,m] [z,P1,u,v] (min xs.size ys.size) (fun i vals => ∃ x y,xs[i]? = some x ∧ ys[i]? = some y ∧ vals = #[x,y])
   (fun i h => IsZip h z P0 P1 .none ∧ IsPair h P0 (.ref u) (.ref v) ∧ (∃ a b,IsPair h P1 a b) ∧ IsTupIter h u l i ∧ IsTupIter h v m i ∧ IsTup h l xs ∧ IsTup h m ys)
   (fun i T h => IsZip h z P0 P1 (rawInt T) ∧ IsPair h P0 (.ref u) (.ref v) ∧ (∃ a b,IsPair h P1 a b) ∧ IsTupIter h u l (i + 1) ∧ IsTupIter h v m (i + 1) ∧ IsTup h l xs ∧ IsTup h m ys ∧ T ≠ z ∧ T ≠ P1 ∧ T ≠ u ∧ T ≠ v) where
 sub := fun c hc => by
  simp only [List.mem_cons,List.not_mem_nil,or_false] at hc ⊢
  rcases hc with h | h | h | h <;> simp [h]
 frame := fun i h h' st kk => by
  obtain ⟨Z,I0,⟨a,b,I1⟩,⟨o1,e1,r1⟩,⟨o2,e2,r2⟩,⟨o3,e3,r3⟩,⟨o4,e4,r4⟩⟩ := st
  exact ⟨kk z (by simp) _ Z,kk P0 (by simp) _ I0,⟨a,b,kk P1 (by simp) _ I1⟩,⟨o1,kk u (by simp) _ e1,r1⟩,⟨o2,kk v (by simp) _ e2,r2⟩,⟨o3,kk l (by simp) _ e3,r3⟩,⟨o4,kk m (by simp) _ e4,r4⟩⟩
 item := fun i s Q E hi st q => by
  obtain ⟨Z,I0,⟨a,b,I1⟩,wu,wv,tl,tm⟩ := st
  have h1 : i < xs.size := by lia
  have h2 : i < ys.size := by lia
  refine zipT_item D Z I0 I1 wu wv tl tm (Array.getElem?_eq_getElem h1) (Array.getElem?_eq_getElem h2) fun h' a1 a2 a3 a4 a5 a6 kk => ?_
  have far : ∀ {c o},s.heap.get? c = some o → s.heap.objs.size ≠ c := fun e => Nat.ne_of_gt (Heap.lt_size e)
  obtain ⟨o1,e1,_⟩ := wu
  obtain ⟨o2,e2,_⟩ := wv
  obtain ⟨o3,e3,r3⟩ := tl
  obtain ⟨o4,e4,r4⟩ := tm
  refine q s.heap.objs.size #[xs[i],ys[i]] h' s.toks ⟨_,_,Array.getElem?_eq_getElem h1,Array.getElem?_eq_getElem h2,rfl⟩ (Nat.le_refl _) ⟨_,a5,rfl,_,rfl⟩ ⟨a1,kk _ _ D.TIz D.TITO D.TIi1 D.TIi2 I0,⟨_,_,a2⟩,a3,a4,⟨o3,kk _ _ D.l1z D.l1TO D.l1i1 D.l1i2 e3,r3⟩,⟨o4,kk _ _ D.l2z D.l2TO D.l2i1 D.l2i2 e4,r4⟩,far Z,far I1,far e1,far e2⟩ fun c o hc e => ?_
  simp only [List.mem_cons,List.not_mem_nil,or_false,not_or] at hc
  exact kk c o hc.1 hc.2.1 hc.2.2.1 hc.2.2.2 e
 go := fun elts k pos i T s Q E st q => by
  obtain ⟨Z,I0,⟨a,b,I1⟩,wu,wv,tl,tm,_⟩ := st
  refine wpAny_letOwnedTupleGo_zip Z fun h' Z' s' => q h' ⟨Z',s'.extBut _ _ D.TIz I0,⟨a,b,s'.extBut _ _ D.TOz I1⟩,wu.extBut s'.extBut D.i1z,wv.extBut s'.extBut D.i2z,tl.extBut s'.extBut D.l1z,tm.extBut s'.extBut D.l2z⟩ fun c o hc e => ?_
  simp only [List.mem_cons,List.not_mem_nil,or_false,not_or] at hc
  exact s'.extBut _ _ hc.1 e
 apart := fun i T h st hT => by
  obtain ⟨_,_,_,_,_,_,_,n1,n2,n3,n4⟩ := st
  simp only [List.mem_cons,List.not_mem_nil,or_false] at hT
  rcases hT with h | h | h | h
  ·exact n1 h
  ·exact n2 h
  ·exact n3 h
  ·exact n4 h
 done := fun s Q E st q => by
  obtain ⟨Z,I0,⟨a,b,I1⟩,wu,wv,tl,tm⟩ := st
  have no : xs[min xs.size ys.size]? = none ∨ ys[min xs.size ys.size]? = none := by
   rcases Nat.le_total xs.size ys.size with h | h
   ·exact .inl (Array.getElem?_eq_none (by lia))
   ·exact .inr (Array.getElem?_eq_none (by lia))
  refine zipT_end hh D Z I0 I1 wu wv tl tm no fun h' kk => q h' s.toks fun c o hc e => ?_
  simp only [List.mem_cons,List.not_mem_nil,or_false,not_or] at hc
  exact kk c o hc.1 hc.2.1 hc.2.2.1 hc.2.2.2 e
 self := fun i s Q E st q => wpAny_pyIter_zip st.1 q
noncomputable abbrev zT1 (h : Heap) (l : Addr) : Heap := h.push { cls := .type "tuple_iterator",data := .fields #[.ref l,.int 0 0] }
noncomputable abbrev zT2 (h : Heap) (l m : Addr) : Heap := (zT1 h l).push { cls := .type "tuple_iterator",data := .fields #[.ref m,.int 0 0] }
noncomputable abbrev zT3 (h : Heap) (l m : Addr) : Heap := (zT2 h l m).push { cls := .type "tuple",data := .seq #[.ref h.objs.size,.ref (zT1 h l).objs.size] }
noncomputable abbrev zT4 (h : Heap) (l m : Addr) : Heap := (zT3 h l m).push { cls := .type "tuple",data := .seq #[.none,.none] }
noncomputable abbrev zT5 (h : Heap) (l m : Addr) : Heap := (zT4 h l m).push { cls := .type "zip",data := .fields #[.none,.bool false,.bool false,.ref (zT2 h l m).objs.size,.ref (zT3 h l m).objs.size] }
theorem meets_zipT (l m : Addr) (xs ys : Array Value) :
  Meets (Builtin.«zip.__new__» ⟨[.type "zip",.ref l,.ref m],[]⟩) (fun _ R s => IsTup s.heap l xs ∧ IsTup s.heap m ys ∧ R (.ok (.ret (.ref (zT4 s.heap l m).objs.size))) { s with heap := zT5 s.heap l m }) :=
 .of_wp fun prog w A R s h => by
  obtain ⟨hp,g,d,tk,os⟩ := s
  obtain ⟨tl,tm,h⟩ := h
  have sub := sub_zip
  have T1 : IsTup (Shared.heap ⟨hp,g,d,tk,os⟩) l xs := tl
  have T2 : IsTup (Shared.heap ⟨hp.push { cls := .type "tuple_iterator",data := .fields #[.ref l,.int 0 0] },g,d,tk,os⟩) m ys := IsTup.push tm _
  wp_walk using iter_tuple T1,iter_tuple T2
  exact ⟨_,rfl,h⟩
theorem call_zipT {l m : Addr} {xs ys : Array Value} {Q : Value → Shared → Prop} (tl : IsTup s.heap l xs) (tm : IsTup s.heap m ys)
  (q : ∀ h',IsZip h' (s.heap.objs.size + 4) (s.heap.objs.size + 2) (s.heap.objs.size + 3) .none → IsPair h' (s.heap.objs.size + 2) (.ref s.heap.objs.size) (.ref (s.heap.objs.size + 1)) → IsPair h' (s.heap.objs.size + 3) .none .none →
   IsTupIter h' s.heap.objs.size l 0 → IsTupIter h' (s.heap.objs.size + 1) m 0 → h'.objs.size = s.heap.objs.size + 5 → (∀ c o,s.heap.get? c = some o → h'.get? c = some o) → Q (.ref (s.heap.objs.size + 4)) { s with heap := h' }) :
  wpAny (model prog w) A (call (.type "zip") [.ref l,.ref m]) Q E s := by
 refine callType_new F.called_zip (by decide) (F.typeCall_zip_2 _ _) (F.newCall_zip_2 _ _) (fun obj => F.args_object_init_3 obj _ _) F.entry_zip_new (meets_zipT l m xs ys) ⟨tl,tm,?_⟩
 have n1 : (zT1 s.heap l).objs.size = s.heap.objs.size + 1 := Heap.size_push ..
 have n2 : (zT2 s.heap l m).objs.size = s.heap.objs.size + 2 := by rw [Heap.size_push,n1]
 have n3 : (zT3 s.heap l m).objs.size = s.heap.objs.size + 3 := by rw [Heap.size_push,n2]
 have n4 : (zT4 s.heap l m).objs.size = s.heap.objs.size + 4 := by rw [Heap.size_push,n3]
 have n5 : (zT5 s.heap l m).objs.size = s.heap.objs.size + 5 := by rw [Heap.size_push,n4]
 have e5 : (zT5 s.heap l m).get? (zT4 s.heap l m).objs.size = some _ := Heap.get?_push_size _ rfl
 have e4 : (zT5 s.heap l m).get? (zT3 s.heap l m).objs.size = some _ := Heap.get?_push_of_some _ (Heap.get?_push_size _ rfl)
 have e3 : (zT5 s.heap l m).get? (zT2 s.heap l m).objs.size = some _ := Heap.get?_push_of_some _ (Heap.get?_push_of_some _ (Heap.get?_push_size _ rfl))
 have e2 : (zT5 s.heap l m).get? (zT1 s.heap l).objs.size = some _ := Heap.get?_push_of_some _ (Heap.get?_push_of_some _ (Heap.get?_push_of_some _ (Heap.get?_push_size _ rfl)))
 have e1 : (zT5 s.heap l m).get? s.heap.objs.size = some _ := Heap.get?_push_of_some _ (Heap.get?_push_of_some _ (Heap.get?_push_of_some _ (Heap.get?_push_of_some _ (Heap.get?_push_size _ rfl))))
 refine show _ ∧ _ from ?_
 rw [n2,n3,n4] at e5
 rw [n1,n2] at e3
 rw [n3] at e4
 rw [n1] at e2
 rw [n4]
 exact ⟨⟨_,e5,rfl⟩,q _ e5 e3 e4 ⟨_,e1,rfl,rfl⟩ ⟨_,e2,rfl,rfl⟩ n5 fun c o x => Heap.get?_push_of_some _ (Heap.get?_push_of_some _ (Heap.get?_push_of_some _ (Heap.get?_push_of_some _ (Heap.get?_push_of_some _ x))))⟩
end
noncomputable def ItzT (K : PySem.W.Frag) (a b : Addr) : It :=
 ⟨fun i H => ∃ xs ys x y,SqT K H a xs ∧ SqT K H b ys ∧ xs[i]? = some x ∧ ys[i]? = some y,
  fun i H v H' => ∃ T x y,v = .ref T ∧ H T = none ∧ H' = upd H T (.tup [x,y]) ∧ (∀ xs,SqT K H a xs → xs[i]? = some x) ∧ (∀ ys,SqT K H b ys → ys[i]? = some y),
  fun i H => ∃ xs ys,SqT K H a xs ∧ SqT K H b ys ∧ min xs.length ys.length = i⟩
noncomputable def zipTnT (z TI TO i1 i2 l1 l2 : Addr) (i : Nat) (h : Heap) : Prop := IsZip h z TI TO .none ∧ IsPair h TI (.ref i1) (.ref i2) ∧ (∃ a b,IsPair h TO a b) ∧ IsTupIter h i1 l1 i ∧ IsTupIter h i2 l2 i
theorem turn_zipT {P : Program} {w : World} {K : PySem.W.Frag} {elts : List Expr} {k : Nat} {pos : Pos} (z TI TO i1 i2 l1 l2 : Addr) (D : ZipApart z TI TO i1 i2 l1 l2) :
  Turn P w K (.Tuple elts k pos) (ItzT K l1 l2) [z,TI,TO,i1,i2] z (zipTnT z TI TO i1 i2 l1 l2) where
 mem := by simp
 obj := fun i h st b hb => by
  obtain ⟨hz,hTI,⟨a,c,hTO⟩,⟨o1,e1,c1,d1⟩,⟨o2,e2,c2,d2⟩⟩ := st
  simp only [List.mem_cons,List.not_mem_nil,or_false] at hb
  rcases hb with rfl | rfl | rfl | rfl | rfl
  ·exact ⟨_,hz,fun v q => by cases q⟩
  ·exact ⟨_,hTI,fun v q => by cases q⟩
  ·exact ⟨_,hTO,fun v q => by cases q⟩
  ·exact ⟨o1,e1,fun v q => by rw [d1] at q; cases q⟩
  ·exact ⟨o2,e2,fun v q => by rw [d2] at q; cases q⟩
 keep := fun i h h' st kk => by
  obtain ⟨hz,hTI,⟨a,c,hTO⟩,⟨o1,e1,r1⟩,⟨o2,e2,r2⟩⟩ := st
  exact ⟨kk z (by simp) _ hz,kk TI (by simp) _ hTI,⟨a,c,kk TO (by simp) _ hTO⟩,⟨o1,kk i1 (by simp) _ e1,r1⟩,⟨o2,kk i2 (by simp) _ e2,r2⟩⟩
 item := by
  intro X hP hw hK hc i pins s σ H E I hf st hg
  subst hP hw hK
  obtain ⟨xs,ys,x,y,hx,hy,ex,ey⟩ := hg
  obtain ⟨its,rv,p,hz⟩ := I.tuple hx
  obtain ⟨its2,rv2,p2,hz2⟩ := I.tuple hy
  obtain ⟨s1,s2,s3,s4,s5⟩ := st
  have W := walkT (prog := X.prog) (w := X.w) (I.ok.hd hc) z TI TO i1 i2 l1 l2 D its.toArray its2.toArray
  have li : i < xs.length := (List.getElem?_eq_some_iff.mp ex).1
  have li2 : i < ys.length := (List.getElem?_eq_some_iff.mp ey).1
  have el := rv.length
  have el2 := rv2.length
  have wsub : ∀ b ∈ [z,TO,i1,i2],b ∈ [z,TI,TO,i1,i2] := fun b hb => by
   simp only [List.mem_cons,List.not_mem_nil,or_false] at hb ⊢
   rcases hb with rfl | rfl | rfl | rfl <;> simp
  refine W.item i s _ _ (by simp only [List.size_toArray]; lia) ⟨s1,s2,s3,s4,s5,p,p2⟩ fun T vals h' tk hv hT hTup hm hk => ?_
  obtain ⟨u,v,eu,ev,rfl⟩ := hv
  obtain ⟨u',eu',ru⟩ := rv.get ex
  obtain ⟨v',ev',rv'⟩ := rv2.get ey
  have e1 : u = u' := by
   have : its[i]? = some u := by simpa using eu
   rw [eu'] at this
   exact (Option.some.inj this).symm
  have e2 : v = v' := by
   have : its2[i]? = some v := by simpa using ev
   rw [ev'] at this
   exact (Option.some.inj this).symm
  subst e1 e2
  have hTn : H T = none := I.hok.fresh hT
  have I1 : Inv X pins σ (upd H T (.tup [x,y])) { s with heap := h',toks := tk } := I.turnedT hk (fun b hb => hf b (wsub b hb)) hT ⟨by show 2 ≤ sizeLine; decide,[u,v],.cons ru (.cons rv' .nil),hTup⟩
  have ap := W.apart i T h' hm
  have f1 : ∀ b ∈ [z,TO,i1,i2],FpOk X pins (upd H T (.tup [x,y])) b := fun b hb => by
   obtain ⟨f0,f1⟩ := hf b (wsub b hb)
   exact ⟨by rw [upd_ne (fun e : b = T => ap (by rw [← e]; exact hb))]; exact f0,f1⟩
  refine ⟨_,rfl,W.go elts k pos i T _ _ _ hm fun h'' st2 hk2 => ?_⟩
  obtain ⟨t1,t2,t3,t4,t5,_,_⟩ := st2
  refine ⟨.ref T,_,Inv.turnedL (s := { s with heap := h',toks := tk }) (t' := tk) I1 hk2 f1,rfl,⟨T,x,y,rfl,hTn,rfl,fun zs q => by rw [I.tuple_inj q hx]; exact ex,fun zs q => by rw [I.tuple_inj q hy]; exact ey⟩,⟨t1,t2,t3,t4,t5⟩,fun b hb => ?_⟩
  have fb := (hf b hb).1
  by_cases e : b = T
  ·subst e
   have lti : s.heap.objs.size > TI := Heap.lt_size s2
   simp only [List.mem_cons,List.not_mem_nil,or_false] at hb
   rcases hb with rfl | rfl | rfl | rfl | rfl
   ·exact absurd (by simp) ap
   ·exact absurd lti (Nat.not_lt.mpr hT)
   ·exact absurd (by simp) ap
   ·exact absurd (by simp) ap
   ·exact absurd (by simp) ap
  ·rw [upd_ne e]; exact fb
 done := by
  intro X hP hw hK hc i pins s σ H E I hf st hg
  subst hP hw hK
  obtain ⟨xs,ys,hx,hy,hi⟩ := hg
  obtain ⟨its,rv,p,hz⟩ := I.tuple hx
  obtain ⟨its2,rv2,p2,hz2⟩ := I.tuple hy
  obtain ⟨s1,s2,s3,s4,s5⟩ := st
  have W := walkT (prog := X.prog) (w := X.w) (I.ok.hd hc) z TI TO i1 i2 l1 l2 D its.toArray its2.toArray
  have el := rv.length
  have el2 := rv2.length
  have en : min its.toArray.size its2.toArray.size = i := by simp only [List.size_toArray]; lia
  have wsub : ∀ b ∈ [z,TO,i1,i2],b ∈ [z,TI,TO,i1,i2] := fun b hb => by
   simp only [List.mem_cons,List.not_mem_nil,or_false] at hb ⊢
   rcases hb with rfl | rfl | rfl | rfl <;> simp
  refine W.done s _ _ ?_ fun h' tk hk => ⟨rfl,I.turnedL hk fun b hb => hf b (wsub b hb)⟩
  rw [en]
  exact ⟨s1,s2,s3,s4,s5,p,p2⟩
 self := fun _ _ _ _ _ st h => wpAny_pyIter_zip st.1 h
section
variable {X : Cx} {elts : List Expr} {k : Nat} {tpos : Pos}
noncomputable def iZipT (K : PySem.W.Frag) (ta : TA) : TI := fun σ H R => ta σ H fun vs H1 => ∃ a b,vs = [.ref a,.ref b] ∧ (∃ xs,SqT K H1 a xs) ∧ (∃ ys,SqT K H1 b ys) ∧ R (ItzT K a b) H1
theorem pi_zipT {a b : Expr} {ta : TA} {p pos : Pos} (hg : Gl X "zip") (hm : X.mg "zip" = none) (ha : PA X [a,b] ta) (hs : starEach [a,b] X.env = [(false,eval a X.env),(false,eval b X.env)] := by rfl) (hs2 : starEach [b] X.env = [(false,eval b X.env)] := by rfl) :
  PI X (.Tuple elts k tpos) (.Call (.Name "zip" p) [a,b] [] pos) (iZipT X.K ta) := by
 intro pins s σ H R I h
 refine Call_ (ld_blt I hg hm boot_zip (PyProof.Rows.callWith_type1 (thn (ha pos pins s σ H _ I h) fun us s1 ⟨vs,H1,I1,r1,q1⟩ => ?_) (by rw [hs,hs2]) (by rw [hs2]; rfl)))
 obtain ⟨l1,l2,e,⟨xs,hx⟩,⟨ys,hy⟩,q⟩ := q1
 subst e
 obtain ⟨u,v,rfl,ru,rv⟩ := r1.two
 cases ru
 cases rv
 obtain ⟨its,rr,pl,hz⟩ := I1.tuple hx
 obtain ⟨its2,rr2,pl2,hz2⟩ := I1.tuple hy
 have lt1 : l1 < s1.heap.objs.size := by obtain ⟨o,e,_⟩ := pl; exact Heap.lt_size e
 have lt2 : l2 < s1.heap.objs.size := by obtain ⟨o,e,_⟩ := pl2; exact Heap.lt_size e
 refine call_zipT pl pl2 fun h' z1 z2 z3 z4 z5 zs kk => ?_
 have I2 : Inv X pins σ H1 { s1 with heap := h' } := I1.kept (t' := s1.toks) kk
 refine wpAny_pyIter_zip z1 ?_
 refine ⟨_,_,_,_,H1,rfl,I2,turn_zipT _ _ _ _ _ l1 l2 ?_,⟨z1,z2,⟨_,_,z3⟩,z4,z5⟩,fun b hb => ?_,q⟩
 ·have lt1' : s1.heap.objs.size > l1 := lt1
  have lt2' : s1.heap.objs.size > l2 := lt2
  constructor <;> (show ¬ (@Eq Nat _ _)) <;> lia
 ·have : s1.heap.objs.size ≤ b := by
   simp only [List.mem_cons,List.not_mem_nil,or_false] at hb
   rcases hb with rfl | rfl | rfl | rfl | rfl <;> lia
  exact I1.fpOk this (I1.hok.fresh this)
end
end L2
set_option Elab.async false
set_option linter.all false
set_option maxRecDepth 100000
namespace L2
open PySem PySem.Spec PyProof.Rows
section
variable {X : Cx} {K : PySem.W.Frag}
theorem carried_strs : ∀ {zs : List Str} {us : List Value},Vals (zs.map V.str) us → CarriedAll us (zs.map fun z => PyData.str (id z))
 | [],us,h => by cases h; exact .nil
 | z :: zs,us,h => by
  cases h with
  | cons r rr =>
   obtain ⟨t,rfl⟩ := r
   exact .cons (.str z t) (carried_strs rr)
theorem mt_join1 : MtM X "str.join" (fun x vs H Q => ∃ (p : Addr) (zs : List Str),x = .str "" ∧ vs = [.ref p] ∧ SqL X.K H p (zs.map V.str) ∧ (∀ z ∈ zs,z.length = 1) ∧ zs.length ≤ 1000 ∧ Q (.str (Txt.join (Str.ofString "") zs)) H) := by
 intro pins s σ H x vs v us Q I rx rv h
 obtain ⟨p,zs,rfl,rfl,hp,h1,hz,q⟩ := h
 obtain ⟨t,rfl⟩ := rx
 obtain ⟨u,rfl,e⟩ := rv.one
 cases e
 obtain ⟨its,rr,pl,_⟩ := I.list hp
 refine PySem.W.KT.join_1 (l := zs) (g := id) pl.isList (carried_strs rr) h1 (by lia) fun t' k _ => ?_
 rw [List.map_id]
 exact ⟨.str _,H,I.kept (t' := k) (fun _ _ e => e),⟨t',rfl⟩,q⟩
end
end L2
set_option Elab.async false
set_option linter.all false
set_option maxRecDepth 100000
namespace L2
open PySem PySem.Spec PyProof.Rows
section
variable {prog : Program} {w : World} {A : Around} {E : Value → Shared → Prop} {s : Shared}
theorem dict_len_slot : typeLookup (.type "dict") "__len__" = pure (some (.builtin "dict.__len__")) := by rw [typeLookup_type,builtinLookup_eq_fast]; kernel_rfl
theorem collectD {d : Addr} {kvs : List (Key × Value)} {Q : List Value → Shared → Prop} (hh : A.handled = none) (hd : (d == sysModules) = false) (hm : s.heap.DictOf (mixKind prog w) d kvs) (hn : kvs.length ≤ sizeLine)
  (q : ∀ s' acc,(∀ b o,s.heap.get? b = some o → s'.heap.get? b = some o) → s.heap.objs.size < s'.heap.objs.size → s'.gens = s.gens → s'.drawn = s.drawn → s'.os = s.os → ItemsOf (fun i v => ∃ k x,kvs[i]? = some (k,x) ∧ (mixKind prog w).is k v = true) acc kvs.length → Q acc.toList s') :
  wpAny (model prog w) A (collect (.ref d)) Q E s := by
 obtain ⟨ep,at0⟩ := hm.dictAt
 have hdT : s.TypeIs (.ref d) "dict" := hm.typeIs
 unfold collect
 refine wpAny_bind (wpAny_runValue (codeAny_builtin F.entry_proto_collect ?_))
 rw [Around.under_plainId F.plain_proto_collect _]
 refine show wpAny _ A.in1 (newList [] >>= fun l => again (.builtin "list.__iadd__" ⟨[l,.ref d],[]⟩)) _ _ s from wpAny_bind (wpAny_newObj_type ?_)
 refine wpAny_pure ⟨plainId_quiet F.plain_list_iadd _,codeAny_builtin F.entry_list_iadd ?_⟩
 rw [Around.under_plainId F.plain_list_iadd _]
 have ltd : d < s.heap.objs.size := at0.lt_size
 have at1 := at0.push { cls := .type "list",data := .seq ([] : List Value).toArray }
 generalize hH : s.heap.push { cls := .type "list",data := .seq ([] : List Value).toArray } = G at at1 ⊢
 have hT1 : Shared.TypeIs { s with heap := G } (.ref d) "dict" := at1.dictOf.typeIs
 refine show wpAny _ A.in1 (Builtin.List.listExtendWith (.ref s.heap.objs.size) (.ref d) (.ref s.heap.objs.size)) _ _ _ from ?_
 unfold Builtin.List.listExtendWith
 refine wpAny_bind (wpAny_typeOf hT1 ?_)
 have n1 : Builtin.List.listSameRef (.ref s.heap.objs.size) (.ref d) = false := by simp [Builtin.List.listSameRef]; exact Nat.ne_of_gt ltd
 simp only [n1,show (Value.type "dict" == Value.type "list") = false by decide,show (Value.type "dict" == Value.type "tuple") = false by decide,Bool.or_false,Bool.false_eq_true,if_false]
 refine wpAny_bind (wpAny_pyIter_dict hd at1 ?_)
 refine wpAny_bind (wpAny_holding ?_)
 have at2 := at1.push { cls := .type "dict_keyiterator",data := .fields #[.ref d,.int 0 0,.int kvs.length 0,.int ep 0] }
 have k2 : Heap.IsKeyIter (G.push { cls := .type "dict_keyiterator",data := .fields #[.ref d,.int 0 0,.int kvs.length 0,.int ep 0] }) G.objs.size d 0 kvs.length ep := ⟨_,Heap.get?_push_size _ rfl,rfl,rfl⟩
 have S2 : (G.push { cls := .type "dict_keyiterator",data := .fields #[.ref d,.int 0 0,.int kvs.length 0,.int ep 0] }).get? s.heap.objs.size = some { cls := .type "list",data := .seq ([] : List Value).toArray } := Heap.get?_push_of_some _ (hH ▸ Heap.get?_push_size _ rfl)
 have keep2 : ∀ b o,s.heap.get? b = some o → (G.push { cls := .type "dict_keyiterator",data := .fields #[.ref d,.int 0 0,.int kvs.length 0,.int ep 0] }).get? b = some o := fun b o e => Heap.get?_push_of_some _ (hH ▸ Heap.get?_push_of_some _ e)
 have sizeG : G.objs.size = s.heap.objs.size + 1 := by rw [← hH,Heap.size_push]
 generalize G.push { cls := .type "dict_keyiterator",data := .fields #[.ref d,.int 0 0,.int kvs.length 0,.int ep 0] } = G2 at at2 k2 S2 keep2 ⊢
 have hT2 : Shared.TypeIs { s with heap := G2 } (.ref d) "dict" := at2.dictOf.typeIs
 unfold Builtin.List.listLengthHint
 refine wpAny_bind (wpAny_specialOf hT2 dict_len_slot ?_)
 wp_delta
 refine wpAny_bind (wpAny_isInstance (b := true) hT2 (by rw [isSubtype_type]; kernel_rfl) ?_)
 refine show wpAny _ A.in1 (typeOf (Value.ref d) >>= _) _ _ _ from wpAny_bind (wpAny_typeOf hT2 (wpAny_pure ?_))
 rw [if_pos (by decide)]
 refine wpAny_bind (wpAny_rule (wpAny_bind ?_))
 refine show wpAny _ A.in1 (updateSeq s.heap.objs.size (·.push .none) >>= fun _ => updateSeq s.heap.objs.size (·.pop)) _ _ _ from wpAny_bind (wpAny_updateSeq S2 rfl ?_)
 have S3 := Heap.get?_update_self (Obj.mapSeq (·.push Value.none)) S2 rfl
 refine wpAny_updateSeq (hz := by seq_fits) S3 rfl ?_
 have S4 := Heap.get?_update_self (Obj.mapSeq (·.pop)) S3 rfl
 have oth : ∀ b o,b ≠ s.heap.objs.size → G2.get? b = some o → ((G2.update s.heap.objs.size (Obj.mapSeq (·.push Value.none))).update s.heap.objs.size (Obj.mapSeq (·.pop))).get? b = some o := fun b o n e => (Heap.get?_update_other _ _ (Ne.symm n)).trans ((Heap.get?_update_other _ _ (Ne.symm n)).trans e)
 have nG : G.objs.size ≠ s.heap.objs.size := by rw [sizeG]; exact Nat.succ_ne_self _
 have nd : d ≠ G.objs.size := by rw [sizeG]; exact Nat.ne_of_lt (Nat.lt_succ_of_lt ltd)
 have Wk := Walks.dictKeys (prog := prog) (w := w) (A := A.in1) (knd := mixKind prog w) hh G.objs.size d nd kvs ep
 have hSf : s.heap.objs.size ∉ [G.objs.size,d] := by
  simp only [List.mem_cons,List.not_mem_nil,or_false,not_or]
  exact ⟨nG.symm,Nat.ne_of_gt ltd⟩
 refine wpAny_pure ⟨plainId_quiet F.plain_extend_loop _,codeAny_extend_loopS Wk.toS hn _ hSf _ kvs.length 0 _ _ _ rfl (Nat.zero_le _) ⟨k2.at fun o e => oth _ o nG e,at2.at' fun o e => oth _ o (Nat.ne_of_lt ltd) e⟩ S4 (ItemsOf.nil _) fun s' acc' c' hmv S5 hacc => ?_⟩
 refine show wpAny _ A (load s.heap.objs.size >>= _) _ _ s' from wpAny_bind (wpAny_load S5 (wpAny_pure (q s' acc' (fun b o e => hmv.heap b o (fun hb => ?_) (oth b o (Nat.ne_of_lt (Heap.lt_size e)) (keep2 b o e))) (Heap.lt_size S5) hmv.gens hmv.drawn hmv.os hacc)))
 have hlt := Heap.lt_size e
 simp only [List.mem_cons,List.not_mem_nil,or_false] at hb
 rcases hb with h | h
 ·exact absurd hlt (h ▸ Nat.lt_irrefl _)
 ·rw [h,sizeG] at hlt
  exact absurd hlt (Nat.not_lt.mpr (Nat.le_succ _))
theorem key_str {P : Program} {w : World} {z : Str} {v : Value} (h : (mixKind P w).is (Sum.inr z) v = true) : ∃ t,v = .str z t := by
 rcases keyIs_shape (show keyIs (Sum.inr z) v = true from h) with ⟨i,t,e,_⟩ | ⟨x,t,e,rfl⟩
 ·cases e
 ·cases e
  exact ⟨t,rfl⟩
theorem keys_strs {P : Program} {w : World} : ∀ {ss : List Str} {us : List Value},us.length = ss.length → (∀ (j : Nat) (v : Value),us[j]? = some v → ∃ z,ss[j]? = some z ∧ (mixKind P w).is (Sum.inr z) v = true) → StrsAre us ss
 | [],us,hl,_ => by
  cases us with
  | nil => exact .nil
  | cons u us => cases hl
 | z :: ss,us,hl,h => by
  cases us with
  | nil => cases hl
  | cons u us =>
   obtain ⟨z',e,hz⟩ := h 0 u rfl
   obtain rfl : z = z' := Option.some.inj e
   obtain ⟨t,rfl⟩ := key_str hz
   exact .cons z t (keys_strs (Nat.succ.inj hl) fun j v hj => by simpa using h (j + 1) v (by simpa using hj))
theorem sortedD {d : Addr} {kvs : List (Key × Value)} {ss : List Str} {Q : Value → Shared → Prop} (hh : A.handled = none) (hd : (d == sysModules) = false) (hm : s.heap.DictOf (mixKind prog w) d kvs) (names : kvs.map (·.1) = ss.map Sum.inr) (h64 : ss.length < 64)
  (q : ∀ (h' : Heap) (t' : Nat) (a : Addr) (out : Array Value) (ss' : List Str) (n : Nat),(∀ b o,s.heap.get? b = some o → h'.get? b = some o) → s.heap.objs.size ≤ a → h'.get? a = some (seqObj "list" out n) → StrsAre out.toList ss' → ss'.Perm ss → sortedS ss' = true → Q (.ref a) { s with heap := h',toks := t' }) :
  wpAny (model prog w) A (call (.builtin "sorted") [.ref d]) Q E s := by
 have lk : kvs.length = ss.length := by have := congrArg List.length names; simpa using this
 refine Calls.call_function_entry kind_sorted plain_sorted entry_sorted (args_sorted1 _) ?_
 unfold Builtin.«sorted»
 refine wpAny_bind (m := checkCount "sorted" 1 1 _) (wpAny_pure (wpAny_bind (collectD hh hd hm (by rw [lk]; exact Nat.le_of_lt (Nat.lt_trans h64 (by decide))) fun s1 acc kk low g1 d1 o1 items => ?_)))
 have hS : StrsAre acc.toList ss := keys_strs (P := prog) (w := w) (by rw [Array.length_toList,items.1,lk]) fun j v hj => by
  obtain ⟨k,x,e,hk⟩ := items.2 j v (by simpa using hj)
  have e2 : (kvs.map (·.1))[j]? = some k := by rw [List.getElem?_map,e]; rfl
  rw [names,List.getElem?_map] at e2
  obtain ⟨z,hz,rfl⟩ := Option.map_eq_some_iff.mp e2
  exact ⟨z,hz,hk⟩
 have lacc : acc.toList.length < 64 := by
  have := items.1
  simp only [Array.length_toList]
  lia
 refine wpAny_bind (wpAny_newList ?_)
 have hoL : (s1.heap.push (seqObj "list" acc.toList.toArray 0)).get? s1.heap.objs.size = some (seqObj "list" acc.toList.toArray 0) := Heap.get?_push_size _ rfl
 refine wpAny_bind (wpAny_holding (wpAny_call_entry slot_list_sort ⟨_,hoL,rfl⟩ entry_list_sort (list_sort_treeK strKind_oneLt hoL hS.keysOf (fun v₁ v₂ rest e => keyKind_strs (by rw [← e]; exact hS)) lacc fun st' hp hs => ⟨_,rfl,?_⟩) (args_list_sort _)))
 obtain ⟨ss',h1,h2,h3⟩ := sorted_out_str hS hp hs
 obtain ⟨e,he⟩ := sortedHeap_at (out := (arrOf st').map (·.2)) hoL
 obtain ⟨hp1,g',d',tk',os'⟩ := s1
 have e1 : g' = s.gens := g1
 have e2 : d' = s.drawn := d1
 have e3 : os' = s.os := o1
 subst e1 e2 e3
 refine wpAny_pure ⟨_,rfl,q _ tk' _ _ ss' e (fun b o eb => ?_) (Nat.le_of_lt low) he h1 h2 h3⟩
 have lt := Heap.lt_size (kk b o eb)
 rw [sortedHeap_old (Nat.ne_of_lt lt) (by rw [Heap.size_push]; exact Nat.lt_succ_of_lt lt)]
 exact Heap.get?_push_of_some _ (kk b o eb)
end
section
variable {X : Cx}
noncomputable def DicQ (K : PySem.W.Frag) (H : Hp) (p : Addr) (fs : List (Str × Dt)) : Prop :=
 ∃ kvs,H p = some (.dK kvs) ∧ kvs.map (·.1) = fs.map (fun p => (Sum.inr p.1 : Key)) ∧ ∀ z,(lookS fs z = none → valV kvs (Sum.inr z : Key) = none) ∧ ∀ d,lookS fs z = some d → ∃ v,valV kvs (Sum.inr z : Key) = some v ∧ IsP K H d v
end
end L2
set_option Elab.async false
set_option linter.all false
set_option maxRecDepth 100000
namespace L2
open PySem PySem.Spec PyProof.Rows
section
variable {prog : Program} {w : World} {A : Around} {E : Value → Shared → Prop} {s : Shared}
end
end L2
set_option Elab.async false
set_option linter.all false
set_option maxRecDepth 100000
namespace L2
open PySem PySem.Spec PyProof.Rows
section
variable {prog : Program} {w : World} {A : Around} {E : Value → Shared → Prop} {s : Shared}
end
end L2
set_option Elab.async false
set_option linter.all false
set_option maxRecDepth 100000
namespace L2
open PySem PySem.Spec PyProof.Rows
section
variable {X : Cx} {pins : List (Addr × Obj)} {σ : St} {H H' : Hp} {s : Shared} {h' : Heap}
end
noncomputable abbrev pairO (j tk : Nat) (x : Value) : Obj := { cls := .type "tuple",data := .seq #[.int j tk,x] }
inductive Rws (h : Heap) (lo : Nat) : Nat → List V → List (Addr × HO) → Prop
 | nil {j : Nat} : Rws h lo j [] []
 | cons {j T tk : Nat} {x : Value} {v : V} {vs : List V} {r : List (Addr × HO)} : lo < T → RelV v x → h.get? T = some (pairO j tk x) → Rws h lo (j + 1) vs r → Rws h lo j (v :: vs) ((T,plO [.int j,v] [.int j tk,x]) :: r)
section
variable {X : Cx}
end
end L2
set_option Elab.async false
set_option linter.all false
set_option maxRecDepth 100000
namespace L2
open PySem PySem.Spec PyProof.Rows
section
variable {prog : Program} {w : World} {A : Around} {E : Value → Shared → Prop} {s : Shared}
end
section
variable {X : Cx}
end
end L2
set_option Elab.async false
set_option linter.all false
set_option maxRecDepth 100000
set_option maxHeartbeats 4000000
namespace L2
open PySem PySem.Spec PyProof.Rows
noncomputable def Itd (a : Addr) (ob : Obj) (kvs : List (Key × V)) : It where
 go i H := H a = some (.frz ob (.dK kvs)) ∧ i < kvs.length
 yld i H x H' := H' = H ∧ ∀ p,kvs[i]? = some p → x = kV p.1
 stop i H := H a = some (.frz ob (.dK kvs)) ∧ kvs.length ≤ i
theorem key_rel {P : Program} {w : World} {k : Key} {v : Value} (h : (mixKind P w).is k v = true) : RelV (kV k) v := by
 rcases keyIs_shape (show keyIs k v = true from h) with ⟨i,t,rfl,rfl⟩ | ⟨x,t,rfl,rfl⟩
 ·exact ⟨t,rfl⟩
 ·exact ⟨t,rfl⟩
theorem frz_at {X : Cx} {pins : List (Addr × Obj)} {σ : St} {H : Hp} {s : Shared} {a : Addr} {ob : Obj} {kvs : List (Key × V)} {es : Array DictEntry} {ep : Nat} (I : Inv X pins σ H s) (ha : H a = some (.frz ob (.dK kvs))) (hep : ob.data = .dict es ep) :
  ∃ vs,KV kvs vs ∧ s.heap.DictAt (mixKind X.prog X.w) a vs ep ∧ (a == sysModules) = false := by
 obtain ⟨ho,_,hs,vs,r,o,es',ep',h1,h2,h3,h4⟩ := (show ObjOk X.prog X.w H s.heap a (.frz ob (.dK kvs)) from I.hok a _ ha)
 rw [ho] at h1
 obtain rfl := Option.some.inj h1
 have h3' := h3
 rw [hep] at h3'
 injection h3' with e1 e2
 subst e1 e2
 exact ⟨vs,r,⟨ob,es,ho,h2,hep,h4⟩,hs⟩
theorem turn_dict {P : Program} {w : World} {K : PySem.W.Frag} {tg : Expr} (a it : Addr) (ob : Obj) (kvs : List (Key × V)) (es : Array DictEntry) (ep : Nat) (hep : ob.data = .dict es ep) :
  Turn P w K tg (Itd a ob kvs) [it] it (fun i h => h.IsKeyIter it a i kvs.length ep) where
 mem := by simp
 obj := fun i h st b hb => by
  have e : b = it := by simpa using hb
  subst e
  obtain ⟨o,e,c,d⟩ := st
  exact ⟨o,e,fun v z => by rw [d] at z; cases z⟩
 keep := fun i h h' st k => st.at fun o e => k it (by simp) o e
 item := by
  intro X hP hw hK hc i pins s σ H E I hf st hg
  subst hP hw hK
  obtain ⟨ha,hi⟩ := hg
  obtain ⟨vs,r,at0,_⟩ := frz_at I ha hep
  have hl := r.length
  obtain ⟨⟨k,v⟩,hk⟩ : ∃ p,vs[i]? = some p := ⟨_,List.getElem?_eq_getElem (by lia)⟩
  have hk' : (kvs.map (·.1))[i]? = some k := by rw [r.keys,List.getElem?_map,hk]; rfl
  obtain ⟨f0,f1,f2,f3,f4,f5⟩ := hf it (by simp)
  refine wpAny_pyNext_dict_item (knd := mixKind X.prog X.w) (show s.heap.IsKeyIter it a i vs.length ep by rw [← hl]; exact st) at0 hk fun key h' hkey st' sb => ?_
  have I1 : Inv X pins σ H { s with heap := h' } := I.turned (t' := s.toks) (fun b o hb e => (sb.2 b hb).trans e) f0 f1 f3 f4 f5
  rw [← hl] at st'
  obtain ⟨o,e,c,d⟩ := id st'
  refine ⟨key,rfl,go_of (s := { s with heap := h' }) e c d (by decide) ⟨kV k,H,I1,key_rel hkey,⟨rfl,fun p hp => ?_⟩,st',fun b hb => (hf b hb).1⟩⟩
  rw [List.getElem?_map,hp] at hk'
  exact congrArg kV (Option.some.inj hk').symm
 done := by
  intro X hP hw hK hc i pins s σ H E I hf st hg
  subst hP hw hK
  obtain ⟨ha,hi⟩ := hg
  obtain ⟨vs,r,at0,_⟩ := frz_at I ha hep
  have hl := r.length
  obtain ⟨f0,f1,f2,f3,f4,f5⟩ := hf it (by simp)
  exact wpAny_pyNext_dict_end (knd := mixKind X.prog X.w) (I.ok.hd hc) (show s.heap.IsKeyIter it a i vs.length ep by rw [← hl]; exact st) at0 (List.getElem?_eq_none (by lia)) fun h' eb => ⟨rfl,I.turned (t' := s.toks) (fun b o hb e => eb b o hb e) f0 f1 f3 f4 f5⟩
 self := fun _ _ _ _ _ st h => wpAny_pyIter_keyiter st h
section
variable {X : Cx} {tg : Expr} {pins : List (Addr × Obj)} {σ : St} {H : Hp} {s : Shared}
theorem Inv.freeze {a : Addr} {ob : Obj} {kvs : List (Key × V)} (I : Inv X pins σ H s) (ha : H a = some (.dK kvs)) (ho : s.heap.get? a = some ob) : Inv X pins σ (upd H a (.frz ob (.dK kvs))) s := by
 refine I.step (h' := s.heap) (g' := s.gens) (d' := s.drawn) (t' := s.toks) (ch := []) (fun _ z => nomatch z) (fun b o _ _ _ e _ => e) (fun b o _ _ _ e _ => ⟨o.slots,e⟩) (fun b o _ e n => ?_) (fun b o _ e => ⟨o,e⟩) (fun b xs e => ?_) (fun b o u e => ?_) (fun b ps e => ?_) (fun m e => e) (fun b u e => ?_) I.bare
 ·rw [upd_ne (fun z => by rw [z,ha] at n; cases n)]
  exact n
 ·rw [upd_ne (fun z => by rw [z,ha] at e; cases e)]
  exact e
 ·rw [upd_ne (fun z => by rw [z,ha] at e; cases e)]
  exact e
 ·refine ⟨#[],?_⟩
  rw [upd_ne (fun z => by rw [z,ha] at e; cases e),Array.append_empty]
  exact e
 ·have st : ∀ {u : HO},ObjOk X.prog X.w H s.heap b u → ObjOk X.prog X.w (upd H a (.frz ob (.dK kvs))) s.heap b u := fun q => q.stay (fun _ _ _ e => e) (fun c r => by rw [upd_ne (fun z => by rw [z,ha] at r; cases r)]; exact r) fun c xs r => by rw [upd_ne (fun z => by rw [z,ha] at r; cases r)]; exact r
  by_cases hb : b = a
  ·subst hb
   rw [upd_same] at e
   obtain rfl := Option.some.inj e
   exact ⟨ho,st (I.hok b _ ha)⟩
  ·rw [upd_ne hb] at e
   exact st (I.hok b _ e)
noncomputable def iDict (te : TE) : TI := fun σ H R => te σ H fun x H1 => ∃ a kvs,x = .ref a ∧ H1 a = some (.dK kvs) ∧ ∀ ob,R (Itd a ob kvs) (upd H1 a (.frz ob (.dK kvs)))
theorem pi_dict {l : Expr} {tl : TE} (hl : PE X l tl) : PI X tg l (iDict tl) := by
 intro pins s σ H R I h
 refine thn (hl pins s σ H _ I h) fun v s1 ⟨x,H1,I1,r1,q1⟩ => ?_
 obtain ⟨a,kvs,e,ha,q⟩ := q1
 subst e
 cases r1
 obtain ⟨_,hs,vs,r,o,es,ep,h1,h2,h3,h4⟩ := (show ObjOk X.prog X.w H1 s1.heap a (.dK kvs) from I1.hok a _ ha)
 have I2 := I1.freeze ha h1
 have at0 : s1.heap.DictAt (mixKind X.prog X.w) a vs ep := ⟨o,es,h1,h2,h3,h4⟩
 refine wpAny_pyIter_dict hs at0 ?_
 refine ⟨s1.heap.objs.size,[s1.heap.objs.size],_,_,_,rfl,I2.kept (t' := s1.toks) fun b o e => Heap.get?_push_of_some _ e,turn_dict a _ o kvs es ep h3,?_,fun b hb => ?_,q o⟩
 ·rw [r.length]
  exact ⟨_,Heap.get?_push_size _ rfl,rfl,rfl⟩
 ·have e : b = s1.heap.objs.size := by simpa using hb
  subst e
  exact I2.fpOk (Nat.le_refl _) (I2.hok.fresh (Nat.le_refl _))
end
section
variable {X : Cx}
theorem call_dictF (hc : X.calm = true) : CallR X (.type "dict") (fun xs H Q => ∃ x fs,xs = [x] ∧ IsP X.K H (.tup (fs.map prD)) x ∧ (fs.map (·.1)).Nodup ∧ fs.length ≤ 1000 ∧ ∀ p H',H p = none → Same H H' → DicQ X.K H' p fs → Q (.ref p) H') := by
 intro pins s σ H xs us Q I r h
 obtain ⟨x,fs,rfl,dx,nd,hz,q⟩ := h
 obtain ⟨u,rfl,rx⟩ := vals1 r
 obtain ⟨a,ys,rfl,ha,⟨o,ho,eo,dn⟩,ra⟩ := dx.unref
 cases rx
 obtain ⟨its,r',⟨o',e',c',n',d'⟩,_⟩ := I.tuple ha
 have e0 : s.heap.get? a = some o := (I.hok a _ eo).1
 rw [e0] at e'
 obtain rfl := Option.some.inj e'
 obtain ⟨kvs,vs,k1,k2,k3,k4,k5,k6⟩ := pairs_of I ra r'
 have hl : vs.length = fs.length := by rw [← k1.length,k3]
 have big := I.big
 refine call_dict_pairs (knd := mixKind X.prog X.w) (kvs := vs) (I.ok.hd hc) e0 c' d' dn ⟨by rw [List.size_toArray]; exact k5,fun i kv z => ?_⟩ (Nat.le_trans (Nat.add_le_add (hl ▸ hz) (hl ▸ hz)) (by decide)) fun h' tk dd kp => ?_
 ·obtain ⟨b,key,z1,z2,z3⟩ := k6 i kv z
  exact ⟨b,key,by simpa using z1,z2,z3⟩
 ·have ndv : (vs.map (·.1)).Nodup := by
   rw [← k1.keys,k2]
   have z : fs.map (fun p => (Sum.inr p.1 : Key)) = (fs.map (·.1)).map Sum.inr := by rw [List.map_map]; rfl
   rw [z]
   exact List.Pairwise.map _ (fun a b n q => n (Sum.inr.inj q)) nd
  rw [merged_nil_of_nodup vs ndv] at dd
  have hf := I.hok.fresh (Nat.le_refl s.heap.objs.size)
  have I2 : Inv X pins σ (upd H s.heap.objs.size (.dK kvs)) { s with heap := h',toks := tk } := I.laid (t' := tk) kp (Nat.le_refl _)
   (dk_new (by rw [k3]; exact Nat.le_of_lt (small1000 hz)) (by simp; exact Nat.ne_of_gt big) k1 dd)
  refine ⟨.ref s.heap.objs.size,_,I2,rfl,q _ _ hf (same_new hf _) ⟨kvs,upd_same,k2,fun z => ⟨(k4 z).1,fun d l => ?_⟩⟩⟩
  obtain ⟨v,l1,l2⟩ := (k4 z).2 d l
  exact ⟨v,l1,l2.same (same_new hf _)⟩
theorem call_sortDR (hc : X.calm = true) : CallR X (.builtin "sorted") (fun xs H Q => ∃ (p : Addr) (kvs : List (Key × V)) (ss : List Str),xs = [.ref p] ∧ Rd H p (.dK kvs) ∧ kvs.map (·.1) = ss.map Sum.inr ∧ ss.length < 64 ∧ ∀ (a : Addr) (ss' : List Str),H a = none → ss'.Perm ss → sortedS ss' = true → Q (.ref a) (upd H a (.lst (ss'.map V.str)))) := by
 intro pins s σ H xs us Q I r h
 obtain ⟨p,kvs,ss,rfl,hp,names,hl,q⟩ := h
 obtain ⟨u,rfl,rx⟩ := vals1 r
 cases rx
 obtain ⟨hz,hd,vs,kv,dof⟩ := dk_rd I.hok hp
 refine sortedD (ss := ss) (I.ok.hd hc) hd dof (by rw [← kv.keys]; exact names) hl fun h' t' a out ss' n kk low ea h1 h2 h3 => ?_
 have hn : H a = none := I.hok.fresh low
 refine ⟨.ref a,_,I.laid (t' := t') (o := .lst (ss'.map V.str)) kk low ?_,rfl,q a ss' hn h2 h3⟩
 have e2 : seqObj "list" out n = seqObj "list" out.toList.toArray n := by rw [Array.toArray_toList]
 refine ⟨?_,out.toList,n,vals_strs h1,?_⟩
 ·rw [List.length_map,h2.length_eq]
  exact Nat.le_of_lt (Nat.lt_trans hl (by decide))
 ·rw [ea,e2]
end
section
variable {a : Addr} {ob : Obj} {kvs : List (Key × V)} {g : TG} {l : Addr} {σ0 : St} {H0 : Hp} {R : Hp → Prop} {tb : List V → Addr → St → Hp → (List V → St → Hp → Prop) → Prop}
theorem comp_dictR (Pv : Nat → List V → St → Hp → Prop) (h0 : Pv 0 [] σ0 H0) (hl : ∀ i ys σ H,i ≤ kvs.length → Pv i ys σ H → H a = some (.frz ob (.dK kvs)))
  (hs : ∀ i p ys σ H (N : List V → St → Hp → Prop),kvs[i]? = some p → Pv i ys σ H → (∀ ys' σ' H',Pv (i + 1) ys' σ' H' → N ys' σ' H') → g (kV p.1) σ H fun σ2 H2 => tb ys l σ2 H2 N)
  (hd : ∀ ys σ H,Pv kvs.length ys σ H → R H) :
  ∃ W : Nat → Nat → List V → St → Hp → Prop,(∃ m,W 0 m [] σ0 H0) ∧ ∀ i m ys σ' H',W i m ys σ' H' → ((Itd a ob kvs).stop i H' ∧ R H') ∨
   ((Itd a ob kvs).go i H' ∧ ∀ x H'',(Itd a ob kvs).yld i H' x H'' → g x σ' H'' fun σ2 H2 => tb ys l σ2 H2 fun ys' σ3 H3 => ∃ m',m' < m ∧ W (i + 1) m' ys' σ3 H3) := by
 refine ⟨fun i m ys σ H => m = kvs.length - i ∧ i ≤ kvs.length ∧ Pv i ys σ H,⟨kvs.length,by simp,Nat.zero_le _,h0⟩,?_⟩
 rintro i m ys σ H ⟨rfl,hi,p⟩
 by_cases hlt : i < kvs.length
 ·refine .inr ⟨⟨hl i ys σ H hi p,hlt⟩,fun x H'' hy => ?_⟩
  obtain ⟨rfl,hx⟩ := hy
  obtain ⟨q,hq⟩ : ∃ q,kvs[i]? = some q := ⟨_,List.getElem?_eq_getElem hlt⟩
  rw [hx q hq]
  exact hs i q ys σ H'' _ hq p fun ys' σ' H' p' => ⟨kvs.length - (i + 1),by lia,rfl,hlt,p'⟩
 ·have e : i = kvs.length := Nat.le_antisymm hi (Nat.not_lt.mp hlt)
  subst e
  exact .inl ⟨⟨hl _ ys σ H (Nat.le_refl _) p,Nat.le_refl _⟩,hd ys σ H p⟩
end
end L2
set_option Elab.async false
set_option linter.all false
set_option maxRecDepth 100000
set_option maxHeartbeats 4000000
namespace L2
open PySem PySem.Spec PyProof.Rows
section
variable {X : Cx}
theorem ps_setCIf {elt tgt iter c : Expr} {scope : Scope} {pos spos py : Pos} {NL N' : List Str} {ρ : List Nat} {wi : TI} {g : TG} {tc : TT} {te : TE} {j : Nat} {y : Str} (hN : X.N.Nodup) (hj : X.N[j]? = some y) (hy : Loc X.env.scope y)
  (hc : X.calm = true) (S : CScope X scope NL ρ N') (hi : PI X tgt iter wi) (hg : ∀ C s₀ H₀ fp,PG (ccx X scope C N' s₀ H₀ fp) tgt g) (ht : ∀ C s₀ H₀ fp,PT (ccx X scope C N' s₀ H₀ fp) c tc) (he : ∀ C s₀ H₀ fp,PE (ccx X scope C N' s₀ H₀ fp) elt te)
  (hsw : swapsWith (.ListComp elt [⟨tgt,iter,[c],0⟩] scope pos) (some (.Name y py)) spos.line X.env = pure true := by rfl) (hfn : X.fn y = true ∨ X.env.scope.names.lookup y = some .local := by first | exact .inl rfl | exact .inr rfl | assumption)
  (hs : ∀ x,foldedSetIterable iter X.env x = pure x := by intro _; rfl) : PS X (.Assign [.Name y py] (.ListComp elt [⟨tgt,iter,[c],0⟩] scope pos) spos) (tAsg (tComp NL.length ρ wi g (cIf tc te)) (gName j)) :=
 ps_compG (body := fun acc env => do
  let b ← PySem.isTrue c env (eval c env)
  if b then (do let x ← eval elt env; let _ ← call (.builtin "list.append") [acc,x]; pure ()) else pure ()) hN hj hy hfn hsw hc S hi hg (fun C s₀ H₀ fp => pb_if (ht C s₀ H₀ fp) (he C s₀ H₀ fp)) (fun it acc env => turn_eq1 elt tgt iter c scope pos it acc env) hs
end
end L2
set_option Elab.async false
set_option linter.all false
set_option maxRecDepth 100000
set_option maxHeartbeats 4000000
namespace L2
open PySem PySem.Spec PyProof.Rows
section
variable {prog : Program} {w : World} {A : Around} {E : Value → Shared → Prop} {s : Shared}
end
end L2
set_option Elab.async false
set_option linter.all false
set_option maxRecDepth 100000
set_option maxHeartbeats 4000000
namespace L2
open PySem PySem.Spec PyProof.Rows
section
variable {X : Cx}
end
end L2
set_option Elab.async false
set_option linter.all false
set_option maxRecDepth 100000
set_option maxHeartbeats 4000000
namespace L2
open PySem PySem.Spec PyProof.Rows
section
variable {X : Cx} {K : PySem.W.Frag}
end
end L2
set_option Elab.async false
set_option linter.all false
set_option maxRecDepth 100000
set_option maxHeartbeats 4000000
namespace L2
open PySem PySem.Spec PyProof.Rows
section
variable {X : Cx} {K : PySem.W.Frag}
inductive JLenS (K : PySem.W.Frag) (xs : List V) (H : Hp) (Q : VK) : Prop
 | mk (p : Addr) (ys : List V) : (xs = [.ref p]) → ((SqL K H p ys ∨ SqT K H p ys)) → (Q (.int ys.length) H) → JLenS K xs H Q
noncomputable def nLenS (K : PySem.W.Frag) : List V → Hp → VK → Prop := fun xs H Q => JLenS K xs H Q
noncomputable def nListOf (K : PySem.W.Frag) : List V → Hp → VK → Prop := fun xs H Q => ∃ p ys,xs = [.ref p] ∧ (SqL K H p ys ∨ SqT K H p ys) ∧ ∀ l,H l = none → Q (.ref l) (upd H l (.lst ys))
noncomputable def nSortS (K : PySem.W.Frag) : List V → Hp → VK → Prop := fun xs H Q => ∃ (p : Addr) (ss : List Str),xs = [.ref p] ∧ SqL K H p (ss.map V.str) ∧ ss.length < 64 ∧ ∀ a ss',H a = none → ss'.Perm ss → sortedS ss' = true → Q (.ref a) (upd H a (.lst (ss'.map V.str)))
noncomputable def nAny (K : PySem.W.Frag) : List V → Hp → VK → Prop := fun xs H Q => ∃ p ys,xs = [.ref p] ∧ true = true ∧ SqL K H p (bls ys) ∧ Q (.bl (ys.any id)) H
noncomputable def nDictF (K : PySem.W.Frag) : List V → Hp → VK → Prop := fun xs H Q => ∃ x fs,xs = [x] ∧ IsP K H (.tup (fs.map prD)) x ∧ (fs.map (·.1)).Nodup ∧ fs.length ≤ 1000 ∧ ∀ p H',H p = none → Same H H' → DicQ K H' p fs → Q (.ref p) H'
theorem sl_listN (hK : X.K = K) : SlR X (rSlL K) := by subst hK; exact sl_list
theorem call_len_seqN (hK : X.K = K) : CallR X (.builtin "len") (nLenS K) := by
 subst hK
 intro pins s σ H xs us Q I r h
 obtain ⟨x,l,a,b,q⟩ := h
 exact call_len_seq _ _ _ _ _ _ _ I r ⟨x,l,a,b,q⟩
theorem call_list_ofN (hK : X.K = K) : CallR X (.type "list") (nListOf K) := by subst hK; exact call_list_of
theorem call_sortSN (hK : X.K = K) : CallR X (.builtin "sorted") (nSortS K) := by subst hK; exact call_sortS
theorem call_anyN (hK : X.K = K) (hc : X.calm = true) : CallR X (.builtin "any") (nAny K) := by
 subst hK
 intro pins s σ H xs us Q I r h
 obtain ⟨p,ys,rfl,_,hs,q⟩ := h
 exact call_any _ _ _ _ _ _ _ I r ⟨p,ys,rfl,hc,hs,q⟩
theorem call_dictFN (hK : X.K = K) (hc : X.calm = true) : CallR X (.type "dict") (nDictF K) := by subst hK; exact call_dictF hc
end
section
variable {K : PySem.W.Frag} {a b l : Addr} {xs ys : List V} {g : TG} {tb : List V → Addr → St → Hp → (List V → St → Hp → Prop) → Prop} {R : Hp → Prop} {σ0 : St} {H0 : Hp}
end
section
variable {X : Cx} {K : PySem.W.Frag}
theorem mt_insert : MtM X "list.insert" (fun x vs H Q => ∃ l xs i y,x = .ref l ∧ vs = [.int i,y] ∧ H l = some (.lst xs) ∧ 0 ≤ i ∧ i ≤ (xs.length : Int) ∧ xs.length ≤ 1000 ∧ Q .non (upd H l (.lst (xs.take i.toNat ++ y :: xs.drop i.toNat)))) := by
 intro pins s σ H x vs v us Q I rx rv h
 obtain ⟨l,xs,i,y,rfl,rfl,hH,h0,h1,hz,q⟩ := h
 cases rx
 obtain ⟨u1,u,rfl,r1,ru⟩ := rv.two
 obtain ⟨t,rfl⟩ := r1
 obtain ⟨z,its,n,r,hl,e⟩ := I.lstM hH
 have lx : its.length = xs.length := r.length.symm
 refine call_meets F.slot_list_insert ⟨_,e,rfl⟩ F.entry_list_insert (F.args_list_insert_3 _ _ _) (PySem.AutoSeq1.list_insert_list_int_val_1 l its.toArray n i t u ?_ (by rw [List.size_toArray]; exact Nat.le_trans (show its.length ≤ 1000 by lia) (by decide))) ⟨e,?_⟩
 ·unfold Builtin.List.listFitsIndex
  simp
  lia
 ·refine ⟨.non,_,I.lset (its' := its.take i.toNat ++ u :: its.drop i.toNat) hH e ?_ (Vals.append (r.take _) (.cons ru (r.drop _))) ?_,rfl,q⟩
  ·have hi : min i.toNat its.toArray.size = i.toNat := by rw [List.size_toArray]; lia
   have hneg : ¬ i < 0 := by lia
   simp only [hneg,if_false,hi]
   apply Array.ext'
   simp
   exact List.take_of_length_le (by rw [List.length_drop]; lia)
  ·rw [List.length_append,List.length_cons,List.length_take,List.length_drop]
   have : 1001 ≤ sizeLine := by decide
   lia
theorem strs_of : ∀ {zs : List Str} {its : List Value},Vals (zs.map V.str) its → StrsAre its zs
 | [],its,h => by cases h; exact .nil
 | z :: zs,its,h => by
  cases h with
  | cons h1 h2 =>
   obtain ⟨t,rfl⟩ := h1
   exact .cons z t (strs_of h2)
theorem strs_get : ∀ {zs : List Str} {its : List Value},StrsAre its zs → ∀ (m : Nat) (hm : m < its.length) (k : Str),isStrOf k its[m] = decide (zs[m]? = some k)
 | _,_,.nil,m,hm,_ => absurd hm (Nat.not_lt_zero _)
 | _,_,.cons z t h,0,hm,k => by
  show (z == k) = decide (some z = some k)
  by_cases e : z = k
  ·subst e; simp
  ·rw [decide_eq_false (fun c => e (Option.some.inj c))]
   simpa using e
 | _,_,.cons z t h,m + 1,hm,k => strs_get h m (by simpa using hm) k
theorem mt_lindex : MtM X "list.index" (fun x vs H Q => ∃ (l : Addr) (zs : List Str) (z : Str) (j : Nat),x = .ref l ∧ vs = [.str z] ∧ H l = some (.lst (zs.map V.str)) ∧ zs[j]? = some z ∧ (∀ m,m < j → zs[m]? ≠ some z) ∧ zs.length ≤ 1000 ∧ Q (.int (j : Nat)) H) := by
 intro pins s σ H x vs v us Q I rx rv h
 obtain ⟨l,zs,z,j,rfl,rfl,hH,hj,hno,hz,q⟩ := h
 cases rx
 obtain ⟨u,rfl,t,rfl⟩ := rv.one
 obtain ⟨_,its,n,r,hl,e⟩ := I.lstM hH
 have sa := strs_of r
 have ln : its.length = zs.length := by rw [← hl,List.length_map]
 have hjl : j < its.length := by have := (List.getElem?_eq_some_iff.mp hj).1; lia
 have hb : (j : Int) < 2 ^ 63 - 1 := Int.lt_of_le_of_lt (show (j : Int) ≤ 1000 by lia) (by decide)
 refine call_meets F.slot_list_index ⟨_,e,rfl⟩ F.entry_list_index (F.args_list_index_2 _ _) (MeetsSeq.list_index l its.toArray n (.str z t) (isStrOf z) (fun y hy => eq_isStrOf z t sa y (by simpa using hy)) j (by simpa using hjl) hb ?_ ?_) ⟨e,⟨.int _,H,I.tok _,⟨_,rfl⟩,q⟩⟩
 ·rw [List.getElem_toArray,strs_get sa j hjl]
  exact decide_eq_true hj
 ·intro m hm hmj
  rw [List.getElem_toArray,strs_get sa m (by simpa using hm)]
  exact decide_eq_false (hno m hmj)
end
end L2
set_option Elab.async false
set_option linter.all false
set_option maxRecDepth 100000
set_option maxHeartbeats 4000000
namespace PySem
open Sem (wp)
namespace F
end F
section
variable {prog : Program} {w : World} {K : Type} [DecidableEq K] {kd : KeyKind prog w K} {A : Around} {E : Value → Shared → Prop}
end
end PySem
namespace L2
open PySem PySem.Spec PyProof.Rows
noncomputable def kDt : Key → Dt
 | .inl i => .int i
 | .inr z => .str z
noncomputable def dtObj (P : Program) (w : World) (p : Addr) (xs : List (List Key × Addr × Value)) (h : Heap) : Prop :=
 ∃ o es ep,h.get? p = some o ∧ o.ExactDict ∧ o.data = .dict es ep ∧ es.toList = xs.map (entryOfKey (tupleKind (mixKind P w))) ∧ (xs.map (·.1)).Nodup
noncomputable def DicT (P : Program) (w : World) (K : PySem.W.Frag) (H : Hp) (p : Addr) (kvs : List (List Key × Dt)) : Prop :=
 (p == sysModules) = false ∧ ∃ xs : List (List Key × Addr × Value),H p = some (.ext (dtObj P w p xs)) ∧
  Paired (fun (a : List Key × Dt) (b : List Key × Addr × Value) => a.1 = b.1 ∧ IsP K H (.tup (a.1.map kDt)) (.ref b.2.1) ∧ ∃ v,RelV v b.2.2 ∧ IsP K H a.2 v) kvs xs
section
variable {X : Cx} {pins : List (Addr × Obj)} {σ : St} {H : Hp} {s : Shared}
end
end L2
set_option Elab.async false
set_option linter.all false
set_option maxRecDepth 100000
set_option maxHeartbeats 4000000
namespace PySem
open Sem (wp)
section
variable {prog : Program} {w : World} {K : Type} [DecidableEq K] {knd : HeapKind prog w K} {A : Around} {E : Value → Shared → Prop} {s : Shared}
end
end PySem
namespace L2
open PySem PySem.Spec PyProof.Rows
section
variable {X : Cx} {pins : List (Addr × Obj)} {σ : St} {H : Hp} {s : Shared}
end
theorem u2 {A : Around} (h : A.units + 64 < cLine) : A.units + 2 < cLine := by lia
section
variable {X : Cx} {o e f : Expr} {apos cpos : Pos} {td ty tx : TE}
end
end L2
set_option Elab.async false
set_option linter.all false
set_option maxRecDepth 100000
set_option maxHeartbeats 4000000
namespace PySem
open Sem (wp)
open PyProof.Rows
section
variable {prog : Program} {w : World} {A : Around} {E : Value → Shared → Prop} {s : Shared} {δ : Type} {R : δ → Value → Prop} {h₀ : Heap} {a : Addr} {D : List (Str × δ)} {k : Str} {tk : Tok}
end
end PySem
namespace L2
open PySem PySem.Spec PyProof.Rows
section
variable {X : Cx}
end
end L2
set_option Elab.async false
set_option linter.all false
set_option maxRecDepth 100000
set_option maxHeartbeats 4000000
namespace L2
open PySem PySem.Spec PyProof.Rows
section
variable {prog : Program} {w : World} {A : Around} {E : Value → Shared → Prop} {s : Shared}
end
end L2
set_option Elab.async false
set_option linter.all false
set_option maxRecDepth 100000
set_option maxHeartbeats 4000000
namespace L2
open PySem PySem.Spec PyProof.Rows
section
variable {prog : Program} {w : World} {A : Around} {E : Value → Shared → Prop} {s : Shared}
end
section
variable {prog : Program} {w : World} {K : Type} [DecidableEq K] {knd : KeyKind prog w K} {A : Around} {E : Value → Shared → Prop}
end
end L2
set_option Elab.async false
set_option linter.all false
set_option maxRecDepth 100000
set_option maxHeartbeats 4000000
namespace L2
open PySem PySem.Spec PyProof.Rows
section
variable {prog : Program} {w : World} {K : Type} [DecidableEq K] {knd : KeyKind prog w K} {A : Around} {E : Value → Shared → Prop}
end
section
variable {X : Cx}
end
end L2
set_option Elab.async false
set_option linter.all false
set_option maxRecDepth 100000
set_option maxHeartbeats 4000000
namespace L2
open PySem PySem.Spec PyProof.Rows
section
variable {X : Cx}
end
end L2
set_option Elab.async false
set_option linter.all false
set_option maxRecDepth 100000
set_option maxHeartbeats 4000000
namespace L2
open PySem PySem.Spec PyProof.Rows
open AutoSeq1 (wpAny_loadPart')
structure ZOut (lo : Nat) (xs ys acc : Array Value) (h : Heap) : Prop where
 pr : ∀ (j : Nat) (e : Value),acc[j]? = some e → ∃ (T : Addr) (x y : Value),e = .ref T ∧ lo ≤ T ∧ xs[j]? = some x ∧ ys[j]? = some y ∧ IsPair h T x y
 ij : ∀ (j k : Nat) (e : Value),acc[j]? = some e → acc[k]? = some e → j = k
section
variable {prog : Program} {w : World} {A : Around} {E : Value → Shared → Prop} {s : Shared}
end
section
variable {prog : Program} {w : World} {A : Around} {E : Value → Shared → Prop} {s : Shared}
end
noncomputable abbrev pairZ (x y : Value) : Obj := { cls := .type "tuple",data := .seq #[x,y] }
inductive RwZ (h : Heap) (lo : Nat) : List V → List V → List (Addr × HO) → Prop
 | nil : RwZ h lo [] [] []
 | cons {T : Nat} {x y : Value} {v u : V} {vs us : List V} {r : List (Addr × HO)} : lo ≤ T → RelV v x → RelV u y → h.get? T = some (pairZ x y) → RwZ h lo vs us r → RwZ h lo (v :: vs) (u :: us) ((T,plO [v,u] [x,y]) :: r)
section
variable {X : Cx}
end
end L2
set_option Elab.async false
set_option linter.all false
set_option maxRecDepth 100000
set_option maxHeartbeats 4000000
namespace L2
open PySem PySem.Spec PyProof.Rows
open AutoSeq1 (wpAny_loadPart')
section
variable {prog : Program} {w : World} {A : Around} {E : Value → Shared → Prop} {s : Shared}
end
section
variable {X : Cx}
end
end L2
set_option Elab.async false
set_option linter.all false
set_option maxRecDepth 100000
namespace L2
open PySem PySem.Spec PyProof.Rows
section
variable {X : Cx} {o e : Expr} {es : List Expr} {to : TE} {t : TA} {name : Str} {apos cpos : Pos} {T id : String} {r : V → List V → Hp → VK → Prop}
end
end L2
set_option Elab.async false
set_option linter.all false
set_option maxRecDepth 100000
namespace L2
open PySem PySem.Spec PyProof.Rows
theorem lay_led (t : SetTable) (es : Array (Int × Value)) (h : Int) (x : Value) : (layNew t es h x).2.1.led = t.led := by
 unfold layNew
 split
 ·show (SetTable.orStandIn _ _).led = _
  unfold SetTable.orStandIn
  split <;> rfl
 ·rfl
theorem laid_led {m f mv : Nat} {l p : Bool} {hs : Array Int} {r : SetTable × Array Nat} (h : SetTable.laid m f mv l p hs = some r) : r.1.led = l := by
 unfold SetTable.laid at h
 cases e : SetTable.layClean m hs with
 | none => rw [e] at h; cases h
 | some o => rw [e] at h; cases h; rfl
theorem relay_led (t : SetTable) (es : Array (Int × Value)) (n : Nat) : (relayAll t es n).2.1.led = t.led := by
 unfold relayAll
 cases e : t.relaid (es.map (·.1)) n with
 | none => rfl
 | some r =>
  obtain ⟨t',o⟩ := r
  have z : t'.led = t.led := laid_led (r := (t',o)) e
  dsimp only
  split
  ·exact z
  ·rfl
theorem laid_plain {m f mv : Nat} {l p : Bool} {hs : Array Int} {r : SetTable × Array Nat} (h : SetTable.laid m f mv l p hs = some r) : r.1.plain = p := by
 unfold SetTable.laid at h
 cases e : SetTable.layClean m hs with
 | none => rw [e] at h; cases h
 | some o => rw [e] at h; cases h; rfl
theorem relay_plain {t : SetTable} (es : Array (Int × Value)) (n : Nat) (h : t.plain = false) : (relayAll t es n).2.1.plain = false := by
 unfold relayAll
 cases e : t.relaid (es.map (·.1)) n with
 | none => rfl
 | some r =>
  obtain ⟨t',o⟩ := r
  have z : t'.plain = t.plain := laid_plain (r := (t',o)) e
  dsimp only
  split
  ·exact z.trans h
  ·rfl
section
variable {P : Program} {w : World} {A : Around} {E : Value → Shared → Prop} {s : Shared}
noncomputable def SetL (P : Program) (w : World) (h : Heap) (a : Addr) (b : Bool) (es : Array (Int × Value)) (ep : Nat) (t : SetTable) : Prop :=
 ∃ o,h.get? a = some o ∧ o.ExactSet ∧ o.data = .set es ep t ∧ ElemsOf (mixKind P w) es.toList ∧ es.size < scanBound ∧ t.fits es.size = true ∧ t.led = b ∧ (t.plain = true → es.size = 0)
theorem store_led {a : Addr} {o : Obj} {es es' : Array (Int × Value)} {ep : Nat} {t t' : SetTable} {h : Heap} (ho : h.get? a = some o) (hx : o.ExactSet) (hd : o.data = .set es ep t) (el : ElemsOf (mixKind P w) es'.toList) (hb : es'.size < scanBound) (hf : t'.fits es'.size = true) (hq : t'.plain = false) :
  (h.update a (Obj.putSet es' t')).get? a = some { o with data := .set es' (ep + 1) t' } ∧ SetL P w (h.update a (Obj.putSet es' t')) a t'.led es' (ep + 1) t' := by
 have g := (SetOf_store (knd := mixKind P w) ho hx hd (S' := fun k => decide (∃ e ∈ es'.toList,(mixKind P w).is k e.2 = true)) el (fun k => decide_eq_true_iff) hb hf).1
 exact ⟨g,_,g,hx,rfl,el,hb,hf,rfl,fun z => by rw [hq] at z; cases z⟩
theorem gave_ok {b : Bool} {Q : Unit → Shared → Prop} (h : Q () s) : wpAny (model P w) A (match b with | true => rule "set.scan.the-table-gave-way" | false => pure ()) Q E s := by
 cases b
 ·exact wpAny_pure h
 ·exact wpAny_rule h
noncomputable def kO : Value → Key
 | .int i _ => .inl i
 | .str x _ => .inr x
 | _ => .inl 0
theorem kO_is {k : Key} {v : Value} (h : (mixKind P w).is k v = true) : kO v = k := by
 rcases keyIs_shape (show keyIs k v = true from h) with ⟨i,t,rfl,rfl⟩ | ⟨x,t,rfl,rfl⟩ <;> rfl
noncomputable def SetM (P : Program) (w : World) (h : Heap) (a : Addr) (b : Bool) (l : List Key) : Prop := ∃ es ep t,SetL P w h a b es ep t ∧ (es.toList.map fun e => kO e.2).Perm l
theorem SetM.kept {h h' : Heap} {a : Addr} {b : Bool} {l : List Key} (x : SetM P w h a b l) (k : ∀ o,h.get? a = some o → h'.get? a = some o) : SetM P w h' a b l := by
 obtain ⟨es,ep,t,⟨o,ho,r⟩,q⟩ := x
 exact ⟨es,ep,t,⟨o,k o ho,r⟩,q⟩
theorem found_any {es : Array (Int × Value)} {l : List Key} {k : Key} (el : ElemsOf (mixKind P w) es.toList) (q : (es.toList.map fun e => kO e.2).Perm l) :
  (es.toList.findIdx? (fun e => (mixKind P w).is k e.2)).isSome = l.any (fun j => decide (j = k)) := by
 rw [List.findIdx?_isSome,Bool.eq_iff_iff,List.any_eq_true,List.any_eq_true]
 constructor
 ·rintro ⟨e,he,hk⟩
  exact ⟨kO e.2,q.mem_iff.mp (List.mem_map.mpr ⟨e,he,rfl⟩),decide_eq_true (kO_is hk)⟩
 ·rintro ⟨j,hj,ej⟩
  obtain rfl := of_decide_eq_true ej
  obtain ⟨e,he,rfl⟩ := List.mem_map.mp (q.mem_iff.mpr hj)
  obtain ⟨⟨k',hk',_⟩,_⟩ := el e he
  exact ⟨e,he,by rw [kO_is hk']; exact hk'⟩
theorem tail_led {g : Bool → Sem Unit} (hg : ∀ (b : Bool) (s₁ : Shared) (Q' : Unit → Shared → Prop),Q' () s₁ → wpAny (model P w) A (g b) Q' E s₁) {a : Addr} {o : Obj} {es es1 : Array (Int × Value)} {ep : Nat} {t t2 : SetTable} (ho : s.heap.get? a = some o) (hex : o.ExactSet) (hd : o.data = .set es ep t)
  (hel : ElemsOf (mixKind P w) es1.toList) (hb : es1.size < scanBound) (hf : t2.fits es1.size = true) (hq : t2.plain = false) {wd : Bool} {R : Option Bool → Shared → Prop}
  (h : ∀ h' es',Heap.SameBut a s.heap h' → (∃ ep' t',SetL P w h' a t2.led es' ep' t') → es'.toList.Perm es1.toList → R (some true) { s with heap := h' }) :
  wpAny (model P w) A (do
    storeSet a es1 t2
    if (!wd && t2.tooFull) = true then do
      g (relayAll t2 es1 (SetTable.grown es1.size)).2.2
      storeSet a (relayAll t2 es1 (SetTable.grown es1.size)).1 (relayAll t2 es1 (SetTable.grown es1.size)).2.1
      pure (some true)
     else pure (some true)) R E s := by
 refine wpAny_bind (wpAny_storeSet_of ho hd ?_ (fits_of_scanBound hb))
 obtain ⟨ho1,L1⟩ := store_led ho hex hd hel hb hf hq
 have sb := Heap.SameBut.update s.heap a (Obj.putSet es1 t2)
 split
 ·have hp := relayAll_perm t2 es1 (SetTable.grown es1.size)
  have hfr := relayAll_fits t2 es1 (SetTable.grown es1.size)
  have hlr := relay_led t2 es1 (SetTable.grown es1.size)
  have hpr := relay_plain es1 (SetTable.grown es1.size) hq
  generalize relayAll t2 es1 (SetTable.grown es1.size) = Rl at hp hfr hlr hpr ⊢
  obtain ⟨es2,t3,gv⟩ := Rl
  dsimp only at hp hfr hlr hpr ⊢
  have hz : es2.size = es1.size := by rw [← Array.length_toList,hp.length_eq,Array.length_toList]
  have hb2 : es2.size < scanBound := by rw [hz]; exact hb
  refine wpAny_bind (hg _ _ _ (wpAny_bind (wpAny_storeSet_of ho1 rfl ?_ (fits_of_scanBound hb2))))
  obtain ⟨_,L2⟩ := store_led (P := P) (w := w) ho1 hex rfl (hel.perm hp) hb2 hfr hpr
  exact wpAny_pure (h _ es2 (sb.trans (Heap.SameBut.update _ a _)) ⟨_,_,hlr ▸ L2⟩ hp)
 ·exact wpAny_pure (h _ es1 sb ⟨_,_,L1⟩ (List.Perm.refl _))
set_option maxHeartbeats 4000000 in
theorem add_led {a : Addr} {k : Key} {x : Value} {l : List Key} {b : Bool} {Q : Bool → Shared → Prop} (hkey : (mixKind P w).is k x = true) (hsc : x.scannable = true) (hpk : plainKind x = false) (hS : SetM P w s.heap a b l) (room : l.length + 1 < scanBound)
  (h : ∀ h' r,Heap.SameBut a s.heap h' → SetM P w h' a b (if l.any (fun j => decide (j = k)) then l else k :: l) → Q r { s with heap := h' }) :
  wpAny (model P w) A (setAddHashed a x ((mixKind P w).hash k)) Q E s := by
 obtain ⟨es,ep,t,⟨o,ho,hex,hd,hel,hb,hf,hl,hq⟩,q⟩ := hS
 have hn : es.size = l.length := by rw [← q.length_eq,List.length_map,Array.length_toList]
 unfold setAddHashed setAddHashedIn
 refine wpAny_holding (wpAny_bind (wpAny_setState_of ho hd hf ?_))
 dsimp only
 rw [byScan_of hsc hb hel]
 simp only [↓reduceIte]
 unfold setAddByScan
 refine wpAny_bind (wpAny_bind (wpAny_rule (wpAny_bind (wpAny_setScan_of hkey ho hd hf hel ?_))))
 have fa := found_any (k := k) hel q
 cases hr : List.findIdx? (fun e => (mixKind P w).is k e.2) es.toList with
 | some j =>
  rw [hr] at fa
  refine wpAny_pure (wpAny_pure ?_)
  have := h s.heap false (Heap.SameBut.refl a s.heap) (by rw [← fa]; exact ⟨es,ep,t,⟨o,ho,hex,hd,hel,hb,hf,hl,hq⟩,q⟩)
  exact this
 | none =>
  rw [hr] at fa
  have hend : ∀ h' es',Heap.SameBut a s.heap h' → (∃ ep' t',SetL P w h' a b es' ep' t') → es'.toList.Perm (es.toList ++ [((mixKind P w).hash k,x)]) → Q true { s with heap := h' } := fun h' es' sb ⟨ep',t',L⟩ pm =>
   h h' true sb (by
    rw [← fa]
    refine ⟨es',ep',t',L,(pm.map _).trans ?_⟩
    rw [List.map_append,List.map_cons,List.map_nil,kO_is hkey]
    exact (List.perm_append_comm).trans (List.Perm.cons _ q))
  dsimp only
  have hperm := layNew_perm t es ((mixKind P w).hash k) x
  have hfits := layNew_fits t es ((mixKind P w).hash k) x
  have hled := lay_led t es ((mixKind P w).hash k) x
  generalize hL : layNew t es ((mixKind P w).hash k) x = L at hperm hfits hled ⊢
  obtain ⟨es1,t1,wd,gave⟩ := L
  dsimp only at hperm hfits hled ⊢
  rw [Array.toList_push] at hperm
  have hel1 : ElemsOf (mixKind P w) es1.toList := (hel.push hkey hsc).perm hperm
  have hz1 : es1.size = l.length + 1 := by rw [← Array.length_toList,hperm.length_eq,List.length_append,Array.length_toList,hn]; rfl
  have hb1 : es1.size < scanBound := by rw [hz1]; exact room
  refine wpAny_bind (gave_ok ?_)
  split
  ·refine wpAny_bind ?_
   rw [hashByValue_scannable 8 hsc]
   refine wpAny_pure (tail_led ?_ ho hex hd hel1 hb1 ?_ (by rw [hpk]; rfl) ?_)
   ·intro b s₁ Q' hq; cases b <;> first | exact wpAny_pure hq | exact wpAny_rule hq
   ·split
    ·exact hfits
    ·exact SetTable.fits_plain_off hfits
   ·intro h' es' sb L pm
    refine wpAny_pure (hend h' es' sb ?_ (pm.trans hperm))
    have e : (if plainKind x = true then t1 else { t1 with plain := false }).led = b := by split <;> exact hled.trans hl
    rw [← e]
    exact L
  ·rename_i np
   refine wpAny_bind (wpAny_pure ?_)
   simp only [↓reduceIte]
   refine tail_led ?_ ho hex hd hel1 hb1 hfits (by simpa using np) ?_
   ·intro b s₁ Q' hq; cases b <;> first | exact wpAny_pure hq | exact wpAny_rule hq
   ·intro h' es' sb L pm
    refine wpAny_pure (hend h' es' sb ?_ (pm.trans hperm))
    rw [← hled.trans hl]
    exact L
end
end L2
set_option Elab.async false
set_option linter.all false
set_option maxRecDepth 100000
namespace L2
open PySem PySem.Spec PyProof.Rows
section
variable {P : Program} {w : World} {A : Around} {R : Result → Shared → Prop} {it : Addr} {fp wr : List Addr} {G : Array GenState → Array GenState → Prop} {n : Nat} {Pt : Nat → Value → Prop} {St : Nat → Shared → Prop}
theorem set_loopM (W : WalksS P w A.in1 it fp wr G n Pt St) (S : Addr) (b : Bool) (hS0 : S ∉ fp) (ks : List Key) (hks : ks.length = n) (hv : ∀ i v,Pt i v → ∃ k,ks[i]? = some k ∧ (mixKind P w).is k v = true ∧ v.scannable = true ∧ plainKind v = false) (hn : n + 1 < scanBound) :
  ∀ (d i : Nat) (s : Shared),n - i = d → i ≤ n → St i s → SetM P w s.heap S b (seen ks i) →
   (∀ s',Moved (S :: wr) G s s' → SetM P w s'.heap S b (seen ks n) → R (.ok (.ret .none)) s') → codeAny (model P w) A (.builtin "set.update.loop" ⟨[.ref S,.ref it],[]⟩) R s := by
 have nw : S ∉ wr := fun z => hS0 (W.sub _ z)
 have up : ∀ b ∈ wr,b ∈ S :: wr := fun b z => List.mem_cons_of_mem _ z
 intro d
 induction d with
 | zero =>
  intro i s e1 e2 st hS hR
  obtain rfl : i = n := by lia
  refine codeAny_builtin PyProof.Rows.F.entry_set_update_loop (by
   rw [Around.under_plainId PyProof.Rows.F.plain_set_update_loop _]
   show wpAny _ A.in1 (pyNext (.ref it) >>= _) _ _ s
   refine wpAny_bind (W.done s _ _ st fun s' mv => ?_)
   exact wpAny_pure (hR s' (mv.mono up) (hS.kept fun o q => mv.heap S o nw q)))
 | succ d ih =>
  intro i s e1 e2 st hS hR
  have lt : i < n := by lia
  refine codeAny_builtin PyProof.Rows.F.entry_set_update_loop (by
   rw [Around.under_plainId PyProof.Rows.F.plain_set_update_loop _]
   show wpAny _ A.in1 (pyNext (.ref it) >>= _) _ _ s
   refine wpAny_bind (W.item i s _ _ lt st fun v s' pv st' mv => ?_)
   obtain ⟨k,ek,kv,sc,pk⟩ := hv i v pv
   have hS' := hS.kept (h' := s'.heap) fun o q => mv.heap S o nw q
   show wpAny _ A.in1 (holding [v] (setAdd S v) >>= _) _ _ s'
   refine wpAny_bind (wpAny_holding (by
    unfold setAdd
    refine wpAny_holding (wpAny_bind ((mixKind P w).pyHash kv ?_))
    have room : (seen ks i).length + 1 < scanBound := by have := seen_le ks i; lia
    refine add_led (s := { s' with toks := s'.toks + 1 }) kv sc pk hS' room fun h2 _ sb hS2 => ?_
    have hS3 : SetM P w h2 S b (seen ks (i + 1)) := by rw [seen_next ek]; exact hS2
    refine wpAny_pure ⟨plainId_quiet PyProof.Rows.F.plain_set_update_loop _,ih (i + 1) _ (by lia) lt (W.frame _ s' _ _ st' (Nat.le_succ _) fun b hb o q => ?_) hS3 fun s3 mv3 hS4 => ?_⟩
    ·rw [sb.2 b (fun z : b = S => hS0 (by rw [← z]; exact hb))]; exact q
    ·refine hR s3 (Moved.trans W.gtrans ((mv.mono up).then_heap (Nat.le_succ _) fun b o hb q => ?_) mv3) hS4
     rw [sb.2 b (fun z : b = S => hb (by rw [z]; exact List.mem_cons_self))]; exact q)))
end
section
variable {P : Program} {w : World} {A : Around} {E : Value → Shared → Prop} {s : Shared}
theorem set_newM (a : Value) {Q₁ : Value → Shared → Prop} (h : Q₁ (.ref s.heap.objs.size) { s with heap := s.heap.push (setN (!w.params.followText "set-order")) }) :
  codeAny (model P w) A (.call (.builtin "set.__new__") ⟨[.type "set",a],[]⟩) (wants Q₁ E) s := by
 refine codeAny_of_tree ?_
 show wpAny _ A.in1 (do checkBuiltinCall "set.__new__" ⟨[.type "set",a],[]⟩; again (.builtin "set.__new__" ⟨[.type "set",a],[]⟩)) _ _ s
 refine wpAny_bind (wpAny_of_eq (PySem.F.newCall_set_1 a) (wpAny_pure ⟨plainId_quiet PySem.F.plain_set_new _,codeAny_builtin PySem.F.entry_set_new ?_⟩))
 rw [Around.under_plainId PySem.F.plain_set_new _]
 unfold Builtin.«set.__new__» Builtin.Frozenset.newClass
 have hsub := sub_set_self
 obtain ⟨hp,g,d,tk,os⟩ := s
 dsimp only
 wp_walk
 refine wpAny_askSetting (wpAny_pure ?_)
 dsimp only
 simp only [newObj]
 exact wpAny_bind (wpAny_alloc (wpAny_pure (wpAny_pure h)))
set_option maxHeartbeats 3200000 in
theorem set_of_list {t : Addr} {its : Array Value} {ks : List Key} {Q : Value → Shared → Prop} (hh : A.handled = none) (ht : s.heap.IsList t its) (hl : ks.length = its.size) (hv : ∀ (i : Nat) v,its[i]? = some v → ∃ k,ks[i]? = some k ∧ (mixKind P w).is k v = true ∧ v.scannable = true ∧ plainKind v = false)
  (hn : its.size + 1 < scanBound) (h : ∀ (h' : Heap) (tk : Nat),SetM P w h' s.heap.objs.size (!w.params.followText "set-order") (seen ks its.size) → (∀ b o,s.heap.get? b = some o → h'.get? b = some o) → Q (.ref s.heap.objs.size) { s with heap := h',toks := tk }) :
  wpAny (model P w) A (call (.type "set") [.ref t]) Q E s := by
 obtain ⟨c0,tl,hmro⟩ := PySem.F.called_set.mro
 have k1 := PySem.F.called_set.made
 have k2 := PySem.F.called_set.sub
 refine wpAny_call (codeAny_of_tree (by
  show wpAny _ _ (callAny (.type "set") _) _ _ _
  refine wpAny_pure ⟨Code.quiet_builtin _ (by decide +kernel),codeAny_builtin PySem.F.entry_type_call ?_⟩
  rw [Around.under_plain (weight_type_call_type "set" [.ref t] []) rfl]
  have k3 := PySem.F.called_set.notType
  have k4 := PySem.F.called_set.canCreate
  have k5 := PySem.F.typeCall_set_1 (.ref t)
  repeat (any_goals (first | assumption | wp_step))
  refine codeAny_mono (set_newM (.ref t) (E := E) (Q₁ := fun ob s1 => ∃ b : Bool,b = (!w.params.followText "set-order") ∧ ob = .ref s.heap.objs.size ∧ s1 = { s with heap := s.heap.push (setN b) }) ⟨_,rfl,rfl,rfl⟩) fun r s1 hr => ?_
  cases r with
  | error e => exact hr
  | ok fl =>
   cases fl with
   | ret ob =>
    obtain ⟨b,eb,rfl,rfl⟩ := hr
    have g1 : (s.heap.push (setN b)).get? s.heap.objs.size = some (setN b) := Heap.get?_push_size _ rfl
    have tS : Shared.TypeIs { s with heap := s.heap.push (setN b) } (.ref s.heap.objs.size) "set" := ⟨_,g1,rfl⟩
    have k6 := PySem.F.called_set.init.lookup
    have k7 := PySem.F.called_set.init.bind (.ref s.heap.objs.size)
    repeat (any_goals (first | assumption | wp_step))
    refine codeAny_mono (codeAny_call_builtin (R := wants (fun r s2 => r = .none ∧ ∃ h' tk,s2 = { s with heap := h',toks := tk } ∧ SetM P w h' s.heap.objs.size (!w.params.followText "set-order") (seen ks its.size) ∧ (∀ b o,s.heap.get? b = some o → h'.get? b = some o)) E)
     PySem.F.called_set.init.plain PySem.F.entry_set_init (check_set_init_1 tS ?_)) fun r2 s2 hr2 => ?_
    ·obtain ⟨⟨oc,od,oa,osl⟩,ho,hcl,nl,hdt⟩ := id ht
     simp only at hcl hdt
     subst hcl hdt
     have ht1 : (s.heap.push (setN b)).IsList t its := ⟨_,Heap.get?_push_of_some _ ho,rfl,nl,rfl⟩
     have ho1 : (s.heap.push (setN b)).get? t = some { cls := .type "list",dict := od,data := .seq its nl,slots := osl } := Heap.get?_push_of_some _ ho
     have k8 := (nsub "list" "set")
     have k9 := (nsub "list" "frozenset")
     have ka : (Value.type "list" == Value.type "dict") = false := by decide
     unfold Builtin.«set.__init__» noKeywords Builtin.Frozenset.updateFrom
     generalize hPI : pyIter = PI
     wp_walk
     subst hPI
     refine wpAny_pyIter_list ht1 ?_
     refine wpAny_bind (wpAny_runValue ?_)
     have lt : s.heap.objs.size > t := Heap.lt_size ho
     have hh3 : A.in1.in1.in1.handled = none := by simp [hh]
     have sz : (s.heap.push (setN b)).objs.size = s.heap.objs.size + 1 := Heap.size_push ..
     have ne1 : t ≠ (s.heap.push (setN b)).objs.size := by rw [sz]; exact Nat.ne_of_lt (Nat.lt_succ_of_lt lt)
     have nS : s.heap.objs.size ∉ [(s.heap.push (setN b)).objs.size,t] := by
      rw [sz]
      intro z
      rcases List.mem_cons.mp z with z | z
      ·exact absurd z (Nat.ne_of_lt (Nat.lt_succ_self _))
      ·exact absurd (List.mem_singleton.mp z) (Nat.ne_of_gt lt)
     refine set_loopM ((Walks.list hh3 _ t ne1 its).toS) s.heap.objs.size (!w.params.followText "set-order") nS ks hl hv hn (its.size - 0) 0 _ rfl (Nat.zero_le _) ⟨⟨_,Heap.get?_push_size _ rfl,rfl,rfl⟩,ht1.push _⟩ ?_ ?_
     ·exact ⟨#[],0,_,⟨_,Heap.get?_push_of_some _ g1,⟨rfl,rfl,rfl⟩,rfl,(fun e he => by simp at he),by decide,rfl,eb,fun _ => rfl⟩,List.Perm.refl _⟩
     ·intro s3 mv hS3
      obtain ⟨h3,g3,d3,t3,o3⟩ := s3
      cases (mv.gens : g3 = s.gens)
      cases (mv.drawn : d3 = s.drawn)
      cases (mv.os : o3 = s.os)
      refine wpAny_pure (wpAny_pure ⟨rfl,h3,t3,rfl,hS3,fun c o q => ?_⟩)
      have lc : s.heap.objs.size > c := Heap.lt_size q
      refine mv.heap c o ?_ (Heap.get?_push_of_some _ (Heap.get?_push_of_some _ q))
      intro z
      rcases List.mem_cons.mp z with z | z
      ·exact absurd z (Nat.ne_of_lt lc)
      ·exact absurd ((List.mem_singleton.mp z).trans sz) (Nat.ne_of_lt (Nat.lt_succ_of_lt lc))
    ·cases r2 with
     | error e => exact hr2
     | ok fl2 =>
      cases fl2 with
      | ret r =>
       obtain ⟨rfl,h',tk,rfl,q1,q2⟩ := hr2
       repeat (any_goals (first | assumption | wp_step))
       exact h _ _ q1 q2
      | _ => exact hr2.elim
   | _ => exact hr.elim))
end
end L2
set_option Elab.async false
set_option linter.all false
set_option maxRecDepth 100000
namespace L2
open PySem PySem.Spec PyProof.Rows
theorem entry_set_iter : entryFor table "set.__iter__" = some Builtin.«frozenset.__iter__» := entryFor_alias (id' := "frozenset.__iter__") (by kernel_rfl) rfl (by decide +kernel) (by kernel_rfl)
theorem slot_si_next : Slot "set_iterator" "__next__" "set_iterator.__next__" :=
 .of (owner := "set_iterator") (n := "__next__") (by rw [typeLookup_type,builtinLookup_eq_fast]; kernel_rfl) (by decide +kernel) (by decide +kernel) (by decide +kernel)
  (by first | exact .inl (by decide +kernel) | exact .inr (by decide +kernel)) (by rw [isSubtype_type]; kernel_rfl)
theorem entry_si_next : entryFor table "set_iterator.__next__" = some Builtin.«set_iterator.__next__» := entryFor_of_tree (by kernel_rfl)
theorem slot_si_iter : Slot "set_iterator" "__iter__" "set_iterator.__iter__" :=
 .of (owner := "set_iterator") (n := "__iter__") (by rw [typeLookup_type,builtinLookup_eq_fast]; kernel_rfl) (by decide +kernel) (by decide +kernel) (by decide +kernel)
  (by first | exact .inl (by decide +kernel) | exact .inr (by decide +kernel)) (by rw [isSubtype_type]; kernel_rfl)
theorem entry_si_iter : entryFor table "set_iterator.__iter__" = some Builtin.«dict_keyiterator.__iter__» := entryFor_alias (id' := "dict_keyiterator.__iter__") (by kernel_rfl) rfl (by decide +kernel) (by kernel_rfl)
theorem args_si_next (a : Value) : argsOk "set_iterator.__next__" ⟨[a],[]⟩ := by
 unfold argsOk; kernel_rfl
theorem args_si_iter (a : Value) : argsOk "set_iterator.__iter__" ⟨[a],[]⟩ := by
 unfold argsOk; kernel_rfl
theorem er_perm {α : Type} : ∀ (xs : List α) (i : Nat) (h : i < xs.length),(xs[i] :: xs.eraseIdx i).Perm xs
 | x :: xs,0,h => List.Perm.refl _
 | x :: xs,i + 1,h => (List.Perm.swap _ _ _).trans (List.Perm.cons x (er_perm xs i (Nat.lt_of_succ_lt_succ h)))
theorem pick_go {α : Type} (nx : Nat → Nat) : ∀ (f k : Nat) (left : List α) (out : Array α),left.length = f → (pickOrder.go nx f k left out).toList.Perm (out.toList ++ left)
 | 0,k,[],out,_ => by unfold pickOrder.go; simp
 | f + 1,k,x :: xs,out,h => by
  unfold pickOrder.go
  have hi : nx k % (x :: xs).length < (x :: xs).length := Nat.mod_lt _ (by simp)
  rw [List.getElem?_eq_getElem hi]
  refine (pick_go nx f (k + 1) _ _ (by rw [List.length_eraseIdx_of_lt hi,h]; rfl)).trans ?_
  rw [Array.toList_push,List.append_assoc]
  exact List.Perm.append_left _ (er_perm _ _ hi)
theorem pick_perm {α : Type} (nx : Nat → Nat) (xs : Array α) : (pickOrder nx xs).toList.Perm xs.toList := by
 have := pick_go nx xs.size 0 xs.toList #[] (by simp)
 unfold pickOrder
 simpa using this
section
variable {P : Program} {w : World} {A : Around} {E : Value → Shared → Prop} {s : Shared}
theorem choose_ok {src : Source} {n : Nat} {Q : Nat → Shared → Prop} (hn : n ≠ 0) (h : ∀ i d,i < n → Q i { s with drawn := d }) : wpAny (model P w) A (choose src n) Q E s :=
 fun _ _ _ => ⟨hn,h _ _ (Nat.mod_lt _ (Nat.pos_of_ne_zero hn))⟩
theorem draw_ok {α : Type} : ∀ (n : Nat) (xs : List α) (s : Shared) (Q : List α → Shared → Prop),xs.length = n → (∀ l d,l.Perm xs → Q l { s with drawn := d }) → wpAny (model P w) A (drawOrder n xs) Q E s
 | 0,[],s,Q,_,h => wpAny_pure (h [] s.drawn (List.Perm.refl _))
 | n + 1,x :: xs,s,Q,hl,h => by
  unfold drawOrder
  refine wpAny_bind (choose_ok (by simp) fun i d hi => ?_)
  rw [List.getElem?_eq_getElem hi]
  refine wpAny_bind (draw_ok n _ _ _ (by rw [List.length_eraseIdx_of_lt hi,hl]; rfl) fun l d2 pm => wpAny_pure (h _ d2 ?_))
  exact (List.Perm.cons _ pm).trans (er_perm _ _ hi)
noncomputable def SIt (h : Heap) (I a : Addr) (first : Value) (i n ep : Nat) : Prop := ∃ o,h.get? I = some o ∧ o.cls = .type "set_iterator" ∧ o.data = .fields #[first,.int i 0,.ref a,.int n 0,.int ep 0]
theorem SIt.type {I a : Addr} {first : Value} {i n ep : Nat} (x : SIt s.heap I a first i n ep) : s.TypeIs (.ref I) "set_iterator" := let ⟨o,ho,hc,_⟩ := x; ⟨o,ho,hc⟩
theorem SIt.at {h h' : Heap} {I a : Addr} {first : Value} {i n ep : Nat} (x : SIt h I a first i n ep) (e : ∀ o,h.get? I = some o → h'.get? I = some o) : SIt h' I a first i n ep := let ⟨o,ho,r⟩ := x; ⟨o,e _ ho,r⟩
theorem si_self {I a : Addr} {first : Value} {i n ep : Nat} {Q : Value → Shared → Prop} (x : SIt s.heap I a first i n ep) (h : Q (.ref I) s) : wpAny (model P w) A (pyIter (.ref I)) Q E s := by
 refine wpAny_pyIter_slot x.type slot_si_iter (wpAny_call_entry slot_si_iter x.type entry_si_iter ?_ (args_si_iter _))
 show wpAny _ _ (ret (.ref I)) _ _ s
 exact wpAny_pure ⟨_,rfl,"set_iterator",_,x.type,slot_si_next.lookup,h⟩
theorem set_iter {a : Addr} {b : Bool} {es : Array (Int × Value)} {ep : Nat} {t : SetTable} {Q : Value → Shared → Prop} (L : SetL P w s.heap a b es ep t)
  (h1 : (w.params.followText "set-order" = true ∨ es.size ≤ 1) → Q (.ref s.heap.objs.size) { s with heap := s.heap.push { cls := .type "set_iterator",data := .fields #[.int 0 0,.int 0 0,.ref a,.int es.size 0,.int ep 0] } })
  (h2 : ∀ (ps : List Nat) d,ps.Perm (List.range es.size) → Q (.ref (s.heap.objs.size + 1)) { s with heap := (s.heap.push { cls := .type "tuple",data := .seq (ps.map fun (i : Nat) => rawInt i).toArray }).push { cls := .type "set_iterator",data := .fields #[.ref s.heap.objs.size,.int 0 0,.ref a,.int es.size 0,.int ep 0] },drawn := d }) :
  wpAny (model P w) A (pyIter (.ref a)) Q E s := by
 obtain ⟨o,ho,hex,hd,hel,hb,hf,hl,hq⟩ := id L
 have hT : s.TypeIs (.ref a) "set" := ⟨o,ho,hex.1⟩
 refine wpAny_pyIter_slot hT PySem.F.slot_set_iter (wpAny_call_entry PySem.F.slot_set_iter hT entry_set_iter ?_ (PySem.F.args_set_iter_1 _))
 unfold Builtin.«frozenset.__iter__»
 refine wpAny_bind (m := Builtin.Frozenset.slot0 _ _) (wpAny_of_eq (a := a) rfl ?_)
 unfold Builtin.Frozenset.sizeOf
 refine wpAny_bind (wpAny_bind (wpAny_setEntries_of ho hd hf (wpAny_pure ?_)))
 unfold setDrawn
 refine wpAny_bind (wpAny_bind (wpAny_setState_of ho hd hf ?_))
 unfold setsByText
 refine wpAny_bind (wpAny_bind (wpAny_askSetting (wpAny_pure ?_)))
 refine wpAny_pure ?_
 have ne : ∀ {h' : Heap} {d'} {Q' : Nat → Shared → Prop},h'.get? a = some o → Q' ep { s with heap := h',drawn := d' } → wpAny (model P w) A.in1 (setEpoch a) Q' E { s with heap := h',drawn := d' } := fun g q => wpAny_setEpoch_of g hd hf q
 split
 ·refine wpAny_bind (draw_ok _ _ _ _ List.length_range fun ps d pm => ?_)
  have sl : ps.length ≤ sizeLine := by rw [pm.length_eq,List.length_range]; exact fits_of_scanBound hb
  refine wpAny_bind (wpAny_newTuple ?_ (by simpa using sl))
  refine wpAny_bind (ne (Heap.get?_push_of_some _ ho) ?_)
  refine wpAny_bind (wpAny_newObj_type (wpAny_pure ⟨_,rfl,"set_iterator",_,⟨_,Heap.get?_push_size _ rfl,rfl⟩,slot_si_next.lookup,?_⟩))
  have := h2 ps d pm
  rw [Heap.size_push]
  exact this
 ·rename_i nd
  refine wpAny_bind (wpAny_pure ?_)
  refine wpAny_bind (ne (d' := s.drawn) ho ?_)
  refine wpAny_bind (wpAny_newObj_type (wpAny_pure ⟨_,rfl,"set_iterator",_,⟨_,Heap.get?_push_size _ rfl,rfl⟩,slot_si_next.lookup,?_⟩))
  refine h1 ?_
  cases hy : w.params.followText "set-order" with
  | true => exact .inl rfl
  | false =>
   refine .inr ?_
   have nd' : ¬ (!false && (!t.plain && decide (es.size > 1))) = true := by rw [← hy]; exact nd
   cases hp : t.plain with
   | true => rw [hq hp]; exact Nat.zero_le _
   | false => rw [hp] at nd'; simpa using nd'
end
end L2
set_option Elab.async false
set_option linter.all false
set_option maxRecDepth 100000
namespace L2
open PySem PySem.Spec PyProof.Rows
section
variable {P : Program} {w : World} {A : Around} {E : Value → Shared → Prop} {s : Shared}
theorem next_text {a : Addr} {b : Bool} {es : Array (Int × Value)} {ep slot i : Nat} {t : SetTable} {Q : Option (Value × Nat) → Shared → Prop} (L : SetL P w s.heap a b es ep t) (hy : w.params.followText "set-order" = true)
  (h : Q (((pickOrder (w.params.setOrder a ep) es)[i]?).map fun e => (e.2,slot)) s) : wpAny (model P w) A (setNext a slot i ep) Q E s := by
 obtain ⟨o,ho,hex,hd,hel,hb,hf,hl,hq⟩ := id L
 unfold setNext
 refine wpAny_bind (wpAny_setState_of ho hd hf ?_)
 unfold setsByText
 refine wpAny_bind (wpAny_bind (wpAny_askSetting (wpAny_pure ?_)))
 dsimp only
 rw [if_pos (show (model P w).w.params.followText "set-order" = true from hy),if_neg (by simp)]
 unfold setWalk
 refine wpAny_bind (wpAny_bind (wpAny_setState_of ho hd hf ?_))
 unfold setsByText
 refine wpAny_bind (wpAny_bind (wpAny_askSetting (wpAny_pure ?_)))
 dsimp only
 rw [if_pos (show (model P w).w.params.followText "set-order" = true from hy)]
 exact wpAny_bind (wpAny_askSetting (wpAny_pure (wpAny_pure h)))
theorem next_one {a : Addr} {es : Array (Int × Value)} {ep slot i : Nat} {t : SetTable} {Q : Option (Value × Nat) → Shared → Prop} (L : SetL P w s.heap a true es ep t) (hy : w.params.followText "set-order" = false) (h1 : es.size ≤ 1)
  (h : Q (match es[SetTable.below t.place slot]?,t.place[SetTable.below t.place slot]? with | some (_,x),some j => some (x,j + 1) | _,_ => none) s) : wpAny (model P w) A (setNext a slot i ep) Q E s := by
 obtain ⟨o,ho,hex,hd,hel,hb,hf,hl,hq⟩ := id L
 unfold setNext
 refine wpAny_bind (wpAny_setState_of ho hd hf ?_)
 unfold setsByText
 refine wpAny_bind (wpAny_bind (wpAny_askSetting (wpAny_pure ?_)))
 dsimp only
 rw [if_neg (show ¬ (model P w).w.params.followText "set-order" = true by rw [show (model P w).w.params.followText "set-order" = false from hy]; exact Bool.false_ne_true)]
 split
 ·rename_i c
  have c' : (!t.plain && decide (es.size > 1)) = true := c
  simp at c'
  lia
 refine show wpAny _ _ ((if (!t.led && !es.isEmpty) = true then unsupported "set:maker-not-led" else pure ()) >>= _) _ _ _ from ?_
 rw [hl,if_neg (by simp)]
 exact wpAny_bind (wpAny_pure (wpAny_pure h))
theorem si_next {I a : Addr} {b : Bool} {first : Value} {i ep : Nat} {es : Array (Int × Value)} {t : SetTable} {Q : Option Value → Shared → Prop} (x : SIt s.heap I a first i es.size ep) (L : SetL P w s.heap a b es ep t)
  (h : wpAny (model P w) A.in1 (if let .int slot _ := first then do
     match ← setNext a slot.toNat ((i : Int)).toNat ((ep : Int)).toNat with
     | some (x,next) =>
      setField (.ref I) 0 (rawInt next)
      setField (.ref I) 1 (rawInt (i + 1))
      ret x
     | none => setField (.ref I) 2 .none; raiseNew (← newExc (.type "StopIteration") [])
    else do
     let some places ← seqItems? first | unsupported "internal:set_iterator"
     match places[((i : Int)).toNat]? with
     | some (.int place _) =>
      let x ← setNextDrawn a place.toNat ((ep : Int)).toNat
      setField (.ref I) 1 (rawInt (i + 1))
      ret x
     | some _ => unsupported "internal:set_iterator"
     | none => setField (.ref I) 0 (rawInt 0); setField (.ref I) 2 .none; raiseNew (← newExc (.type "StopIteration") []))
    (fun fin s' => ∃ v,fin = .done (.ret v) ∧ Q (some v) s') (fun e s' => s'.TypeIs e "StopIteration" ∧ Q none s') s) : wpAny (model P w) A (pyNext (.ref I)) Q E s := by
 obtain ⟨o,ho,hc,hd⟩ := id x
 obtain ⟨os,hos,hex,hds,hel,hb,hf,hl,hq⟩ := id L
 unfold pyNext
 refine wpAny_bind (wpAny_attempt (wpAny_callSpecial?_slot (name := Str.ofString "__next__") x.type slot_si_next (wpAny_call_entry slot_si_next x.type entry_si_next ?_ (args_si_next _))))
 unfold Builtin.«set_iterator.__next__»
 refine wpAny_bind (m := slotArgs _ _ _) (wpAny_pure ?_)
 refine wpAny_bind (wpAny_fieldsOf ho hd ?_)
 refine show wpAny _ _ (setEntries a >>= _) _ _ _ from wpAny_bind (wpAny_setEntries_of hos hds hf ?_)
 rw [if_neg (by simp)]
 refine wpAny_mono h (fun fin s' ⟨v,e,q⟩ => ⟨v,e,wpAny_pure q⟩) fun e s' ⟨ht,q⟩ => ?_
 refine show wpAny _ _ (isInstance e (.type "StopIteration") >>= _) _ _ _ from wpAny_bind (wpAny_isInstance (T := "StopIteration") (b := true) ht isSubtype_stop ?_)
 exact wpAny_pure q
theorem si_stop {I : Addr} {o : Obj} {vs : Array Value} {Q : PySem.Fin → Shared → Prop} {Q' : Option Value → Shared → Prop} (hh : A.handled = none) (ho : s.heap.get? I = some o) (hd : o.data = .fields vs) (h2 : 2 < vs.size) (q : ∀ h',Heap.ExtBut I s.heap h' → Q' none { s with heap := h' }) :
  wpAny (model P w) A (do setField (.ref I) 2 .none; raiseNew (← newExc (.type "StopIteration") [])) Q (fun e s' => s'.TypeIs e "StopIteration" ∧ Q' none s') s := by
 refine wpAny_bind (wpAny_setField ho hd h2 ?_)
 refine wpAny_bind ?_
 simp only [newExc,newTuple]
 refine wpAny_bind (wpAny_newObj_type ?_ (by size_fits))
 refine wpAny_bind (m := firstArgMember _ _) (wpAny_of_eq (a := Value.none) (by first | rfl | (simp only [firstArgMember]; rfl)) ?_)
 refine wpAny_newObj_type ?_ (by size_fits)
 simp only [raiseNew]
 refine wpAny_bind (wpAny_handled ?_)
 rw [hh]
 refine wpAny_bind (wpAny_pure (wpAny_throw ⟨⟨_,Heap.get?_push_size _ rfl,rfl⟩,?_⟩))
 exact q _ (((Heap.SameBut.update ..).extBut.push _).push _)
end
end L2
set_option Elab.async false
set_option linter.all false
set_option maxRecDepth 100000
namespace L2
open PySem PySem.Spec PyProof.Rows
section
variable {P : Program} {w : World} {A : Around} {E : Value → Shared → Prop} {s : Shared}
theorem SIt.set1 {h : Heap} {I a : Addr} {f : Value} {i n ep : Nat} (x : SIt h I a f i n ep) : SIt (h.update I (Obj.mapFields (·.setIfInBounds 1 (rawInt ((i : Int) + 1))))) I a f (i + 1) n ep := by
 obtain ⟨o,ho,hc,hd⟩ := x
 exact ⟨_,Heap.get?_update_self _ ho (Obj.isFreed_of_fields (Obj.data_mapFields hd _)),(Obj.cls_mapFields ..).trans hc,by rw [Obj.data_mapFields hd]; simp [rawInt]⟩
theorem SIt.set0 {h : Heap} {I a : Addr} {f : Value} {i n ep : Nat} (x : SIt h I a f i n ep) (k : Nat) : SIt (h.update I (Obj.mapFields (·.setIfInBounds 0 (rawInt k)))) I a (.int k 0) i n ep := by
 obtain ⟨o,ho,hc,hd⟩ := x
 exact ⟨_,Heap.get?_update_self _ ho (Obj.isFreed_of_fields (Obj.data_mapFields hd _)),(Obj.cls_mapFields ..).trans hc,by rw [Obj.data_mapFields hd]; simp [rawInt]⟩
theorem SetL.kept {h h' : Heap} {a : Addr} {b : Bool} {es : Array (Int × Value)} {ep : Nat} {t : SetTable} (x : SetL P w h a b es ep t) (k : ∀ o,h.get? a = some o → h'.get? a = some o) : SetL P w h' a b es ep t :=
 let ⟨o,ho,r⟩ := x; ⟨o,k o ho,r⟩
theorem sf1 {I a : Addr} {f v : Value} {i n ep : Nat} {Q : PySem.Fin → Shared → Prop} (x : SIt s.heap I a f i n ep) (q : ∀ h',Heap.SameBut I s.heap h' → SIt h' I a f (i + 1) n ep → Q (.done (.ret v)) { s with heap := h' }) :
  wpAny (model P w) A (do setField (.ref I) 1 (rawInt ((i : Int) + 1)); ret v) Q E s := by
 obtain ⟨o,ho,hc,hd⟩ := id x
 exact wpAny_bind (wpAny_setField ho hd (by simp) (wpAny_pure (q _ (Heap.SameBut.update ..) x.set1)))
theorem sf2 {I a : Addr} {f v : Value} {i k n ep : Nat} {Q : PySem.Fin → Shared → Prop} (x : SIt s.heap I a f i n ep) (q : ∀ h',Heap.SameBut I s.heap h' → SIt h' I a (.int k 0) (i + 1) n ep → Q (.done (.ret v)) { s with heap := h' }) :
  wpAny (model P w) A (do setField (.ref I) 0 (rawInt k); setField (.ref I) 1 (rawInt ((i : Int) + 1)); ret v) Q E s := by
 obtain ⟨o,ho,hc,hd⟩ := id x
 refine wpAny_bind (wpAny_setField ho hd (by simp) ?_)
 exact sf1 (s := { s with heap := _ }) (x.set0 k) fun h' sb st => q h' ((Heap.SameBut.update ..).trans sb) st
theorem Walks.setText (hh : A.handled = none) (I a : Addr) (hne : a ≠ I) {b : Bool} (es : Array (Int × Value)) (ep : Nat) (t : SetTable) (hy : w.params.followText "set-order" = true) :
  Walks P w A I [I,a] [I] es.size (fun i v => ∃ e,(pickOrder (w.params.setOrder a ep) es)[i]? = some e ∧ e.2 = v) (fun i h => (∃ k : Nat,SIt h I a (.int k 0) i es.size ep) ∧ SetL P w h a b es ep t) where
 sub := fun b hb => by simp at hb; simp [hb]
 frame := fun _ _ _ st hk => ⟨let ⟨k,x⟩ := st.1; ⟨k,x.at fun o e => hk I (by simp) o e⟩,st.2.kept fun o e => hk a (by simp) o e⟩
 item := fun i s Q E hi st hQ => by
  obtain ⟨⟨k,x⟩,L⟩ := st
  have hz : (pickOrder (w.params.setOrder a ep) es).size = es.size := by rw [← Array.length_toList,(pick_perm _ es).length_eq,Array.length_toList]
  refine si_next x L (show wpAny _ _ (setNext a k i ep >>= _) _ _ _ from wpAny_bind (next_text L hy ?_))
  rw [Array.getElem?_eq_getElem (by rw [hz]; exact hi)]
  refine sf2 x fun h' sb st => ⟨_,rfl,?_⟩
  exact hQ _ h' s.toks ⟨_,Array.getElem?_eq_getElem (by rw [hz]; exact hi),rfl⟩ ⟨⟨_,st⟩,L.kept fun o e => sb.extBut a o hne e⟩ fun b o hb e => sb.extBut b o (fun h => hb (by simp [h])) e
 done := fun s Q E st hQ => by
  obtain ⟨⟨k,x⟩,L⟩ := st
  have hz : (pickOrder (w.params.setOrder a ep) es).size = es.size := by rw [← Array.length_toList,(pick_perm _ es).length_eq,Array.length_toList]
  refine si_next x L (show wpAny _ _ (setNext a k es.size ep >>= _) _ _ _ from wpAny_bind (next_text L hy ?_))
  rw [Array.getElem?_eq_none (by rw [hz]; exact Nat.le_refl _)]
  obtain ⟨o,ho,hc,hd⟩ := id x
  exact si_stop hh ho hd (by simp) fun h' sb => hQ h' s.toks fun b o hb e => sb b o (fun h => hb (by simp [h])) e
 self := fun _ _ _ _ st hQ => let ⟨_,x⟩ := st.1; si_self x hQ
theorem below_one {xs : Array Nat} {j k : Nat} (h : xs = #[j]) : SetTable.below xs k = if j < k then 1 else 0 := by
 subst h
 show SetTable.below.go #[j] k 1 0 1 = _
 simp [SetTable.below.go]
theorem Walks.setOne (hh : A.handled = none) (I a : Addr) (hne : a ≠ I) (es : Array (Int × Value)) (ep : Nat) (t : SetTable) (hy : w.params.followText "set-order" = false) (h1 : es.size ≤ 1) :
  Walks P w A I [I,a] [I] es.size (fun i v => ∃ e,es[i]? = some e ∧ e.2 = v) (fun i h => (∃ k : Nat,SIt h I a (.int k 0) i es.size ep ∧ (i = 0 → k = 0) ∧ (i = 1 → ∃ j,t.place = #[j] ∧ j < k)) ∧ SetL P w h a true es ep t) where
 sub := fun b hb => by simp at hb; simp [hb]
 frame := fun _ _ _ st hk => ⟨let ⟨k,x,r⟩ := st.1; ⟨k,x.at fun o e => hk I (by simp) o e,r⟩,st.2.kept fun o e => hk a (by simp) o e⟩
 item := fun i s Q E hi st hQ => by
  obtain ⟨⟨k,x,r0,r1⟩,L⟩ := st
  have hi0 : i = 0 := by lia
  have hz : es.size = 1 := by lia
  cases hi0
  obtain rfl : k = 0 := r0 rfl
  obtain ⟨o,ho,hex,hd,hel,hb,hf,hl,hq⟩ := id L
  obtain ⟨j,ej⟩ : ∃ j,t.place = #[j] := by
   simp only [SetTable.fits,Bool.and_eq_true,beq_iff_eq] at hf
   exact Array.size_eq_one_iff.mp (hf.1.trans hz)
  obtain ⟨e,ee⟩ := Array.size_eq_one_iff.mp hz
  refine si_next x L (show wpAny _ _ (setNext a 0 0 ep >>= _) _ _ _ from wpAny_bind (next_one L hy h1 ?_))
  rw [below_one ej,if_neg (Nat.not_lt_zero _),ej,ee]
  refine sf2 x fun h' sb st => ⟨_,rfl,?_⟩
  exact hQ _ h' s.toks ⟨e,by rw [ee]; rfl,rfl⟩ ⟨⟨_,st,(fun z => nomatch z),fun _ => ⟨j,ej,Nat.lt_succ_self j⟩⟩,L.kept fun o e => sb.extBut a o hne e⟩ fun b o hb e => sb.extBut b o (fun h => hb (by simp [h])) e
 done := fun s Q E st hQ => by
  obtain ⟨⟨k,x,r0,r1⟩,L⟩ := st
  obtain ⟨o,ho,hex,hd,hel,hb,hf,hl,hq⟩ := id L
  refine si_next x L (show wpAny _ _ (setNext a k es.size ep >>= _) _ _ _ from wpAny_bind (next_one L hy h1 ?_))
  have e0 : es[SetTable.below t.place k]? = none := by
   rcases Nat.lt_or_ge es.size 1 with z | z
   ·exact Array.getElem?_eq_none (by lia)
   ·obtain ⟨j,ej,hj⟩ := r1 (by lia)
    rw [below_one ej,if_pos hj]
    exact Array.getElem?_eq_none h1
  rw [e0]
  obtain ⟨o,ho,hc,hd⟩ := id x
  exact si_stop hh ho hd (by simp) fun h' sb => hQ h' s.toks fun b o hb e => sb b o (fun h => hb (by simp [h])) e
 self := fun _ _ _ _ st hQ => let ⟨_,x,_⟩ := st.1; si_self x hQ
theorem seq_tup {a : Addr} {its : Array Value} {Q : Option (Array Value) → Shared → Prop} (h : s.heap.IsTuple a its) (q : Q (some its) s) : wpAny (model P w) A (seqItems? (.ref a)) Q E s := by
 obtain ⟨o,ho,hc,n,hd⟩ := h
 unfold seqItems?
 refine wpAny_bind (wpAny_load ho ?_)
 rw [hd]
 exact wpAny_pure q
theorem next_drawn {a : Addr} {b : Bool} {es : Array (Int × Value)} {ep j : Nat} {t : SetTable} {e : Int × Value} {Q : Value → Shared → Prop} (L : SetL P w s.heap a b es ep t) (he : es[j]? = some e) (h : Q e.2 s) : wpAny (model P w) A (setNextDrawn a j ep) Q E s := by
 obtain ⟨o,ho,hex,hd,hel,hb,hf,hl,hq⟩ := id L
 unfold setNextDrawn
 refine wpAny_bind (wpAny_setState_of ho hd hf ?_)
 dsimp only
 rw [if_neg (by simp),he]
 exact wpAny_pure h
theorem Walks.setDrawn (hh : A.handled = none) (I a tp : Addr) (hne : a ≠ I) (hnt : tp ≠ I) {b : Bool} (es : Array (Int × Value)) (ep : Nat) (t : SetTable) (ps : List Nat) (pm : ps.Perm (List.range es.size)) :
  Walks P w A I [I,a,tp] [I] es.size (fun i v => ∃ j e,ps[i]? = some j ∧ es[j]? = some e ∧ e.2 = v) (fun i h => SIt h I a (.ref tp) i es.size ep ∧ SetL P w h a b es ep t ∧ h.IsTuple tp (ps.map fun (i : Nat) => rawInt i).toArray) where
 sub := fun b hb => by simp at hb; simp [hb]
 frame := fun _ _ _ st hk => ⟨st.1.at fun o e => hk I (by simp) o e,st.2.1.kept fun o e => hk a (by simp) o e,let ⟨o,ho,r⟩ := st.2.2; ⟨o,hk tp (by simp) o ho,r⟩⟩
 item := fun i s Q E hi st hQ => by
  obtain ⟨x,L,T⟩ := st
  have hl : ps.length = es.size := by rw [pm.length_eq,List.length_range]
  have hi' : i < ps.length := by rw [hl]; exact hi
  have hj : ps[i] < es.size := List.mem_range.mp (pm.mem_iff.mp (List.getElem_mem hi'))
  refine si_next x L (show wpAny _ _ (seqItems? (.ref tp) >>= _) _ _ _ from wpAny_bind (seq_tup T ?_))
  have e1 : (ps.map fun (i : Nat) => rawInt i).toArray[((i : Int)).toNat]? = some (.int (ps[i] : Nat) 0) := by
   show (ps.map fun (i : Nat) => rawInt i).toArray[i]? = _
   rw [List.getElem?_toArray,List.getElem?_map,List.getElem?_eq_getElem hi']; rfl
  dsimp only
  rw [e1]
  refine show wpAny _ _ (setNextDrawn a ps[i] ep >>= _) _ _ _ from wpAny_bind (next_drawn L (Array.getElem?_eq_getElem hj) ?_)
  refine sf1 x fun h' sb st => ⟨_,rfl,?_⟩
  exact hQ _ h' s.toks ⟨_,_,List.getElem?_eq_getElem hi',Array.getElem?_eq_getElem hj,rfl⟩ ⟨st,L.kept fun o e => sb.extBut a o hne e,let ⟨o,ho,r⟩ := T; ⟨o,sb.extBut tp o hnt ho,r⟩⟩ fun b o hb e => sb.extBut b o (fun h => hb (by simp [h])) e
 done := fun s Q E st hQ => by
  obtain ⟨x,L,T⟩ := st
  have hl : ps.length = es.size := by rw [pm.length_eq,List.length_range]
  refine si_next x L (show wpAny _ _ (seqItems? (.ref tp) >>= _) _ _ _ from wpAny_bind (seq_tup T ?_))
  have e1 : (ps.map fun (i : Nat) => rawInt i).toArray[((es.size : Nat) : Int).toNat]? = none := by
   show (ps.map fun (i : Nat) => rawInt i).toArray[es.size]? = _
   exact Array.getElem?_eq_none (by simp [hl])
  dsimp only
  rw [e1]
  obtain ⟨o,ho,hc,hd⟩ := id x
  refine show wpAny _ _ (setField (.ref I) 0 (rawInt ((0 : Nat) : Int)) >>= _) _ _ _ from wpAny_bind (wpAny_setField ho hd (by simp) ?_)
  obtain ⟨o',ho',hc',hd'⟩ := x.set0 0
  exact si_stop (s := { s with heap := _ }) hh ho' hd' (by simp) fun h' sb => hQ h' s.toks fun b o hb e => sb b o (fun h => hb (by simp [h])) ((Heap.SameBut.update ..).extBut b o (fun h => hb (by simp [h])) e)
 self := fun _ _ _ _ st hQ => si_self st.1 hQ
end
end L2
set_option Elab.async false
set_option linter.all false
set_option maxRecDepth 100000
namespace L2
open PySem PySem.Spec PyProof.Rows
theorem list_of_ix {α : Type} {xs ys : List α} (hl : xs.length = ys.length) (h : ∀ (i : Nat) x,xs[i]? = some x → ys[i]? = some x) : xs = ys := by
 apply List.ext_getElem hl
 intro i h1 h2
 have := h i xs[i] (List.getElem?_eq_getElem h1)
 rw [List.getElem?_eq_getElem h2] at this
 exact (Option.some.inj this).symm
section
variable {P : Program} {w : World} {A : Around} {E : Value → Shared → Prop} {s : Shared}
theorem set_iterW {a : Addr} {es : Array (Int × Value)} {ep : Nat} {t : SetTable} {Q : Value → Shared → Prop} (L : SetL P w s.heap a (!w.params.followText "set-order") es ep t)
  (h : ∀ (I : Addr) (s2 : Shared) (fp : List Addr) (Pt : Nat → Value → Prop) (St : Nat → Heap → Prop),(∀ A' : Around,A'.handled = none → Walks P w A' I fp [I] es.size Pt St) → St 0 s2.heap → (∀ b o,s.heap.get? b = some o → s2.heap.get? b = some o) → s.heap.objs.size ≤ I → I < s2.heap.objs.size →
   (∀ x ∈ fp,x = a ∨ s.heap.objs.size ≤ x) → s2.gens = s.gens → s2.os = s.os → (∀ us : List Value,us.length = es.size → (∀ (i : Nat) v,us[i]? = some v → Pt i v) → us.Perm (es.toList.map (·.2))) → Q (.ref I) s2) :
  wpAny (model P w) A (pyIter (.ref a)) Q E s := by
 obtain ⟨o,ho,r⟩ := id L
 have lt : a < s.heap.objs.size := Heap.lt_size ho
 refine set_iter L (fun hy => ?_) fun ps d pm => ?_
 ·have hx : ∀ x ∈ [s.heap.objs.size,a],x = a ∨ s.heap.objs.size ≤ x := fun x hx => by
   rcases List.mem_cons.mp hx with z | z
   ·exact .inr (Nat.le_of_eq z.symm)
   ·exact .inl (List.mem_singleton.mp z)
  cases hy' : w.params.followText "set-order" with
  | true =>
   refine h _ _ _ _ _ (fun A' hh => Walks.setText hh s.heap.objs.size a (Nat.ne_of_lt lt) es ep t hy') ⟨⟨0,_,Heap.get?_push_size _ rfl,rfl,rfl⟩,L.kept fun o e => Heap.get?_push_of_some _ e⟩ (fun b o e => Heap.get?_push_of_some _ e) (Nat.le_refl _) (by rw [Heap.size_push]; exact Nat.lt_succ_self _) hx rfl rfl fun us hl hv => ?_
   have hz : (pickOrder (w.params.setOrder a ep) es).toList.length = es.size := by rw [(pick_perm _ es).length_eq,Array.length_toList]
   have e1 : us = (pickOrder (w.params.setOrder a ep) es).toList.map (·.2) := list_of_ix (by rw [List.length_map,hl,hz]) fun i v hi => by
    obtain ⟨e,he,rfl⟩ := hv i v hi
    rw [List.getElem?_map,Array.getElem?_toList,he]; rfl
   rw [e1]
   exact (pick_perm _ es).map _
  | false =>
   have h1 : es.size ≤ 1 := hy.elim (fun z => by rw [hy'] at z; cases z) id
   rw [hy'] at L
   refine h _ _ _ _ _ (fun A' hh => Walks.setOne hh s.heap.objs.size a (Nat.ne_of_lt lt) es ep t hy' h1) ⟨⟨0,⟨_,Heap.get?_push_size _ rfl,rfl,rfl⟩,fun _ => rfl,fun z => nomatch z⟩,L.kept fun o e => Heap.get?_push_of_some _ e⟩ (fun b o e => Heap.get?_push_of_some _ e) (Nat.le_refl _) (by rw [Heap.size_push]; exact Nat.lt_succ_self _) hx rfl rfl fun us hl hv => ?_
   have e1 : us = es.toList.map (·.2) := list_of_ix (by rw [List.length_map,hl,Array.length_toList]) fun i v hi => by
    obtain ⟨e,he,rfl⟩ := hv i v hi
    rw [List.getElem?_map,Array.getElem?_toList,he]; rfl
   rw [e1]
 ·have hI : s.heap.objs.size + 1 = (s.heap.push { cls := .type "tuple",data := .seq (ps.map fun (i : Nat) => rawInt i).toArray }).objs.size := by rw [Heap.size_push]
  refine h _ _ _ _ _ (fun A' hh => Walks.setDrawn hh (s.heap.objs.size + 1) a s.heap.objs.size (Nat.ne_of_lt (Nat.lt_succ_of_lt lt)) (Nat.ne_of_lt (Nat.lt_succ_self _)) es ep t ps pm)
   ⟨⟨_,by rw [hI]; exact Heap.get?_push_size _ rfl,rfl,rfl⟩,L.kept fun o e => Heap.get?_push_of_some _ (Heap.get?_push_of_some _ e),⟨_,Heap.get?_push_of_some _ (Heap.get?_push_size _ rfl),rfl,_,rfl⟩⟩ (fun b o e => Heap.get?_push_of_some _ (Heap.get?_push_of_some _ e)) (Nat.le_succ _) (by rw [Heap.size_push,Heap.size_push]; exact Nat.lt_succ_self _) (fun x hx => ?_) rfl rfl fun us hl hv => ?_
  ·rcases List.mem_cons.mp hx with z | z
   ·exact .inr (by rw [z]; exact Nat.le_succ _)
   ·rcases List.mem_cons.mp z with z | z
    ·exact .inl z
    ·exact .inr (Nat.le_of_eq (List.mem_singleton.mp z).symm)
  ·have e1 : us = ps.map (fun j => (es.getD j (0,.none)).2) := list_of_ix (by rw [List.length_map,hl,pm.length_eq,List.length_range]) fun i v hi => by
    obtain ⟨j,e,hj,he,rfl⟩ := hv i v hi
    rw [List.getElem?_map,hj]
    show some (es.getD j (0,.none)).2 = _
    rw [Array.getD_eq_getD_getElem?,he]; rfl
   rw [e1]
   refine (pm.map _).trans ?_
   have e2 : (List.range es.size).map (fun j => (es.getD j (0,.none)).2) = es.toList.map (·.2) := list_of_ix (by simp) fun i v hi => by
    rw [List.getElem?_map] at hi ⊢
    rcases Nat.lt_or_ge i es.size with z | z
    ·rw [List.getElem?_eq_getElem (by simpa using z)] at hi
     rw [Array.getElem?_toList,Array.getElem?_eq_getElem z]
     have hi' : some (es.getD i (0,.none)).2 = some v := by simpa using hi
     rw [Array.getD_eq_getD_getElem?,Array.getElem?_eq_getElem z] at hi'
     exact hi'
    ·rw [List.getElem?_eq_none (by simpa using z)] at hi
     cases hi
   rw [e2]
end
end L2
set_option Elab.async false
set_option linter.all false
set_option maxRecDepth 100000
namespace L2
open PySem PySem.Spec PyProof.Rows
section
variable {P : Program} {w : World} {A : Around} {E : Value → Shared → Prop} {s : Shared}
theorem set_len_slot : typeLookup (.type "set") "__len__" = pure (some (.builtin "set.__len__")) := by rw [typeLookup_type,builtinLookup_eq_fast]; kernel_rfl
set_option maxHeartbeats 4000000 in
theorem collectS {a : Addr} {es : Array (Int × Value)} {ep : Nat} {t : SetTable} {Q : List Value → Shared → Prop} (hh : A.handled = none) (L : SetL P w s.heap a (!w.params.followText "set-order") es ep t)
  (q : ∀ s' acc,(∀ b o,s.heap.get? b = some o → s'.heap.get? b = some o) → s.heap.objs.size < s'.heap.objs.size → s'.gens = s.gens → s'.os = s.os → acc.Perm (es.toList.map (·.2)) → Q acc s') :
  wpAny (model P w) A (collect (.ref a)) Q E s := by
 obtain ⟨o,ho,hex,hd,hel,hb,hf,hl,hq⟩ := id L
 unfold collect
 refine wpAny_bind (wpAny_runValue (codeAny_builtin F.entry_proto_collect ?_))
 rw [Around.under_plainId F.plain_proto_collect _]
 refine show wpAny _ A.in1 (newList [] >>= fun l => again (.builtin "list.__iadd__" ⟨[l,.ref a],[]⟩)) _ _ s from wpAny_bind (wpAny_newObj_type ?_)
 refine wpAny_pure ⟨plainId_quiet F.plain_list_iadd _,codeAny_builtin F.entry_list_iadd ?_⟩
 rw [Around.under_plainId F.plain_list_iadd _]
 have lta : a < s.heap.objs.size := Heap.lt_size ho
 have L1 := L.kept (h' := s.heap.push { cls := .type "list",data := .seq ([] : List Value).toArray }) fun o e => Heap.get?_push_of_some _ e
 have S1 : (s.heap.push { cls := .type "list",data := .seq ([] : List Value).toArray }).get? s.heap.objs.size = some { cls := .type "list",data := .seq ([] : List Value).toArray } := Heap.get?_push_size _ rfl
 have k1 : ∀ b o,s.heap.get? b = some o → (s.heap.push { cls := .type "list",data := .seq ([] : List Value).toArray }).get? b = some o := fun b o e => Heap.get?_push_of_some _ e
 have z1 : (s.heap.push { cls := .type "list",data := .seq ([] : List Value).toArray }).objs.size = s.heap.objs.size + 1 := Heap.size_push ..
 generalize s.heap.push { cls := .type "list",data := .seq ([] : List Value).toArray } = G at L1 S1 k1 z1 ⊢
 have hT1 : Shared.TypeIs { s with heap := G } (.ref a) "set" := ⟨_,k1 _ _ ho,hex.1⟩
 refine show wpAny _ A.in1 (Builtin.List.listExtendWith (.ref s.heap.objs.size) (.ref a) (.ref s.heap.objs.size)) _ _ _ from ?_
 unfold Builtin.List.listExtendWith
 refine wpAny_bind (wpAny_typeOf hT1 ?_)
 have n1 : Builtin.List.listSameRef (.ref s.heap.objs.size) (.ref a) = false := by simp [Builtin.List.listSameRef]; exact Nat.ne_of_gt lta
 simp only [n1,show (Value.type "set" == Value.type "list") = false by decide,show (Value.type "set" == Value.type "tuple") = false by decide,Bool.or_false,Bool.false_eq_true,if_false]
 refine wpAny_bind (set_iterW (s := { s with heap := G }) L1 fun I s2 fp Pt St W st k2 low lI hfp hg ho2 pm => ?_)
 refine wpAny_bind (wpAny_holding ?_)
 have S2 := k2 _ _ S1
 have hT2 : s2.TypeIs (.ref a) "set" := ⟨_,k2 _ _ (k1 _ _ ho),hex.1⟩
 unfold Builtin.List.listLengthHint
 refine wpAny_bind (wpAny_specialOf hT2 set_len_slot ?_)
 wp_delta
 refine wpAny_bind (wpAny_isInstance (b := true) hT2 (by rw [isSubtype_type]; kernel_rfl) ?_)
 refine show wpAny _ A.in1 (typeOf (Value.ref a) >>= _) _ _ _ from wpAny_bind (wpAny_typeOf hT2 (wpAny_pure ?_))
 rw [if_pos (by decide)]
 refine wpAny_bind (wpAny_rule (wpAny_bind ?_))
 refine show wpAny _ A.in1 (updateSeq s.heap.objs.size (·.push .none) >>= fun _ => updateSeq s.heap.objs.size (·.pop)) _ _ _ from wpAny_bind (wpAny_updateSeq S2 rfl ?_)
 have S3 := Heap.get?_update_self (Obj.mapSeq (·.push Value.none)) S2 rfl
 refine wpAny_updateSeq (hz := by seq_fits) S3 rfl ?_
 have S4 := Heap.get?_update_self (Obj.mapSeq (·.pop)) S3 rfl
 have oth : ∀ b o,b ≠ s.heap.objs.size → s2.heap.get? b = some o → ((s2.heap.update s.heap.objs.size (Obj.mapSeq (·.push Value.none))).update s.heap.objs.size (Obj.mapSeq (·.pop))).get? b = some o := fun b o n e => (Heap.get?_update_other _ _ (Ne.symm n)).trans ((Heap.get?_update_other _ _ (Ne.symm n)).trans e)
 have low' : s.heap.objs.size + 1 ≤ I := z1 ▸ low
 have hSf : s.heap.objs.size ∉ fp := fun z => by
  rcases hfp _ z with e | e
  ·exact absurd e (Nat.ne_of_gt lta)
  ·exact absurd (show s.heap.objs.size + 1 ≤ s.heap.objs.size from z1 ▸ e) (Nat.not_succ_le_self _)
 have Wk := W A.in1 hh
 refine wpAny_pure ⟨plainId_quiet F.plain_extend_loop _,codeAny_extend_loopS Wk.toS (fits_of_scanBound hb) _ hSf _ es.size 0 _ _ _ rfl (Nat.zero_le _) (Wk.frame 0 _ _ st fun b hb' o e => oth b o (fun z => hSf (z ▸ hb')) e) S4 (ItemsOf.nil _) fun s' acc' c' hmv S5 hacc => ?_⟩
 refine show wpAny _ A (load s.heap.objs.size >>= _) _ _ s' from wpAny_bind (wpAny_load S5 (wpAny_pure (q s' acc'.toList (fun b o e => hmv.heap b o (fun hb => ?_) (oth b o (Nat.ne_of_lt (Heap.lt_size e)) (k2 _ _ (k1 b o e)))) (Heap.lt_size S5) (hmv.gens.trans hg) (hmv.os.trans ho2) (pm _ (by rw [Array.length_toList,hacc.1]) fun i v hi => hacc.2 i v (by simpa using hi)))))
 have hlt := Heap.lt_size e
 simp only [List.mem_cons,List.not_mem_nil,or_false] at hb
 rcases hb with h | h
 ·exact absurd hlt (h ▸ Nat.lt_irrefl _)
 ·rw [h] at hlt
  exact absurd hlt (Nat.not_lt.mpr (Nat.le_of_succ_le low'))
end
end L2
set_option Elab.async false
set_option linter.all false
set_option maxRecDepth 100000
namespace L2
open PySem PySem.Spec PyProof.Rows
theorem met_mem (k : Key) (l : List Key) : k ∈ met l ↔ k ∈ l := by
 have h := met_any k l
 rw [Bool.eq_iff_iff,List.any_eq_true,List.any_eq_true] at h
 constructor
 ·intro z
  obtain ⟨x,hx,e⟩ := h.mp ⟨k,z,decide_eq_true rfl⟩
  exact of_decide_eq_true e ▸ hx
 ·intro z
  obtain ⟨x,hx,e⟩ := h.mpr ⟨k,z,decide_eq_true rfl⟩
  exact of_decide_eq_true e ▸ hx
theorem met_nodup : ∀ l : List Key,(met l).Nodup
 | [] => List.nodup_nil
 | a :: r => by
  unfold met
  split
  ·exact met_nodup r
  ·rename_i c
   refine List.nodup_cons.mpr ⟨fun z => c ?_,met_nodup r⟩
   exact List.any_eq_true.mpr ⟨a,(met_mem a r).mp z,decide_eq_true rfl⟩
theorem all_inr : ∀ (l : List Key),(∀ k ∈ l,∃ z,k = Sum.inr z) → ∃ ss : List Str,l = ss.map Sum.inr
 | [],_ => ⟨[],rfl⟩
 | k :: l,h => by
  obtain ⟨z,rfl⟩ := h k List.mem_cons_self
  obtain ⟨ss,rfl⟩ := all_inr l fun j hj => h j (List.mem_cons_of_mem _ hj)
  exact ⟨z :: ss,rfl⟩
theorem seen_strs (zs : List Str) : ∃ ss : List Str,seen (zs.map Sum.inr) zs.length = ss.map Sum.inr ∧ ss.Nodup ∧ (∀ z,z ∈ ss ↔ z ∈ zs) ∧ ss.length ≤ zs.length := by
 have e : seen (zs.map Sum.inr) zs.length = met (zs.map Sum.inr).reverse := by show met (List.take _ _).reverse = _; rw [List.take_of_length_le (by simp)]
 have hm : ∀ k,k ∈ seen (zs.map Sum.inr) zs.length ↔ k ∈ zs.map (Sum.inr : Str → Key) := fun k => by rw [e,met_mem]; exact List.mem_reverse
 obtain ⟨ss,es⟩ := all_inr (seen (zs.map Sum.inr) zs.length) fun k hk => by
  obtain ⟨z,_,rfl⟩ := List.mem_map.mp ((hm k).mp hk)
  exact ⟨z,rfl⟩
 refine ⟨ss,es,?_,fun z => ?_,?_⟩
 ·have nd : (ss.map (Sum.inr : Str → Key)).Nodup := by rw [← es,e]; exact met_nodup _
  exact List.Pairwise.of_map _ (fun a b h c => h (congrArg _ c)) nd
 ·have := hm (Sum.inr z)
  rw [es] at this
  simpa using this
 ·have := seen_le (zs.map Sum.inr) zs.length
  rw [es,List.length_map] at this
  exact this
section
variable {P : Program} {w : World} {A : Around} {E : Value → Shared → Prop} {s : Shared}
theorem strs_of_keys : ∀ {ss : List Str} {us : List Value},(∀ u ∈ us,∃ k,(mixKind P w).is k u = true) → us.map kO = ss.map Sum.inr → StrsAre us ss
 | [],[],_,_ => .nil
 | z :: ss,u :: us,h,e => by
  injection e with e1 e2
  obtain ⟨k,hk⟩ := h u List.mem_cons_self
  rw [kO_is hk] at e1
  subst e1
  obtain ⟨t,rfl⟩ := key_str hk
  exact .cons z t (strs_of_keys (fun u hu => h u (List.mem_cons_of_mem _ hu)) e2)
theorem sortedSet {a : Addr} {ss : List Str} {Q : Value → Shared → Prop} (hh : A.handled = none) (M : SetM P w s.heap a (!w.params.followText "set-order") (ss.map Sum.inr)) (h64 : ss.length < 64)
  (q : ∀ (h' : Heap) (d : Drawn) (t' : Nat) (a : Addr) (out : Array Value) (ss' : List Str) (n : Nat),(∀ b o,s.heap.get? b = some o → h'.get? b = some o) → s.heap.objs.size ≤ a → h'.get? a = some (seqObj "list" out n) → StrsAre out.toList ss' → ss'.Perm ss → sortedS ss' = true → Q (.ref a) { s with heap := h',toks := t',drawn := d }) :
  wpAny (model P w) A (call (.builtin "sorted") [.ref a]) Q E s := by
 obtain ⟨es,ep,t,L,pm⟩ := M
 obtain ⟨o,ho,hex,hd,hel,hb,hf,hl,hq⟩ := id L
 refine Calls.call_function_entry kind_sorted plain_sorted entry_sorted (args_sorted1 _) ?_
 unfold Builtin.«sorted»
 refine wpAny_bind (m := checkCount "sorted" 1 1 _) (wpAny_pure (wpAny_bind (collectS hh L fun s1 acc kk low g1 o1 ap => ?_)))
 have kp : (acc.map kO).Perm (ss.map Sum.inr) := by
  refine (ap.map kO).trans ?_
  rw [List.map_map]
  exact pm
 obtain ⟨ss0,e0⟩ := all_inr (acc.map kO) fun k hk => by
  obtain ⟨z,_,rfl⟩ := List.mem_map.mp (kp.mem_iff.mp hk)
  exact ⟨z,rfl⟩
 have p0 : ss0.Perm ss := by
  rw [e0] at kp
  have := kp.filterMap (fun k : Key => match k with | .inl _ => none | .inr z => some z)
  simpa [List.filterMap_map,Function.comp_def] using this
 have hS : StrsAre acc ss0 := strs_of_keys (P := P) (w := w) (fun u hu => by
  obtain ⟨e,he,rfl⟩ := List.mem_map.mp (ap.mem_iff.mp hu)
  exact hel.keys e he) e0
 have lacc : acc.length < 64 := by
  have h1 := congrArg List.length e0
  rw [List.length_map,List.length_map,p0.length_eq] at h1
  lia
 refine wpAny_bind (wpAny_newList ?_)
 have hoL : (s1.heap.push (seqObj "list" acc.toArray 0)).get? s1.heap.objs.size = some (seqObj "list" acc.toArray 0) := Heap.get?_push_size _ rfl
 refine wpAny_bind (wpAny_holding (wpAny_call_entry slot_list_sort ⟨_,hoL,rfl⟩ entry_list_sort (list_sort_treeK strKind_oneLt hoL hS.keysOf (fun v₁ v₂ rest e => keyKind_strs (by rw [← e]; exact hS)) lacc fun st' hp hs => ⟨_,rfl,?_⟩) (args_list_sort _)))
 obtain ⟨ss',h1,h2,h3⟩ := sorted_out_str hS hp hs
 obtain ⟨e,he⟩ := sortedHeap_at (out := (arrOf st').map (·.2)) hoL
 obtain ⟨hp1,g',d',tk',os'⟩ := s1
 have e1 : g' = s.gens := g1
 have e3 : os' = s.os := o1
 subst e1 e3
 refine wpAny_pure ⟨_,rfl,q _ d' tk' _ _ ss' e (fun b o eb => ?_) (Nat.le_of_lt low) he h1 (h2.trans p0) h3⟩
 have lt := Heap.lt_size (kk b o eb)
 rw [sortedHeap_old (Nat.ne_of_lt lt) (by rw [Heap.size_push]; exact Nat.lt_succ_of_lt lt)]
 exact Heap.get?_push_of_some _ (kk b o eb)
end
end L2
set_option Elab.async false
set_option linter.all false
set_option maxRecDepth 100000
namespace L2
open PySem PySem.Spec PyProof.Rows
noncomputable def setT (P : Program) (w : World) (p : Addr) (ss : List Str) : HO := .ext fun h => SetM P w h p (!w.params.followText "set-order") (ss.map Sum.inr)
section
variable {X : Cx}
theorem Inv.drawn {pins : List (Addr × Obj)} {σ : List (Option V)} {H : Hp} {s : Shared} (I : Inv X pins σ H s) (d : Drawn) : Inv X pins σ H { s with drawn := d } :=
 ⟨I.ok,I.os,I.bare,I.base,I.loc,I.cell,I.free,I.freeC,I.pin,I.hok,I.len⟩
theorem call_setL (hc : X.calm = true) : CallR X (.type "set") (fun xs H Q => ∃ (a : Addr) (zs : List Str),xs = [.ref a] ∧ SqL X.K H a (zs.map V.str) ∧ zs.length ≤ 1000 ∧ ∀ (p : Addr) (ss : List Str),H p = none → ss.Nodup → (∀ z,z ∈ ss ↔ z ∈ zs) → ss.length ≤ zs.length → Q (.ref p) (upd H p (setT X.prog X.w p ss))) := by
 intro pins s σ H xs us Q I r h
 obtain ⟨a,zs,rfl,ha,hl,q⟩ := h
 obtain ⟨u,rfl,rx⟩ := vals1 r
 cases rx
 obtain ⟨its,rv,ht,hz⟩ := I.list ha
 have el := rv.length
 rw [List.length_map] at el
 have ez : its.toArray.size = zs.length := by rw [List.size_toArray,el]
 obtain ⟨o,n,ho,hcl,hdn,hdt⟩ := ht
 refine set_of_list (ks := zs.map Sum.inr) (I.ok.hd hc) (show s.heap.IsList a its.toArray from ⟨o,ho,hcl,n,hdt⟩) (by rw [List.length_map]; exact ez.symm) (fun i v e => ?_) (by rw [ez]; unfold scanBound; lia) fun h' tk hS kk => ?_
 ·have e' : its[i]? = some v := by simpa using e
  have hi : i < zs.length := by rw [el]; exact (List.getElem?_eq_some_iff.mp e').1
  obtain ⟨v',ev,rk⟩ := rv.get (i := i) (x := V.str zs[i]) (by rw [List.getElem?_map,List.getElem?_eq_getElem hi]; rfl)
  rw [e'] at ev
  cases ev
  obtain ⟨t,rfl⟩ := rk
  exact ⟨Sum.inr zs[i],by rw [List.getElem?_map,List.getElem?_eq_getElem hi]; rfl,keyIs_str zs[i] t,rfl,rfl⟩
 ·rw [ez] at hS
  obtain ⟨ss,es,nd,hm,hle⟩ := seen_strs zs
  rw [es] at hS
  refine ⟨.ref s.heap.objs.size,_,I.laid (a := s.heap.objs.size) (o := setT X.prog X.w s.heap.objs.size ss) kk (Nat.le_refl _) ?_,rfl,q _ ss (I.hok.fresh (Nat.le_refl _)) nd hm hle⟩
  obtain ⟨_,_,_,⟨o,ho,_⟩,_⟩ := id hS
  exact ⟨hS,⟨o,ho⟩,fun h1 h2 hl k => hl.kept k⟩
theorem call_sortT (hc : X.calm = true) : CallR X (.builtin "sorted") (fun xs H Q => ∃ (p : Addr) (ss : List Str),xs = [.ref p] ∧ H p = some (setT X.prog X.w p ss) ∧ ss.length < 64 ∧ ∀ a ss',H a = none → ss'.Perm ss → sortedS ss' = true → Q (.ref a) (upd H a (.lst (ss'.map V.str)))) := by
 intro pins s σ H xs us Q I r h
 obtain ⟨p,ss,rfl,hp,hl,q⟩ := h
 obtain ⟨u,rfl,rx⟩ := vals1 r
 cases rx
 obtain ⟨M,_,_⟩ := I.hok p _ hp
 refine sortedSet (I.ok.hd hc) M hl fun h' d t' a out ss' n kk low ea h1 h2 h3 => ?_
 have hn : H a = none := I.hok.fresh low
 refine ⟨.ref a,_,(I.laid (t' := t') (o := .lst (ss'.map V.str)) kk low ?_).drawn d,rfl,q a ss' hn h2 h3⟩
 have e2 : seqObj "list" out n = seqObj "list" out.toList.toArray n := by rw [Array.toArray_toList]
 refine ⟨?_,out.toList,n,vals_strs h1,?_⟩
 ·rw [List.length_map,h2.length_eq]
  exact Nat.le_of_lt (Nat.lt_trans hl (by decide))
 ·rw [ea,e2]
end
end L2
set_option Elab.async false
set_option linter.all false
set_option maxRecDepth 100000
namespace L2
open PySem PySem.Spec PyProof.Rows
noncomputable def SqE : Bool → PySem.W.Frag → Hp → Addr → List V → Prop
 | true => SqT
 | false => SqL
noncomputable def ItzG (S : Hp → Addr → List V → Prop) (a b : Addr) : It :=
 ⟨fun i H => ∃ xs ys x y,S H a xs ∧ S H b ys ∧ xs[i]? = some x ∧ ys[i]? = some y,
  fun i H v H' => ∃ T x y,v = .ref T ∧ H T = none ∧ H' = upd H T (.tup [x,y]) ∧ (∀ xs,S H a xs → xs[i]? = some x) ∧ (∀ ys,S H b ys → ys[i]? = some y),
  fun i H => ∃ xs ys,S H a xs ∧ S H b ys ∧ min xs.length ys.length = i⟩
theorem SqE.same {t : Bool} {K : PySem.W.Frag} {H H' : Hp} {a : Addr} {xs : List V} (e : Same H H') (h : SqE t K H a xs) : SqE t K H' a xs := by
 cases t
 ·exact e.seq h
 ·exact e.tup h
theorem SqE.butD {t : Bool} {K : PySem.W.Frag} {H H' : Hp} {a p : Addr} {xs : List V} {kvs : List (Key × V)} (hp : H p = some (.dK kvs)) (e : But p H H') (h : SqE t K H a xs) : SqE t K H' a xs := by
 cases t
 ·rcases h with (h | ⟨o,h⟩) | h
  ·exact .inl (.inl (e _ _ (ne_of h hp (by intro z; cases z)) h))
  ·exact .inl (.inr ⟨o,e _ _ (ne_of h hp (by intro z; cases z)) h⟩)
  ·exact .inr h
 ·rcases h with (h | ⟨o,h⟩) | h
  ·exact .inl (.inl (e _ _ (ne_of h hp (by intro z; cases z)) h))
  ·exact .inl (.inr ⟨o,e _ _ (ne_of h hp (by intro z; cases z)) h⟩)
  ·exact .inr h
section
variable {X : Cx} {elts : List Expr} {k : Nat} {tpos : Pos}
noncomputable def iZipE (K : PySem.W.Frag) (ta : TA) : TI := fun σ H R => ∃ t,ta σ H fun vs H1 => ∃ a b,vs = [.ref a,.ref b] ∧ (∃ xs,SqE t K H1 a xs) ∧ (∃ ys,SqE t K H1 b ys) ∧ R (ItzG (SqE t K) a b) H1
theorem pi_zipE {a b : Expr} {ta : TA} {p pos : Pos} (hg : Gl X "zip") (hm : X.mg "zip" = none) (ha : PA X [a,b] ta) (hs : starEach [a,b] X.env = [(false,eval a X.env),(false,eval b X.env)] := by rfl) (hs2 : starEach [b] X.env = [(false,eval b X.env)] := by rfl) :
  PI X (.Tuple elts k tpos) (.Call (.Name "zip" p) [a,b] [] pos) (iZipE X.K ta) := by
 intro pins s σ H R I h
 obtain ⟨t,h⟩ := h
 cases t
 ·exact pi_zip hg hm ha hs hs2 pins s σ H R I h
 ·exact pi_zipT hg hm ha hs hs2 pins s σ H R I h
end
theorem for_zipE {S : Hp → Addr → List V → Prop} {a b : Addr} {xs ys : List V} {g : TG} {tb : TS} {D : Ends} {σ : St} {H : Hp} (Pv : Nat → St → Hp → Prop) (h0 : Pv 0 σ H) (hl : ∀ i σ H,Pv i σ H → S H a xs ∧ S H b ys)
  (hs : ∀ i x y T σ H,xs[i]? = some x → ys[i]? = some y → H T = none → Pv i σ H → g (.ref T) σ (upd H T (.tup [x,y])) fun σ2 H2 => tb { D with nx := Pv (i + 1),ct := Pv (i + 1),bk := D.nx } σ2 H2) (hd : ∀ σ H,Pv (min xs.length ys.length) σ H → D.nx σ H) :
  ∃ W : Nat → Nat → St → Hp → Prop,(∃ m,W 0 m σ H) ∧ ∀ i m σ H,W i m σ H →
   ((ItzG S a b).stop i H ∧ D.nx σ H) ∨ ((ItzG S a b).go i H ∧ ∃ N : St → Hp → Prop,(∀ σ' H',N σ' H' → ∃ m',m' < m ∧ W (i + 1) m' σ' H') ∧ ∀ x H',(ItzG S a b).yld i H x H' → g x σ H' fun σ2 H2 => tb { D with nx := N,ct := N,bk := D.nx } σ2 H2) := by
 refine ⟨fun i m σ H => m = min xs.length ys.length - i ∧ i ≤ min xs.length ys.length ∧ Pv i σ H,⟨_,rfl,Nat.zero_le _,h0⟩,?_⟩
 rintro i m σ H ⟨rfl,hi,p⟩
 obtain ⟨sa,sb⟩ := hl i σ H p
 by_cases hlt : i < min xs.length ys.length
 ·obtain ⟨x,ex⟩ : ∃ x,xs[i]? = some x := ⟨_,List.getElem?_eq_getElem (by lia)⟩
  obtain ⟨y,ey⟩ : ∃ y,ys[i]? = some y := ⟨_,List.getElem?_eq_getElem (by lia)⟩
  refine .inr ⟨⟨xs,ys,x,y,sa,sb,ex,ey⟩,Pv (i + 1),fun σ' H' p' => ⟨min xs.length ys.length - (i + 1),by lia,rfl,by lia,p'⟩,fun v H' q => ?_⟩
  obtain ⟨T,x',y',rfl,hT,rfl,q1,q2⟩ := q
  have e1 := q1 xs sa
  have e2 := q2 ys sb
  rw [ex] at e1
  rw [ey] at e2
  cases e1
  cases e2
  exact hs i x y T σ H ex ey hT p
 ·have e : i = min xs.length ys.length := by lia
  subst e
  exact .inl ⟨⟨xs,ys,sa,sb,rfl⟩,hd σ H p⟩
theorem call_setLN {X : Cx} {K : PySem.W.Frag} {P : Program} {w : World} (hK : X.K = K) (hP : X.prog = P) (hw : X.w = w) (hc : X.calm = true) : CallR X (.type "set") (fun xs H Q => ∃ (a : Addr) (zs : List Str),xs = [.ref a] ∧ SqL K H a (zs.map V.str) ∧ zs.length ≤ 1000 ∧ ∀ (p : Addr) (ss : List Str),H p = none → ss.Nodup → (∀ z,z ∈ ss ↔ z ∈ zs) → ss.length ≤ zs.length → Q (.ref p) (upd H p (setT P w p ss))) := by
 subst hK hP hw
 exact call_setL hc
noncomputable def DicN (K : PySem.W.Frag) (H : Hp) (p : Addr) (ns : List Str) (f : Str → Dt) : Prop :=
 ∃ kvs,H p = some (.dK kvs) ∧ kvs.map (·.1) = ns.map (Sum.inr : Str → Key) ∧ ∀ z ∈ ns,∃ v,valV kvs (Sum.inr z : Key) = some v ∧ IsP K H (f z) v
theorem putK_keys (kvs : List (Key × V)) (ns : List Str) (z : Str) (v : V) (h : kvs.map (·.1) = ns.map (Sum.inr : Str → Key)) : (putK kvs (Sum.inr z : Key) v).map (·.1) = (if z ∈ ns then ns else ns ++ [z]).map (Sum.inr : Str → Key) := by
 have ha : (kvs.any fun kv => decide (kv.1 = (Sum.inr z : Key))) = decide (z ∈ ns) := by
  have e : (kvs.any fun kv => decide (kv.1 = (Sum.inr z : Key))) = (kvs.map (·.1)).any fun k => decide (k = (Sum.inr z : Key)) := by rw [List.any_map]; rfl
  rw [e,h,List.any_map,Bool.eq_iff_iff]
  simp
 unfold putK
 rw [ha]
 by_cases hz : z ∈ ns
 ·rw [if_pos (by simpa using hz),if_pos hz,List.map_map,← h]
  refine List.map_congr_left fun kv _ => ?_
  show (if kv.1 = Sum.inr z then (kv.1,v) else kv).1 = kv.1
  split <;> rfl
 ·rw [if_neg (by simpa using hz),if_neg hz,List.map_append,h,List.map_append]
  rfl
end L2
set_option Elab.async false
set_option linter.all false
set_option maxRecDepth 100000
set_option maxHeartbeats 4000000
namespace K06
open PySem L2 PyProof.Rows
noncomputable abbrev s_field_of : Stmt := top 1
noncomputable abbrev s_record_of : Stmt := top 2
noncomputable abbrev s_with_fields : Stmt := top 3
noncomputable abbrev s_without_fields : Stmt := top 4
noncomputable abbrev s_law_cell_at : Stmt := top 6
noncomputable abbrev s_law_mixed : Stmt := top 7
noncomputable abbrev s_law_own : Stmt := top 8
noncomputable abbrev s_law_digit : Stmt := top 9
noncomputable abbrev s_law_names : Stmt := top 10
noncomputable abbrev s_law_number_kind : Stmt := top 11
noncomputable abbrev s_law_leaf_kind : Stmt := top 12
noncomputable abbrev s_law_record_kind : Stmt := top 13
noncomputable abbrev s_law_rows_kind : Stmt := top 14
noncomputable abbrev s_law_kind : Stmt := top 15
noncomputable abbrev s_law_text : Stmt := top 16
noncomputable abbrev s_law_keys : Stmt := top 17
noncomputable abbrev s_law_row_values : Stmt := top 18
noncomputable abbrev s_law_value : Stmt := top 19
noncomputable abbrev s_law_pool : Stmt := top 20
noncomputable abbrev s_law : Stmt := top 21
theorem sc_field_of : FnScope ["record","name","own","value"] ["record","name"] (defScope s_field_of) := ⟨rfl,rfl,rfl,by decide +kernel,rfl,by decide +kernel,by decide +kernel⟩
theorem sc_record_of : FnScope ["fields"] ["fields"] (defScope s_record_of) := ⟨rfl,rfl,rfl,by decide +kernel,rfl,by decide +kernel,by decide +kernel⟩
theorem sc_with_fields : FnScope ["record","names","values","fields","name","value"] ["record","names","values"] (defScope s_with_fields) := ⟨rfl,rfl,rfl,by decide +kernel,rfl,by decide +kernel,by decide +kernel⟩
theorem sc_without_fields : FnScope ["record","names"] ["record","names"] (defScope s_without_fields) := ⟨rfl,rfl,rfl,by decide +kernel,rfl,by decide +kernel,by decide +kernel⟩
theorem sc_law_cell_at : FnScope ["script","k"] ["script","k"] (defScope s_law_cell_at) := ⟨rfl,rfl,rfl,by decide +kernel,rfl,by decide +kernel,by decide +kernel⟩
theorem sc_law_mixed : FnScope ["cell","k","stir"] ["cell","k"] (defScope s_law_mixed) := ⟨rfl,rfl,rfl,by decide +kernel,rfl,by decide +kernel,by decide +kernel⟩
theorem sc_law_own : FnScope ["script","k","cell","found","j"] ["script","k"] (defScope s_law_own) := ⟨rfl,rfl,rfl,by decide +kernel,rfl,by decide +kernel,by decide +kernel⟩
theorem sc_law_digit : FnScope ["row","many","digit"] ["row","many"] (defScope s_law_digit) := ⟨rfl,rfl,rfl,by decide +kernel,rfl,by decide +kernel,by decide +kernel⟩
theorem sc_law_names : FnScope ["row","many","base","tail","way","words"] ["row","many"] (defScope s_law_names) := ⟨rfl,rfl,rfl,by decide +kernel,rfl,by decide +kernel,by decide +kernel⟩
theorem sc_law_number_kind : FnScope ["row","low","high"] ["row"] (defScope s_law_number_kind) := ⟨rfl,rfl,rfl,by decide +kernel,rfl,by decide +kernel,by decide +kernel⟩
theorem sc_law_leaf_kind : FnScope ["row","way","words"] ["row"] (defScope s_law_leaf_kind) := ⟨rfl,rfl,rfl,by decide +kernel,rfl,by decide +kernel,by decide +kernel⟩
theorem sc_law_record_kind : FnScope ["row","deep","room","many","fields","name"] ["row","deep","room"] (defScope s_law_record_kind) := ⟨rfl,rfl,rfl,by decide +kernel,rfl,by decide +kernel,by decide +kernel⟩
theorem sc_law_rows_kind : FnScope ["row","deep","room","names","key","fields","name","inner"] ["row","deep","room"] (defScope s_law_rows_kind) := ⟨rfl,rfl,rfl,by decide +kernel,rfl,by decide +kernel,by decide +kernel⟩
theorem sc_law_kind : FnScope ["row","deep","room","way"] ["row","deep","room"] (defScope s_law_kind) := ⟨rfl,rfl,rfl,by decide +kernel,rfl,by decide +kernel,by decide +kernel⟩
theorem sc_law_text : FnScope ["row","most","signs"] ["row","most"] (defScope s_law_text) := ⟨rfl,rfl,rfl,by decide +kernel,rfl,by decide +kernel,by decide +kernel⟩
theorem sc_law_keys : FnScope ["row","kind","many","start"] ["row","kind"] (defScope s_law_keys) := ⟨rfl,rfl,rfl,by decide +kernel,rfl,by decide +kernel,by decide +kernel⟩
theorem sc_law_row_values : FnScope ["row","kind","fields","items","most","key","pairs","name","value"] ["row","kind"] (defScope s_law_row_values) := ⟨rfl,rfl,rfl,by decide +kernel,rfl,by decide +kernel,by decide +kernel⟩
theorem sc_law_value : FnScope ["row","kind","word","edge","many"] ["row","kind"] (defScope s_law_value) := ⟨rfl,rfl,rfl,by decide +kernel,rfl,by decide +kernel,by decide +kernel⟩
theorem sc_law_pool : FnScope ["row","names","rows","name"] ["row"] (defScope s_law_pool) := ⟨rfl,rfl,rfl,by decide +kernel,rfl,by decide +kernel,by decide +kernel⟩
theorem sc_law : FnScope ["script","k","row","pool","own","some","values","name","record","others","handed","found","due","value","left","back"] ["script"] (defScope s_law) := ⟨rfl,rfl,rfl,by decide +kernel,rfl,by decide +kernel,by decide +kernel⟩
structure Tx (K : PySem.W.Frag) (mg : Str → Option Value) : Prop where
 field_of : ∃ f fd,Gn K mg "field_of" s_field_of ["record","name"] f fd
 record_of : ∃ f fd,Gn K mg "record_of" s_record_of ["fields"] f fd
 with_fields : ∃ f fd,Gn K mg "with_fields" s_with_fields ["record","names","values"] f fd
 without_fields : ∃ f fd,Gn K mg "without_fields" s_without_fields ["record","names"] f fd
 law_cell_at : ∃ f fd,Gn K mg "_law_cell_at" s_law_cell_at ["script","k"] f fd
 law_mixed : ∃ f fd,Gn K mg "_law_mixed" s_law_mixed ["cell","k"] f fd
 law_own : ∃ f fd,Gn K mg "_law_own" s_law_own ["script","k"] f fd
 law_digit : ∃ f fd,Gn K mg "_law_digit" s_law_digit ["row","many"] f fd
 law_names : ∃ f fd,Gn K mg "_law_names" s_law_names ["row","many"] f fd
 law_number_kind : ∃ f fd,Gn K mg "_law_number_kind" s_law_number_kind ["row"] f fd
 law_leaf_kind : ∃ f fd,Gn K mg "_law_leaf_kind" s_law_leaf_kind ["row"] f fd
 law_record_kind : ∃ f fd,Gn K mg "_law_record_kind" s_law_record_kind ["row","deep","room"] f fd
 law_rows_kind : ∃ f fd,Gn K mg "_law_rows_kind" s_law_rows_kind ["row","deep","room"] f fd
 law_kind : ∃ f fd,Gn K mg "_law_kind" s_law_kind ["row","deep","room"] f fd
 law_text : ∃ f fd,Gn K mg "_law_text" s_law_text ["row","most"] f fd
 law_keys : ∃ f fd,Gn K mg "_law_keys" s_law_keys ["row","kind"] f fd
 law_row_values : ∃ f fd,Gn K mg "_law_row_values" s_law_row_values ["row","kind"] f fd
 law_value : ∃ f fd,Gn K mg "_law_value" s_law_value ["row","kind"] f fd
 law_pool : ∃ f fd,Gn K mg "_law_pool" s_law_pool ["row"] f fd
 law : ∃ f fd,Gn K mg "law" s_law ["script"] f fd
 z_any : mg "any" = none
 z_dict : mg "dict" = none
 z_int : mg "int" = none
 z_isinstance : mg "isinstance" = none
 z_len : mg "len" = none
 z_list : mg "list" = none
 z_min : mg "min" = none
 z_range : mg "range" = none
 z_set : mg "set" = none
 z_sorted : mg "sorted" = none
 z_sum : mg "sum" = none
 z_tuple : mg "tuple" = none
 z_zip : mg "zip" = none
noncomputable abbrev depth : Nat := 60
noncomputable abbrev letters : Str := "abcdefghijklmnopqrstuvwxyz"
noncomputable def inB (c : Nat) : Bool := !(Builtin.Str.occurrences letters ⟨#[c]⟩ 0 letters.length 1).isEmpty
noncomputable def nameB (z : Str) : Bool := decide (1 ≤ z.length) && decide (z.length ≤ 8) && !decide (z = "each") && z.cps.toList.all inB
noncomputable def ltS (a b : Str) : Prop := a.cps.toList < b.cps.toList
noncomputable instance (a b : Str) : Decidable (ltS a b) := inferInstanceAs (Decidable (a.cps.toList < b.cps.toList))
noncomputable def wordsB (ws : List Str) : Bool := decide (1 ≤ ws.length) && decide (ws.length ≤ 8) && ws.all nameB && decide ws.Nodup
noncomputable abbrev G4 := Str × Dt × Nat × Nat
noncomputable abbrev nk (g : G4) : Str × Dt := (g.1,g.2.1)
noncomputable abbrev prG (g : G4) : Dt := .tup [.str g.1,g.2.1]
noncomputable def sumN : List Nat → Nat
 | [] => 0
 | n :: r => n + sumN r
noncomputable def maxN : List Nat → Nat
 | [] => 0
 | n :: r => max n (maxN r)
noncomputable def keyL (l : List Dt) (z : Str) : Prop := ∃ w r,Dt.tup [.str z,.tup (.str w :: r)] ∈ l ∧ (w = "number" ∨ w = "text")
inductive FK : Nat → Nat → Dt → Prop
 | text (i : Int) : 0 ≤ i → i ≤ 60 → FK 1 1 (.tup [.str "text",.int i])
 | choice (ws : List Str) : wordsB ws = true → FK 1 1 (.tup [.str "choice",.tup (ws.map Dt.str)])
 | number (i j : Int) : -1000000000000000000000000000000 ≤ i → i ≤ j → j ≤ 1000000000000000000000000000000 → FK 1 1 (.tup [.str "number",.int i,.int j])
 | list {a c : Nat} {k : Dt} {i : Int} : FK a c k → 0 ≤ i → i ≤ 8 → FK (a + 1) (c + 1) (.tup [.str "list",k,.int i])
 | rows {a c : Nat} {z : Str} {l : List Dt} {i : Int} : FK a c (.tup [.str "record",.tup l]) → keyL l z → 0 ≤ i → i ≤ 8 → FK (a + 1) (c + 1) (.tup [.str "rows",.str z,.tup [.str "record",.tup l],.int i])
 | rcd {gs : List G4} : (∀ g ∈ gs,FK g.2.2.1 g.2.2.2 g.2.1) → (gs.map (·.1)).Pairwise ltS → (∀ g ∈ gs,nameB g.1 = true ∧ g.1 ≠ "noneone") → gs.length ≤ 8 → FK (maxN (gs.map (·.2.2.1)) + 1) (sumN (gs.map (·.2.2.2)) + 1) (.tup [.str "record",.tup (gs.map prG)])
theorem FK.pos {a c : Nat} {d : Dt} (h : FK a c d) : 1 ≤ a := by cases h <;> lia
theorem le_max {n : Nat} : ∀ {l : List Nat},n ∈ l → n ≤ maxN l
 | m :: l,h => by
  show n ≤ max m (maxN l)
  rcases List.mem_cons.mp h with rfl | h
  ·exact Nat.le_max_left _ _
  ·exact Nat.le_trans (le_max h) (Nat.le_max_right _ _)
theorem max_le {b : Nat} : ∀ {l : List Nat},(∀ n ∈ l,n ≤ b) → maxN l ≤ b
 | [],_ => Nat.zero_le _
 | m :: l,h => by
  show max m (maxN l) ≤ b
  exact Nat.max_le.mpr ⟨h m List.mem_cons_self,max_le fun n hn => h n (List.mem_cons_of_mem _ hn)⟩
noncomputable def sp_law_mixed (_ : PySem.W.Frag) : Sp := fun vs H Q _ => ∃ i k : Int,vs = [.int i,.int k] ∧ ∀ c,Q (.int c) H
noncomputable def sp_law_digit (_ : PySem.W.Frag) : Sp := fun vs H Q _ => ∃ (r : Addr) (n m : Int),vs = [.ref r,.int m] ∧ H r = some (.lst [.int n]) ∧ 0 < m ∧ m < 10000000000000000000000000000000000000000000000000000000000000 ∧ Q (.int (n % m)) (upd H r (.lst [.int (n / m)]))
noncomputable def sp_law_cell_at (K : PySem.W.Frag) : Sp := fun vs H Q _ => ∃ (a : Addr) (ns : List Int) (k : Nat),vs = [.ref a,.int k] ∧ SqL K H a (ns.map V.int) ∧ ns.length ≤ 63 ∧ ∀ c,Q (.int c) H
noncomputable def sp_law_own (K : PySem.W.Frag) : Sp := fun vs H Q _ => ∃ (a : Addr) (ns : List Int) (k : Nat),vs = [.ref a,.int k] ∧ SqL K H a (ns.map V.int) ∧ ns.length ≤ 63 ∧ k < 1000 ∧
 ∀ r n H',H r = none → Same H H' → H' r = some (.lst [.int n]) → Q (.ref r) H'
noncomputable def spLaw (K : PySem.W.Frag) : Sp := fun vs H Q _ => ∃ (a : Addr) (ns : List Int),vs = [.ref a] ∧ SqL K H a (ns.map V.int) ∧ ns.length ≤ 63 ∧ ∀ H',Q (.bl true) H'
noncomputable abbrev sp_law (K : PySem.W.Frag) : Sp := spLaw K
theorem small {n : Nat} (h : n ≤ 1000) : n ≤ sizeLine := Nat.le_of_lt (small1000 h)
theorem take_next {α β : Type} {xs : List α} {i : Nat} {x : α} (f : α → β) (h : xs[i]? = some x) : (xs.take i).map f ++ [f x] = (xs.take (i + 1)).map f := by
 rw [List.take_add_one,h,List.map_append]; rfl
theorem lt_nodup {l : List Str} (h : l.Pairwise ltS) : l.Nodup := List.Pairwise.imp (fun {a b} hab e => by
 subst e
 exact absurd hab (List.lt_irrefl _)) h
section
variable {P : Program} {w : World} {K : PySem.W.Frag} {mg : Str → Option Value} {base : Heap}
theorem ok_law_mixed (T : Tx K mg) {f : Addr} {fd : FuncData} (F : Gn K mg "_law_mixed" s_law_mixed ["cell","k"] f fd) : FnOk P w K mg base CX0 1 f fd ["cell","k"] (sp_law_mixed K) := by
 refine F.F.ok sc_law_mixed (fun vs H Q E h => ?_) (fun cdv A outer s H vs Q E hr h => ?_)
 ·obtain ⟨i,k,rfl,_⟩ := h
  rfl
 obtain ⟨i,k,rfl,q⟩ := h
 refine ⟨_,(@pss_cons _ _ _ _ _ (@ps_set _ _ 2 _ _ _ _ sc_law_mixed.nd rfl (Or.inl rfl) (@pe_op _ _ _ _ _ _ _ _ op_mod (@pe_op _ _ _ _ _ _ _ _ op_mul (@pe_op _ _ _ _ _ _ _ _ op_add (@pe_op _ _ _ _ _ _ _ _ op_add (@pe_op _ _ _ _ _ _ _ _ op_mod (pv 0) pe_int) (@pe_op _ _ _ _ _ _ _ _ op_mul pe_int (pv 1))) pe_int) pe_int) pe_int) (by rfl) (by first | exact .inl rfl | exact .inr rfl | assumption)) (@pss_one _ _ _ (@ps_ret _ _ _ _ (@pe_op _ _ _ _ _ _ _ _ op_mod (@pe_op _ _ _ _ _ _ _ _ op_mul (@pe_op _ _ _ _ _ _ _ _ op_mod (@pe_op _ _ _ _ _ _ _ _ op_mul (pv 2) (pv 2)) pe_int) pe_int) pe_int)))),?_⟩
 refine ⟨_,rfl,_,_,rfl,rfl,(by show (0 : Int) < 1000000007; decide),_,rfl,_,_,rfl,rfl,.inl ⟨by decide,by decide⟩,_,_,rfl,rfl,_,_,rfl,rfl,_,_,rfl,rfl,.inr ⟨by decide,by decide⟩,_,_,rfl,rfl,(by show (0 : Int) < 2147483647; decide),?_⟩
 have b0 : (0 : Int) ≤ (i % 1000000007 + 7919 * k + 1) * 48271 % 2147483647 := Int.emod_nonneg _ (by decide)
 have b1 : (i % 1000000007 + 7919 * k + 1) * 48271 % 2147483647 < 2147483647 := Int.emod_lt_of_pos _ (by decide)
 exact ⟨_,rfl,_,rfl,_,_,rfl,rfl,.inl ⟨by lia,by lia⟩,_,_,rfl,rfl,(by show (0 : Int) < 2147483629; decide),_,_,rfl,rfl,.inr ⟨by decide,by decide⟩,_,_,rfl,rfl,(by show (0 : Int) < 2147483647; decide),q _⟩
theorem ok_law_digit (T : Tx K mg) {f : Addr} {fd : FuncData} (F : Gn K mg "_law_digit" s_law_digit ["row","many"] f fd) : FnOk P w K mg base CX0 1 f fd ["row","many"] (sp_law_digit K) := by
 refine F.F.ok sc_law_digit (fun vs H Q E h => ?_) (fun cdv A outer s H vs Q E hr h => ?_)
 ·obtain ⟨r,n,m,rfl,_⟩ := h
  rfl
 obtain ⟨r,n,m,rfl,hr0,h0,h1,q⟩ := h
 refine ⟨_,(@pss_cons _ _ _ _ _ (@ps_set _ _ 2 _ _ _ _ sc_law_digit.nd rfl (Or.inl rfl) (@pe_op _ _ _ _ _ _ _ _ op_mod (@pe_ix _ _ _ _ _ _ _ (ix_listK (K := K) rfl) (pv 0) pe_int (fun _ _ => rfl)) (pv 1)) (by rfl) (by first | exact .inl rfl | exact .inr rfl | assumption)) (@pss_cons _ _ _ _ _ (ps_asg (@pe_op _ _ _ _ _ _ _ _ op_fdivB (@pe_ix _ _ _ _ _ _ _ (ix_listK (K := K) rfl) (pv 0) pe_int (fun _ _ => rfl)) (pv 1)) (pg_sub (pv 0) pe_int set_list)) (@pss_one _ _ _ (@ps_ret _ _ _ _ (pv 2))))),?_⟩
 have e0 : atI [V.int n] 0 = some (.int n) := rfl
 exact ⟨_,rfl,r,_,_,_,rfl,rfl,SqL.of hr0,e0,_,rfl,_,_,rfl,rfl,h0,_,rfl,r,_,_,_,rfl,rfl,SqL.of hr0,e0,_,rfl,_,_,rfl,rfl,⟨h0,h1⟩,_,rfl,r,_,_,_,rfl,rfl,hr0,rfl,_,rfl,q⟩
theorem pick {α : Type} {xs : List α} {d : Int} (h0 : 0 ≤ d) (h1 : d < (xs.length : Int)) : ∃ v,v ∈ xs ∧ atI xs d = some v := by
 have hk : d.toNat < xs.length := by lia
 have ek : ((d.toNat : Nat) : Int) = d := by lia
 have e : atI xs ((d.toNat : Nat) : Int) = some xs[d.toNat] := atI_nat (by simp [hk])
 rw [ek] at e
 exact ⟨xs[d.toNat],List.getElem_mem hk,e⟩
theorem mod_lt (n : Int) {m : Int} (h : 0 < m) : 0 ≤ n % m ∧ n % m < m := ⟨Int.emod_nonneg _ (by lia),Int.emod_lt_of_pos _ h⟩
theorem ok_law_cell_at (T : Tx K mg) {f : Addr} {fd : FuncData} (F : Gn K mg "_law_cell_at" s_law_cell_at ["script","k"] f fd) : FnOk P w K mg base CX0 1 f fd ["script","k"] (sp_law_cell_at K) := by
 refine F.F.ok sc_law_cell_at (fun vs H Q E h => ?_) (fun cdv A outer s H vs Q E hr h => ?_)
 ·obtain ⟨a,ns,k,rfl,_⟩ := h
  rfl
 obtain ⟨a,ns,k,rfl,hS,h63,q⟩ := h
 refine ⟨_,(@pss_cons _ _ _ _ _ (@ps_if _ _ _ _ _ _ _ _ (pt_cmpR op_lt (pv 1) (pe_callB (call_len_seqN (K := K) rfl) rfl T.z_len PySem.boot_len (@pa_cons _ _ _ _ _ (pv 0) pa_nil (by rfl))) (nomark _)) (@pss_one _ _ _ (@ps_ret _ _ _ _ (@pe_ix _ _ _ _ _ _ _ (ix_listK (K := K) rfl) (pv 0) (pv 1) (fun _ _ => rfl)))) pss_nil) (@pss_one _ _ _ (@ps_ret _ _ _ _ pe_int))),?_⟩
 refine ⟨_,rfl,_,rfl,a,_,rfl,.inl hS,_,_,rfl,rfl,_,rfl,?_⟩
 rw [List.length_map]
 refine ite2 (fun c => ?_) (fun c => ?_)
 ·have c' : (k : Int) < ns.length := of_decide_eq_true c
  obtain ⟨v,hv,e⟩ := pick (xs := ns.map V.int) (d := (k : Int)) (by lia) (by rw [List.length_map]; exact c')
  obtain ⟨i,_,rfl⟩ := List.mem_map.mp hv
  exact ⟨_,rfl,_,rfl,a,_,_,_,rfl,rfl,hS,e,q i⟩
 ·exact q 0
theorem ok_law_own (T : Tx K mg) {f : Addr} {fd : FuncData} (F : Gn K mg "_law_own" s_law_own ["script","k"] f fd) : FnOk P w K mg base CX0 2 f fd ["script","k"] (sp_law_own K) := by
 obtain ⟨f_law_cell_at,fd_law_cell_at,D_law_cell_at⟩ := T.law_cell_at
 have G_law_cell_at := ok_law_cell_at (P := P) (w := w) (base := base) T D_law_cell_at
 obtain ⟨f_law_mixed,fd_law_mixed,D_law_mixed⟩ := T.law_mixed
 have G_law_mixed := ok_law_mixed (P := P) (w := w) (base := base) T D_law_mixed
 refine F.F.ok sc_law_own (fun vs H Q E h => ?_) (fun cdv A outer s H vs Q E hr h => ?_)
 ·obtain ⟨a,ns,k,rfl,_⟩ := h
  rfl
 obtain ⟨a,ns,k,rfl,hS,h63,hk,q⟩ := h
 refine ⟨_,(@pss_cons _ _ _ _ _ (@ps_set _ _ 2 _ _ _ _ sc_law_own.nd rfl (Or.inl rfl) (pe_call G_law_cell_at (hr.mono (by first | decide | lia)) rfl D_law_cell_at.m D_law_cell_at.F.kp D_law_cell_at.b .nil pass0 (@pa_cons _ _ _ _ _ (pv 0) (@pa_cons _ _ _ _ _ (pv 1) pa_nil (by rfl)) (by rfl))) (by rfl) (by first | exact .inl rfl | exact .inr rfl | assumption)) (@pss_cons _ _ _ _ _ (@ps_if _ _ _ _ _ _ _ _ (pt_cmpR op_ge (pv 2) (@pe_op _ _ _ _ _ _ _ _ op_pow pe_int pe_int) (nomark _)) (@pss_one _ _ _ (@ps_ret _ _ _ _ (@pe_lst _ _ _ _ (@pa_cons _ _ _ _ _ (pv 2) pa_nil (by rfl))))) pss_nil) (@pss_cons _ _ _ _ _ (@ps_set _ _ 3 _ _ _ _ sc_law_own.nd rfl (Or.inl rfl) pe_int (by rfl) (by first | exact .inl rfl | exact .inr rfl | assumption)) (@pss_cons _ _ _ _ _ (ps_for PassesOwn.never rfl (pi_range1 rfl T.z_range (@pa_cons _ _ _ _ _ pe_int pa_nil (by rfl))) (pg_name (i := 4) sc_law_own.nd rfl (Or.inl rfl))
    (@pss_one _ _ _ (@ps_set _ _ 3 _ _ _ _ sc_law_own.nd rfl (Or.inl rfl) (@pe_op _ _ _ _ _ _ _ _ op_add (@pe_op _ _ _ _ _ _ _ _ op_mul (pv 3) pe_int) (pe_call G_law_mixed (hr.mono (by first | decide | lia)) rfl D_law_mixed.m D_law_mixed.F.kp D_law_mixed.b .nil pass0 (@pa_cons _ _ _ _ _ (@pe_op _ _ _ _ _ _ _ _ op_add (@pe_op _ _ _ _ _ _ _ _ op_add (@pe_op _ _ _ _ _ _ _ _ op_mod (pe_callB call_sum rfl T.z_sum boot_sum (@pa_cons _ _ _ _ _ (pv 0) pa_nil (by rfl))) (@pe_op _ _ _ _ _ _ _ _ op_pow pe_int pe_int)) (pv 2)) (pv 1)) (@pa_cons _ _ _ _ _ (@pe_op _ _ _ _ _ _ _ _ op_add (@pe_op _ _ _ _ _ _ _ _ op_mul pe_int (pv 1)) (pv 4)) pa_nil (by rfl)) (by rfl)))) (by rfl) (by first | exact .inl rfl | exact .inr rfl | assumption)))) (@pss_one _ _ _ (@ps_ret _ _ _ _ (@pe_lst _ _ _ _ (@pa_cons _ _ _ _ _ (@pe_op _ _ _ _ _ _ _ _ op_fdivB (pv 3) pe_int) pa_nil (by rfl))))))))),?_⟩
 refine ⟨_,rfl,_,rfl,a,ns,k,rfl,hS,h63,fun x => ?_⟩
 refine ⟨_,rfl,_,_,rfl,rfl,⟨by decide,by decide,by decide⟩,_,_,rfl,rfl,_,rfl,?_⟩
 refine ite2 (fun c1 => ?_) (fun c1 => ?_)
 ·exact ⟨_,rfl,(by show 1 ≤ sizeLine; decide),fun r hr' => q r x _ hr' (same_new hr' _) upd_same⟩
 refine ⟨64,rfl,by decide,by decide,for_range (lo := 0) (n := (64 : Int).toNat) (fun i σ H1 => H1 = H ∧ ∃ y v,σ = [some (.ref a),some (.int k),some (.int x),some (.int y),v]) ⟨rfl,0,_,rfl⟩ ?_ ?_⟩
 ·rintro i σ H1 hi ⟨rfl,y,v,rfl⟩
  refine ⟨_,rfl,_,_,rfl,rfl,.inr ⟨by decide,by decide⟩,?_⟩
  refine ⟨_,rfl,a,ns,rfl,rfl,hS,_,_,rfl,rfl,⟨by decide,by decide,by decide⟩,_,_,rfl,rfl,(by show (0 : Int) < 10 ^ (60 : Int).toNat; decide +kernel),?_⟩
  refine ⟨_,rfl,_,_,rfl,rfl,_,rfl,_,_,rfl,rfl,?_⟩
  refine ⟨_,rfl,_,_,rfl,rfl,.inl ⟨by decide,by decide⟩,_,rfl,_,_,rfl,rfl,_,_,rfl,fun m => ?_⟩
  exact ⟨_,_,rfl,rfl,rfl,_,_,rfl⟩
 ·rintro σ H1 ⟨rfl,y,v,rfl⟩
  exact ⟨_,rfl,_,_,rfl,rfl,⟨by decide,by decide⟩,(by show 1 ≤ sizeLine; decide),fun r hr' => q r _ _ hr' (same_new hr' _) upd_same⟩
structure Nam (m : Nat) (ss : List Str) : Prop where
 len : ss.length = m
 asc : ss.Pairwise ltS
 ok : ∀ z ∈ ss,nameB z = true ∧ z ≠ "noneone"
theorem lt_total {a b : Str} (h : ¬ ltS b a) (n : a ≠ b) : ltS a b := by
 by_cases c : ltS a b
 ·exact c
 ·refine absurd ?_ n
  have e : a.cps.toList = b.cps.toList := List.le_antisymm (List.not_lt.mp h) (List.not_lt.mp c)
  cases a
  cases b
  simp only at e
  rw [Array.toList_inj.mp e]
theorem rising_pw : ∀ (l : List Str) (p : Str),risingS p l = true → (p :: l).Nodup → (p :: l).Pairwise ltS
 | [],p,_,_ => List.pairwise_singleton _ _
 | x :: l,p,h,nd => by
  simp only [risingS,ltCps_eq,Bool.and_eq_true,Bool.not_eq_true',decide_eq_false_iff_not] at h
  have nd' := List.nodup_cons.mp nd
  have ih := rising_pw l x h.2 nd'.2
  have px : ltS p x := lt_total h.1 fun e => nd'.1 (e ▸ List.mem_cons_self)
  refine List.pairwise_cons.mpr ⟨fun y hy => ?_,ih⟩
  rcases List.mem_cons.mp hy with rfl | hy
  ·exact px
  ·exact List.lt_trans px ((List.pairwise_cons.mp ih).1 y hy)
theorem sorted_pw {l : List Str} (h : sortedS l = true) (nd : l.Nodup) : l.Pairwise ltS := by
 cases l with
 | nil => exact .nil
 | cons x l => exact rising_pw l x h nd
theorem nam_sorted {ss l : List Str} (hp : ss.Perm l) (hs : sortedS ss = true) (nd : l.Nodup) (ok : ∀ z ∈ l,nameB z = true ∧ z ≠ "noneone") : Nam l.length ss :=
 ⟨hp.length_eq,sorted_pw hs (hp.nodup_iff.mpr nd),fun z hz => ok z (hp.mem_iff.mp hz)⟩
noncomputable def f1 (k : Nat) : Str := Txt.slice "abcdefgh" none (some (0 + (k : Int) + 1))
theorem fact1 : ∀ m,m < 9 → ((List.range m).map f1).Pairwise ltS ∧ ∀ z ∈ (List.range m).map f1,nameB z = true ∧ z ≠ "noneone" := by decide +kernel
noncomputable def words8 : List Str := ["eac","eachx","list","lists","number","rows","text","words"]
noncomputable def f2 (b k : Nat) : Str := words8.getD ((b + k) % 8) ""
theorem fact2 : ∀ b,b < 26 → ((List.range 8).map (f2 b)).Nodup ∧ ∀ z ∈ (List.range 8).map (f2 b),nameB z = true ∧ z ≠ "noneone" := by decide +kernel
noncomputable def tails : List Str := ["","a","zz","eachone"]
noncomputable def f3 (b : Nat) (t : Str) (k : Nat) : Str := ⟨#[letters.cps.toList.getD ((b + 7 * k) % 26) 0]⟩ ++ t
theorem fact3 : ∀ b,b < 26 → ∀ t ∈ tails,((List.range 8).map (f3 b t)).Nodup ∧ ∀ z ∈ (List.range 8).map (f3 b t),nameB z = true ∧ z ≠ "noneone" := by decide +kernel
theorem part8 {f : Nat → Str} {m : Nat} (hm : m ≤ 8) (h : ((List.range 8).map f).Nodup ∧ ∀ z ∈ (List.range 8).map f,nameB z = true ∧ z ≠ "noneone") : ((List.range m).map f).Nodup ∧ ∀ z ∈ (List.range m).map f,nameB z = true ∧ z ≠ "noneone" := by
 have s : ((List.range m).map f).Sublist ((List.range 8).map f) := (List.range_sublist.mpr hm).map f
 exact ⟨s.nodup h.1,fun z hz => h.2 z (s.subset hz)⟩
noncomputable def sp_law_names (K : PySem.W.Frag) : Sp := fun vs H Q _ => ∃ (r : Addr) (c : Int) (m : Nat),vs = [.ref r,.int m] ∧ H r = some (.lst [.int c]) ∧ m ≤ 8 ∧
 ∀ p ss c' H',But r H H' → H p = none → H' r = some (.lst [.int c']) → H' p = some (.lst (ss.map V.str)) → Nam m ss → Q (.ref p) H'
theorem getD_at {α : Type} {l : List α} {n : Nat} {e : α} (h : n < l.length) : l.getD n e = l[n] := by simp [List.getD,h]
theorem at_getD {α : Type} (f : α → V) (ws : List α) (d : Int) (e : α) (h0 : 0 ≤ d) (h1 : d < (ws.length : Int)) : atI (ws.map f) d = some (f (ws.getD d.toNat e)) := by
 have hk : d.toNat < ws.length := by lia
 have ek : ((d.toNat : Nat) : Int) = d := by lia
 have e' : atI (ws.map f) ((d.toNat : Nat) : Int) = some (f ws[d.toNat]) := atI_nat (by simp [hk])
 rw [ek] at e'
 rw [e',getD_at hk]
theorem range_next (f : Nat → Str) (i : Nat) : ((List.range i).map f).map V.str ++ [V.str (f i)] = ((List.range (i + 1)).map f).map V.str := by simp [List.range_succ]
theorem range_few (f : Nat → Str) {i : Nat} (h : i ≤ 8) : (((List.range i).map f).map V.str).length < sizeLine := by rw [List.length_map,List.length_map,List.length_range]; exact small1000 (by lia)
theorem but_upd {r l : Addr} {o : HO} {H H' : Hp} (b : But r H H') (hl : H l = none) : But r H (upd H' l o) := fun x u n e => by rw [upd_ne (ne_of_none e hl)]; exact b x u n e
theorem f2_at {b k : Nat} : atI (words8.map V.str) (((b : Int) + (0 + (k : Int))) % 8) = some (.str (f2 b k)) := by
 obtain ⟨h0,h1⟩ := mod_lt ((b : Int) + (0 + (k : Int))) (m := 8) (by decide)
 rw [at_getD V.str words8 _ "" h0 h1,show (((b : Int) + (0 + (k : Int))) % 8).toNat = (b + k) % 8 by lia]
 rfl
theorem f3_at {b k : Nat} : atI letters.cps.toList (((b : Int) + 7 * (0 + (k : Int))) % 26) = some (letters.cps.toList.getD ((b + 7 * k) % 26) 0) := by
 obtain ⟨h0,h1⟩ := mod_lt ((b : Int) + 7 * (0 + (k : Int))) (m := 26) (by decide)
 have hk : (b + 7 * k) % 26 < letters.cps.toList.length := by
  rw [show letters.cps.toList.length = 26 by decide +kernel]
  lia
 have ek : (((b + 7 * k) % 26 : Nat) : Int) = ((b : Int) + 7 * (0 + (k : Int))) % 26 := by lia
 have e' : atI letters.cps.toList ((((b + 7 * k) % 26 : Nat)) : Int) = some letters.cps.toList[(b + 7 * k) % 26] := atI_nat (by simp [hk])
 rw [ek] at e'
 rw [e',getD_at hk]
theorem ok_law_names (T : Tx K mg) {f : Addr} {fd : FuncData} (F : Gn K mg "_law_names" s_law_names ["row","many"] f fd) : FnOk P w K mg base CX0 2 f fd ["row","many"] (sp_law_names K) := by
 obtain ⟨f_law_digit,fd_law_digit,D_law_digit⟩ := T.law_digit
 have G_law_digit := ok_law_digit (P := P) (w := w) (base := base) T D_law_digit
 refine F.F.ok sc_law_names (fun vs H Q E h => ?_) (fun cdv A outer s H vs Q E hr h => ?_)
 ·obtain ⟨r,c,m,rfl,_⟩ := h
  rfl
 obtain ⟨r,c,m,rfl,hr0,hm,q⟩ := h
 refine ⟨_,(@pss_cons _ _ _ _ _ (@ps_set _ _ 2 _ _ _ _ sc_law_names.nd rfl (Or.inr rfl) (pe_call G_law_digit (hr.mono (by first | decide | lia)) rfl D_law_digit.m D_law_digit.F.kp D_law_digit.b .nil pass0 (@pa_cons _ _ _ _ _ (pv 0) (@pa_cons _ _ _ _ _ pe_int pa_nil (by rfl)) (by rfl))) (by rfl) (by first | exact .inl rfl | exact .inr rfl | assumption)) (@pss_cons _ _ _ _ _ (@ps_set _ _ 3 _ _ _ _ sc_law_names.nd rfl (Or.inr rfl) (@pe_ix _ _ _ _ _ _ _ (ix_listK (K := K) rfl) (@pe_lst _ _ _ _ (@pa_cons _ _ _ _ _ pe_str (@pa_cons _ _ _ _ _ pe_str (@pa_cons _ _ _ _ _ pe_str (@pa_cons _ _ _ _ _ pe_str pa_nil (by rfl)) (by rfl)) (by rfl)) (by rfl))) (pe_call G_law_digit (hr.mono (by first | decide | lia)) rfl D_law_digit.m D_law_digit.F.kp D_law_digit.b .nil pass0 (@pa_cons _ _ _ _ _ (pv 0) (@pa_cons _ _ _ _ _ pe_int pa_nil (by rfl)) (by rfl))) (fun _ _ => rfl)) (by rfl) (by first | exact .inl rfl | exact .inr rfl | assumption)) (@pss_cons _ _ _ _ _ (@ps_set _ _ 4 _ _ _ _ sc_law_names.nd rfl (Or.inl rfl) (pe_call G_law_digit (hr.mono (by first | decide | lia)) rfl D_law_digit.m D_law_digit.F.kp D_law_digit.b .nil pass0 (@pa_cons _ _ _ _ _ (pv 0) (@pa_cons _ _ _ _ _ pe_int pa_nil (by rfl)) (by rfl))) (by rfl) (by first | exact .inl rfl | exact .inr rfl | assumption)) (@pss_cons _ _ _ _ _ (@ps_if _ _ _ _ _ _ _ _ (pt_cmpR op_eq (pv 4) pe_int (nomark _)) (@pss_one _ _ _ (@ps_ret _ _ _ _ (pe_comp rfl (cs0 (NL := ["k"]) rfl (by decide +kernel) (by decide +kernel)) (pi_range1 rfl T.z_range (@pa_cons _ _ _ _ _ (pv 1) pa_nil (by rfl))) (fun _ _ _ _ => (pg_name (i := 0) (show List.Nodup (α := Str) ["k"] by decide +kernel) rfl (Or.inl rfl))) (fun _ _ _ _ => (pe_slice sl_str pe_str po_none (po_some (@pe_op _ _ _ _ _ _ _ _ op_add (pv 0) pe_int))))))) pss_nil) (@pss_cons _ _ _ _ _ (@ps_if _ _ _ _ _ _ _ _ (pt_cmpR op_eq (pv 4) pe_int (nomark _)) (@pss_cons _ _ _ _ _ (@ps_set _ _ 5 _ _ _ _ sc_law_names.nd rfl (Or.inr rfl) (@pe_lst _ _ _ _ (@pa_cons _ _ _ _ _ pe_str (@pa_cons _ _ _ _ _ pe_str (@pa_cons _ _ _ _ _ pe_str (@pa_cons _ _ _ _ _ pe_str (@pa_cons _ _ _ _ _ pe_str (@pa_cons _ _ _ _ _ pe_str (@pa_cons _ _ _ _ _ pe_str (@pa_cons _ _ _ _ _ pe_str pa_nil (by rfl)) (by rfl)) (by rfl)) (by rfl)) (by rfl)) (by rfl)) (by rfl)) (by rfl))) (by rfl) (by first | exact .inl rfl | exact .inr rfl | assumption)) (@pss_one _ _ _ (@ps_ret _ _ _ _ (pe_callB (call_sortSN (K := K) rfl) rfl T.z_sorted boot_sorted (@pa_cons _ _ _ _ _ (pe_comp rfl (csR (sc := defScope s_law_names) (NL := ["k"]) (N := ["row","many","base","tail","way","words"]) (ρ := [2,5]) (N' := ["k","base","words"]) rfl rfl rfl (by decide +kernel) (by decide +kernel) (by decide +kernel) rfl (by decide +kernel)) (pi_range1 rfl T.z_range (@pa_cons _ _ _ _ _ (pv 1) pa_nil (by rfl))) (fun _ _ _ _ => (pg_name (i := 0) (show List.Nodup (α := Str) ["k","base","words"] by decide +kernel) rfl (Or.inl rfl))) (fun _ _ _ _ => (@pe_ix _ _ _ _ _ _ _ (ix_listK (K := K) rfl) (pv 2) (@pe_op _ _ _ _ _ _ _ _ op_mod (@pe_op _ _ _ _ _ _ _ _ op_add (pv 1) (pv 0)) pe_int) (fun _ _ => rfl)))) pa_nil (by rfl)))))) pss_nil) (@pss_one _ _ _ (@ps_ret _ _ _ _ (pe_callB (call_sortSN (K := K) rfl) rfl T.z_sorted boot_sorted (@pa_cons _ _ _ _ _ (pe_comp rfl (csR (sc := defScope s_law_names) (NL := ["k"]) (N := ["row","many","base","tail","way","words"]) (ρ := [2,3]) (N' := ["k","base","tail"]) rfl rfl rfl (by decide +kernel) (by decide +kernel) (by decide +kernel) rfl (by decide +kernel)) (pi_range1 rfl T.z_range (@pa_cons _ _ _ _ _ (pv 1) pa_nil (by rfl))) (fun _ _ _ _ => (pg_name (i := 0) (show List.Nodup (α := Str) ["k","base","tail"] by decide +kernel) rfl (Or.inl rfl))) (fun _ _ _ _ => (@pe_op _ _ _ _ _ _ _ _ op_add_str (@pe_ix _ _ _ _ _ _ _ ix_str pe_str (@pe_op _ _ _ _ _ _ _ _ op_mod (@pe_op _ _ _ _ _ _ _ _ op_add (pv 1) (@pe_op _ _ _ _ _ _ _ _ op_mul pe_int (pv 0))) pe_int) (fun _ _ => rfl)) (pv 2)))) pa_nil (by rfl)))))))))),?_⟩
 refine ⟨_,rfl,r,c,26,rfl,hr0,by decide,by decide,?_⟩
 obtain ⟨b0,b1⟩ := mod_lt c (m := 26) (by decide)
 obtain ⟨b,hb⟩ : ∃ b : Nat,((b : Nat) : Int) = c % 26 := ⟨(c % 26).toNat,by lia⟩
 have b26 : b < 26 := by lia
 rw [← hb]
 refine ⟨(by show 4 ≤ sizeLine; decide),fun pl hpl => ?_⟩
 have hrp : r ≠ pl := fun e => by rw [← e,upd_same] at hpl; cases hpl
 have hplH : H pl = none := by rw [upd_ne hrp.symm] at hpl; exact hpl
 refine ⟨_,rfl,r,c / 26,4,rfl,by rw [upd_ne hrp]; exact upd_same,by decide,by decide,?_⟩
 obtain ⟨t0,t1⟩ := mod_lt (c / 26) (m := 4) (by decide)
 refine ⟨pl,_,_,_,rfl,rfl,SqL.of (by rw [upd_ne hrp.symm]; exact upd_same),at_getD V.str tails _ "" t0 t1,?_⟩
 have ht : tails.getD (c / 26 % 4).toNat "" ∈ tails := by
  rw [getD_at (show (c / 26 % 4).toNat < tails.length by show _ < 4; lia)]
  exact List.getElem_mem _
 generalize tails.getD (c / 26 % 4).toNat "" = t at ht
 refine ⟨_,rfl,r,c / 26 / 4,5,rfl,upd_same,by decide,by decide,?_⟩
 have B1 := (((But.put (H := H) (r := r) (o := .lst [.int (c / 26)])).trans (But.same (same_new hpl (.lst [.str "",.str "a",.str "zz",.str "eachone"])))).trans (But.put (o := .lst [.int (c / 26 / 4)]))).trans (But.put (o := .lst [.int (c / 26 / 4 / 5)]))
 have r1 : (upd (upd (upd (upd H r (.lst [.int (c / 26)])) pl (.lst [.str "",.str "a",.str "zz",.str "eachone"])) r (.lst [.int (c / 26 / 4)])) r (.lst [.int (c / 26 / 4 / 5)])) r = some (.lst [.int (c / 26 / 4 / 5)]) := upd_same
 have mN : ((m : Nat) : Int).toNat = m := Int.toNat_natCast m
 have free : ∀ {l : Addr} {Hx : Hp},But r H Hx → r ≠ l → Hx l = none → H l = none := fun {l Hx} B n e => by
  cases e' : H l with
  | none => rfl
  | some o => rw [B l o n.symm e'] at e; cases e
 refine ⟨_,rfl,rfl,_,rfl,ite2 (fun c1 => ?_) (fun c1 => ?_)⟩
 ·refine ⟨_,rfl,(m : Int),rfl,by lia,by lia,fun l hln => ?_⟩
  rw [mN]
  have lr : r ≠ l := ne_of_none r1 hln
  have lH : H l = none := free B1 lr hln
  refine comp_rangeR (fun i ys σ H' => i ≤ 8 ∧ ys = ((List.range i).map f1).map V.str ∧ But r H H' ∧ H' r = some (.lst [.int (c / 26 / 4 / 5)]) ∧ H' l = some (.lst ys) ∧ σ.length = 1) ⟨Nat.zero_le _,rfl,B1.trans (But.same (same_new hln _)),(by rw [upd_ne lr]; exact r1),upd_same,rfl⟩ ?_ ?_
  ·rintro i ys σ H' N hi ⟨h8,rfl,B2,r2,l2,hσ⟩ next
   match σ,hσ with
   | [_],_ =>
    exact ⟨_,rfl,_,_,rfl,rfl,_,rfl,_,rfl,(by decide),l2,range_few f1 (by lia),next _ _ _ ⟨by lia,range_next f1 i,but_upd B2 lH,(by rw [upd_ne lr]; exact r2),upd_same,rfl⟩⟩
  ·rintro ys σ H' ⟨h8,rfl,B2,r2,l2,hσ⟩
   obtain ⟨u1,u2⟩ := fact1 m (by lia)
   exact q l _ _ _ B2 lH r2 l2 ⟨by rw [List.length_map,List.length_range],u1,u2⟩
 refine ⟨_,rfl,rfl,_,rfl,ite2 (fun c2 => ?_) (fun c2 => ?_)⟩
 ·refine ⟨(by show 8 ≤ sizeLine; decide),fun pw hpw => ?_⟩
  have wr : r ≠ pw := ne_of_none r1 hpw
  have wH : H pw = none := free B1 wr hpw
  refine ⟨_,rfl,(m : Int),rfl,by lia,by lia,fun l hln => ?_⟩
  rw [mN]
  have r2 := (same_new hpw (.lst (words8.map V.str))) _ _ r1
  have lr : r ≠ l := ne_of_none r2 hln
  have lw : pw ≠ l := ne_of_none (upd_same (o := .lst (words8.map V.str))) hln
  have lH : H l = none := free (B1.trans (But.same (same_new hpw _))) lr hln
  refine comp_rangeR (fun i ys σ H' => i ≤ 8 ∧ ys = ((List.range i).map (f2 b)).map V.str ∧ But r H H' ∧ H' r = some (.lst [.int (c / 26 / 4 / 5)]) ∧ H' l = some (.lst ys) ∧ H' pw = some (.lst (words8.map V.str)) ∧ ∃ v,σ = [v,some (.int b),some (.ref pw)]) ⟨Nat.zero_le _,rfl,(B1.trans (But.same (same_new hpw _))).trans (But.same (same_new hln _)),(by rw [upd_ne lr]; exact r2),upd_same,(by rw [upd_ne lw]; exact upd_same),_,rfl⟩ ?_ ?_
  ·rintro i ys σ H' N hi ⟨h8,rfl,B2,r2,l2,w2,v,rfl⟩ next
   exact ⟨_,rfl,_,rfl,_,rfl,_,_,rfl,rfl,_,_,rfl,rfl,(show (0 : Int) < 8 by decide),pw,_,_,_,rfl,rfl,SqL.of w2,f2_at,l2,range_few (f2 b) (by lia),next _ _ _ ⟨by lia,range_next (f2 b) i,but_upd B2 lH,(by rw [upd_ne lr]; exact r2),upd_same,(by rw [upd_ne lw]; exact w2),_,rfl⟩⟩
  ·rintro ys σ H' ⟨h8,rfl,B2,r2,l2,w2,v,rfl⟩
   obtain ⟨u1,u2⟩ := part8 hm (fact2 b b26)
   refine ⟨l,_,rfl,SqL.of l2,by rw [List.length_map,List.length_range]; lia,fun a ss' ha hp hs => ?_⟩
   have ar : r ≠ a := ne_of_none r2 ha
   have n := nam_sorted hp hs u1 u2
   rw [List.length_map,List.length_range] at n
   exact q a ss' _ _ (B2.trans (But.same (same_new ha _))) (free B2 ar ha) (by rw [upd_ne ar]; exact r2) upd_same n
 ·refine ⟨_,rfl,(m : Int),rfl,by lia,by lia,fun l hln => ?_⟩
  rw [mN]
  have lr : r ≠ l := ne_of_none r1 hln
  have lH : H l = none := free B1 lr hln
  refine comp_rangeR (fun i ys σ H' => i ≤ 8 ∧ ys = ((List.range i).map (f3 b t)).map V.str ∧ But r H H' ∧ H' r = some (.lst [.int (c / 26 / 4 / 5)]) ∧ H' l = some (.lst ys) ∧ ∃ v,σ = [v,some (.int b),some (.str t)]) ⟨Nat.zero_le _,rfl,B1.trans (But.same (same_new hln _)),(by rw [upd_ne lr]; exact r1),upd_same,_,rfl⟩ ?_ ?_
  ·rintro i ys σ H' N hi ⟨h8,rfl,B2,r2,l2,v,rfl⟩ next
   have tl : t.length ≤ 10 := (show ∀ t ∈ tails,t.length ≤ 10 by decide +kernel) t ht
   exact ⟨_,rfl,_,rfl,_,_,rfl,rfl,.inl ⟨by decide,by decide⟩,_,_,rfl,rfl,_,_,rfl,rfl,(show (0 : Int) < 26 by decide),_,_,_,rfl,rfl,(by decide),f3_at,_,rfl,_,_,rfl,rfl,small (by show 1 + t.length ≤ 1000; lia),l2,range_few (f3 b t) (by lia),next _ _ _ ⟨by lia,range_next (f3 b t) i,but_upd B2 lH,(by rw [upd_ne lr]; exact r2),upd_same,_,rfl⟩⟩
  ·rintro ys σ H' ⟨h8,rfl,B2,r2,l2,v,rfl⟩
   obtain ⟨u1,u2⟩ := part8 hm (fact3 b b26 t ht)
   refine ⟨l,_,rfl,SqL.of l2,by rw [List.length_map,List.length_range]; lia,fun a ss' ha hp hs => ?_⟩
   have ar : r ≠ a := ne_of_none r2 ha
   have n := nam_sorted hp hs u1 u2
   rw [List.length_map,List.length_range] at n
   exact q a ss' _ _ (B2.trans (But.same (same_new ha _))) (free B2 ar ha) (by rw [upd_ne ar]; exact r2) upd_same n
noncomputable def GenN (K : PySem.W.Frag) (r : Addr) (H : Hp) (Q : VK) : Prop := ∀ v (i j n' : Int) H',But r H H' → H' r = some (.lst [.int n']) → IsP K H' (.tup [.str "number",.int i,.int j]) v → FK 1 1 (.tup [.str "number",.int i,.int j]) → Q v H'
noncomputable def sp_law_number_kind (K : PySem.W.Frag) : Sp := fun vs H Q _ => ∃ (r : Addr) (c : Int),vs = [.ref r] ∧ H r = some (.lst [.int c]) ∧ GenN K r H Q
theorem p30 : (10 : Int) ^ (30 : Int).toNat = 1000000000000000000000000000000 := by decide +kernel
theorem p29 : (10 : Int) ^ (29 : Int).toNat = 100000000000000000000000000000 := by decide +kernel
theorem pickM {ns : List Int} {d : Int} (h0 : 0 ≤ d) (h1 : d < (ns.length : Int)) : ∃ i : Int,i ∈ ns ∧ atI (ns.map V.int) d = some (.int i) := by
 obtain ⟨v,hv,e⟩ := pick (xs := ns.map V.int) h0 (by rw [List.length_map]; exact h1)
 obtain ⟨i,hi,rfl⟩ := List.mem_map.mp hv
 exact ⟨i,hi,e⟩
theorem pick2 (a b : Int) (k : Bool) : ∃ i : Int,(i = a ∨ i = b) ∧ atI [V.int a,V.int b] (if k = true then 1 else 0) = some (.int i) := by
 cases k with
 | true => exact ⟨b,.inr rfl,rfl⟩
 | false => exact ⟨a,.inl rfl,rfl⟩
theorem ok_law_number_kind (T : Tx K mg) {f : Addr} {fd : FuncData} (F : Gn K mg "_law_number_kind" s_law_number_kind ["row"] f fd) : FnOk P w K mg base CX0 2 f fd ["row"] (sp_law_number_kind K) := by
 obtain ⟨f_law_digit,fd_law_digit,D_law_digit⟩ := T.law_digit
 have G_law_digit := ok_law_digit (P := P) (w := w) (base := base) T D_law_digit
 refine F.F.ok sc_law_number_kind (fun vs H Q E h => ?_) (fun cdv A outer s H vs Q E hr h => ?_)
 ·obtain ⟨r,c,rfl,_⟩ := h
  rfl
 obtain ⟨r,c,rfl,hr0,q⟩ := h
 refine ⟨_,(@pss_cons _ _ _ _ _ (@ps_set _ _ 1 _ _ _ _ sc_law_number_kind.nd rfl (Or.inl rfl) (@pe_ix _ _ _ _ _ _ _ (ix_listK (K := K) rfl) (@pe_lst _ _ _ _ (@pa_cons _ _ _ _ _ (@pe_op _ _ _ _ _ _ _ _ op_sub (pe_call G_law_digit (hr.mono (by first | decide | lia)) rfl D_law_digit.m D_law_digit.F.kp D_law_digit.b .nil pass0 (@pa_cons _ _ _ _ _ (pv 0) (@pa_cons _ _ _ _ _ pe_int pa_nil (by rfl)) (by rfl))) pe_int) (@pa_cons _ _ _ _ _ (@pe_op _ _ _ _ _ _ _ _ op_sub (pe_call G_law_digit (hr.mono (by first | decide | lia)) rfl D_law_digit.m D_law_digit.F.kp D_law_digit.b .nil pass0 (@pa_cons _ _ _ _ _ (pv 0) (@pa_cons _ _ _ _ _ (@pe_op _ _ _ _ _ _ _ _ op_add (@pe_op _ _ _ _ _ _ _ _ op_mulB pe_int (@pe_op _ _ _ _ _ _ _ _ op_pow pe_int pe_int)) pe_int) pa_nil (by rfl)) (by rfl))) (@pe_op _ _ _ _ _ _ _ _ op_pow pe_int pe_int)) pa_nil (by rfl)) (by rfl))) (pe_callTy call_int1 rfl T.z_int boot_int (@pa_cons _ _ _ _ _ (pe_cmpR op_eq (pe_call G_law_digit (hr.mono (by first | decide | lia)) rfl D_law_digit.m D_law_digit.F.kp D_law_digit.b .nil pass0 (@pa_cons _ _ _ _ _ (pv 0) (@pa_cons _ _ _ _ _ pe_int pa_nil (by rfl)) (by rfl))) pe_int (nomark _)) pa_nil (by rfl))) (fun _ _ => rfl)) (by rfl) (by first | exact .inl rfl | exact .inr rfl | assumption)) (@pss_cons _ _ _ _ _ (@ps_set _ _ 2 _ _ _ _ sc_law_number_kind.nd rfl (Or.inl rfl) (pe_callB (call_min2 rfl) rfl T.z_min boot_min (@pa_cons _ _ _ _ _ (@pe_op _ _ _ _ _ _ _ _ op_pow pe_int pe_int) (@pa_cons _ _ _ _ _ (@pe_op _ _ _ _ _ _ _ _ op_add (pv 1) (@pe_ix _ _ _ _ _ _ _ (ix_listK (K := K) rfl) (@pe_lst _ _ _ _ (@pa_cons _ _ _ _ _ (pe_call G_law_digit (hr.mono (by first | decide | lia)) rfl D_law_digit.m D_law_digit.F.kp D_law_digit.b .nil pass0 (@pa_cons _ _ _ _ _ (pv 0) (@pa_cons _ _ _ _ _ pe_int pa_nil (by rfl)) (by rfl))) (@pa_cons _ _ _ _ _ (@pe_op _ _ _ _ _ _ _ _ op_pow pe_int pe_int) (@pa_cons _ _ _ _ _ (pe_call G_law_digit (hr.mono (by first | decide | lia)) rfl D_law_digit.m D_law_digit.F.kp D_law_digit.b .nil pass0 (@pa_cons _ _ _ _ _ (pv 0) (@pa_cons _ _ _ _ _ pe_int pa_nil (by rfl)) (by rfl))) pa_nil (by rfl)) (by rfl)) (by rfl))) (pe_call G_law_digit (hr.mono (by first | decide | lia)) rfl D_law_digit.m D_law_digit.F.kp D_law_digit.b .nil pass0 (@pa_cons _ _ _ _ _ (pv 0) (@pa_cons _ _ _ _ _ pe_int pa_nil (by rfl)) (by rfl))) (fun _ _ => rfl))) pa_nil (by rfl)) (by rfl))) (by rfl) (by first | exact .inl rfl | exact .inr rfl | assumption)) (@pss_one _ _ _ (@ps_ret _ _ _ _ (@pe_tupPK _ K _ _ _ _ rfl (@pa_cons _ _ _ _ _ pe_str (@pa_cons _ _ _ _ _ (pv 1) (@pa_cons _ _ _ _ _ (pv 2) pa_nil (by rfl)) (by rfl)) (by rfl))))))),?_⟩
 refine ⟨_,rfl,r,c,12,rfl,hr0,by decide,by decide,_,_,rfl,rfl,?_⟩
 obtain ⟨a0,a1⟩ := mod_lt c (m := 12) (by decide)
 refine ⟨_,rfl,_,_,rfl,rfl,⟨by decide,by decide,by decide⟩,?_⟩
 have m30 : (0 : Int) < 2 * 10 ^ (30 : Int).toNat + 1 := by rw [p30]; decide
 refine ⟨_,_,rfl,rfl,mulOk_of_bits (m := 2) (n := 100) (by decide +kernel) (by decide +kernel) (by decide),_,_,rfl,rfl,r,c / 12,2 * 10 ^ (30 : Int).toNat + 1,rfl,upd_same,m30,by rw [p30]; decide,?_⟩
 obtain ⟨d0,d1⟩ := mod_lt (c / 12) m30
 refine ⟨_,_,rfl,rfl,⟨by decide,by decide,by decide⟩,_,_,rfl,rfl,(by show 2 ≤ sizeLine; decide),fun p hp => ?_⟩
 have hrp : r ≠ p := fun e => by rw [← e,upd_same] at hp; cases hp
 obtain ⟨low,hlow,elow⟩ := pick2 (c % 12 - 6) (c / 12 % (2 * 10 ^ (30 : Int).toNat + 1) - 10 ^ (30 : Int).toNat) (decide (V.int (c / 12 / (2 * 10 ^ (30 : Int).toNat + 1) % 4) = V.int 1))
 have l0 : -1000000000000000000000000000000 ≤ low := by
  rw [p30] at hlow d0 d1
  rcases hlow with h | h <;> lia
 have l1 : low ≤ 1000000000000000000000000000000 := by
  rw [p30] at hlow d0 d1
  rcases hlow with h | h <;> lia
 refine ⟨_,rfl,r,c / 12 / (2 * 10 ^ (30 : Int).toNat + 1),4,rfl,(by rw [upd_ne hrp]; exact upd_same),by decide,by decide,rfl,.inr ⟨_,rfl,p,_,_,_,rfl,rfl,SqL.of (by rw [upd_ne hrp.symm]; exact upd_same),elow,?_⟩⟩
 have B1 := (((But.put (H := H) (r := r) (o := .lst [.int (c / 12)])).trans (But.put (o := .lst [.int (c / 12 / (2 * 10 ^ (30 : Int).toNat + 1))]))).trans (But.same (same_new hp (.lst [.int (c % 12 - 6),.int (c / 12 % (2 * 10 ^ (30 : Int).toNat + 1) - 10 ^ (30 : Int).toNat)])))).trans (But.put (o := .lst [.int (c / 12 / (2 * 10 ^ (30 : Int).toNat + 1) / 4)]))
 generalize hc2 : c / 12 / (2 * 10 ^ (30 : Int).toNat + 1) / 4 = c2 at B1
 refine ⟨_,_,rfl,rfl,⟨by decide,by decide,by decide⟩,_,rfl,_,rfl,r,c2,9,rfl,hc2 ▸ upd_same,by decide,by decide,_,_,rfl,rfl,⟨by decide,by decide,by decide⟩,_,rfl,r,c2 / 9,2,rfl,upd_same,by decide,by decide,(by show 3 ≤ sizeLine; decide),fun p2 hp2 => ?_⟩
 have hrp2 : r ≠ p2 := fun e => by rw [← e,upd_same] at hp2; cases hp2
 obtain ⟨e0,e1⟩ := mod_lt (c2 / 9 / 2) (m := 3) (by decide)
 obtain ⟨x,hx,ex⟩ := pickM (ns := [c2 % 9,10 ^ (29 : Int).toNat,c2 / 9 % 2]) e0 e1
 have x0 : 0 ≤ x := by
  have h1 := (mod_lt c2 (m := 9) (by decide)).1
  have h2 := (mod_lt (c2 / 9) (m := 2) (by decide)).1
  simp only [p29,List.mem_cons,List.not_mem_nil,or_false] at hx
  lia
 refine ⟨_,rfl,r,c2 / 9 / 2,3,rfl,(by rw [upd_ne hrp2]; exact upd_same),by decide,by decide,p2,_,_,_,rfl,rfl,SqL.of (by rw [upd_ne hrp2.symm]; exact upd_same),ex,_,_,rfl,rfl,_,_,rfl,?_⟩
 refine ⟨_,rfl,_,rfl,[.str "number",.int low,.int _],.cons .str (.cons .int (.cons .int .nil)),(by show 3 ≤ sizeLine; decide),fun v H4 g4 hv => ?_⟩
 refine q v low _ (c2 / 9 / 2 / 3) H4 ?_ (g4 _ _ upd_same) hv (.number _ _ l0 ?_ ?_)
 ·exact ((((B1.trans But.put).trans But.put).trans (But.same (same_new hp2 _))).trans But.put).trans (But.same g4)
 ·rw [p30]
  split <;> lia
 ·rw [p30]
  split <;> lia
noncomputable def GenL (K : PySem.W.Frag) (r : Addr) (H : Hp) (Q : VK) : Prop := ∀ v d (n' : Int) H',But r H H' → H' r = some (.lst [.int n']) → IsP K H' d v → FK 1 1 d → Q v H'
noncomputable def sp_law_leaf_kind (K : PySem.W.Frag) : Sp := fun vs H Q _ => ∃ (r : Addr) (c : Int),vs = [.ref r] ∧ H r = some (.lst [.int c]) ∧ GenL K r H Q
theorem Nam.words {m : Nat} {ss : List Str} (h : Nam m ss) (h1 : 1 ≤ m) (h8 : m ≤ 8) : wordsB ss = true ∧ wordsB ss.reverse = true := by
 have l := h.len
 have nd := lt_nodup h.asc
 have al : ss.all nameB = true := List.all_eq_true.mpr fun z hz => (h.ok z hz).1
 constructor
 ·simp only [wordsB,Bool.and_eq_true,decide_eq_true_eq]
  exact ⟨⟨⟨by lia,by lia⟩,al⟩,nd⟩
 ·simp only [wordsB,Bool.and_eq_true,decide_eq_true_eq,List.length_reverse,List.all_reverse]
  exact ⟨⟨⟨by lia,by lia⟩,al⟩,List.pairwise_reverse.mpr (nd.imp fun n e => n e.symm)⟩
theorem strs_is {K : PySem.W.Frag} {H : Hp} : ∀ ss : List Str,IsPs K H (ss.map Dt.str) (ss.map V.str)
 | [] => .nil
 | z :: ss => .cons .str (strs_is ss)
theorem ok_law_leaf_kind (T : Tx K mg) {f : Addr} {fd : FuncData} (F : Gn K mg "_law_leaf_kind" s_law_leaf_kind ["row"] f fd) : FnOk P w K mg base CX0 3 f fd ["row"] (sp_law_leaf_kind K) := by
 obtain ⟨f_law_digit,fd_law_digit,D_law_digit⟩ := T.law_digit
 have G_law_digit := ok_law_digit (P := P) (w := w) (base := base) T D_law_digit
 obtain ⟨f_law_number_kind,fd_law_number_kind,D_law_number_kind⟩ := T.law_number_kind
 have G_law_number_kind := ok_law_number_kind (P := P) (w := w) (base := base) T D_law_number_kind
 obtain ⟨f_law_names,fd_law_names,D_law_names⟩ := T.law_names
 have G_law_names := ok_law_names (P := P) (w := w) (base := base) T D_law_names
 refine F.F.ok sc_law_leaf_kind (fun vs H Q E h => ?_) (fun cdv A outer s H vs Q E hr h => ?_)
 ·obtain ⟨r,c,rfl,_⟩ := h
  rfl
 obtain ⟨r,c,rfl,hr0,q⟩ := h
 refine ⟨_,(@pss_cons _ _ _ _ _ (@ps_set _ _ 1 _ _ _ _ sc_law_leaf_kind.nd rfl (Or.inl rfl) (pe_call G_law_digit (hr.mono (by first | decide | lia)) rfl D_law_digit.m D_law_digit.F.kp D_law_digit.b .nil pass0 (@pa_cons _ _ _ _ _ (pv 0) (@pa_cons _ _ _ _ _ pe_int pa_nil (by rfl)) (by rfl))) (by rfl) (by first | exact .inl rfl | exact .inr rfl | assumption)) (@pss_cons _ _ _ _ _ (@ps_if _ _ _ _ _ _ _ _ (pt_cmpR op_eq (pv 1) pe_int (nomark _)) (@pss_one _ _ _ (@ps_ret _ _ _ _ (pe_call G_law_number_kind (hr.mono (by first | decide | lia)) rfl D_law_number_kind.m D_law_number_kind.F.kp D_law_number_kind.b .nil pass0 (@pa_cons _ _ _ _ _ (pv 0) pa_nil (by rfl))))) pss_nil) (@pss_cons _ _ _ _ _ (@ps_if _ _ _ _ _ _ _ _ (pt_cmpR op_eq (pv 1) pe_int (nomark _)) (@pss_one _ _ _ (@ps_ret _ _ _ _ (@pe_tupPK _ K _ _ _ _ rfl (@pa_cons _ _ _ _ _ pe_str (@pa_cons _ _ _ _ _ (@pe_ix _ _ _ _ _ _ _ (ix_listK (K := K) rfl) (@pe_lst _ _ _ _ (@pa_cons _ _ _ _ _ (pe_call G_law_digit (hr.mono (by first | decide | lia)) rfl D_law_digit.m D_law_digit.F.kp D_law_digit.b .nil pass0 (@pa_cons _ _ _ _ _ (pv 0) (@pa_cons _ _ _ _ _ pe_int pa_nil (by rfl)) (by rfl))) (@pa_cons _ _ _ _ _ (pe_call G_law_digit (hr.mono (by first | decide | lia)) rfl D_law_digit.m D_law_digit.F.kp D_law_digit.b .nil pass0 (@pa_cons _ _ _ _ _ (pv 0) (@pa_cons _ _ _ _ _ pe_int pa_nil (by rfl)) (by rfl))) pa_nil (by rfl)) (by rfl))) (pe_call G_law_digit (hr.mono (by first | decide | lia)) rfl D_law_digit.m D_law_digit.F.kp D_law_digit.b .nil pass0 (@pa_cons _ _ _ _ _ (pv 0) (@pa_cons _ _ _ _ _ pe_int pa_nil (by rfl)) (by rfl))) (fun _ _ => rfl)) pa_nil (by rfl)) (by rfl))))) pss_nil) (@pss_cons _ _ _ _ _ (@ps_set _ _ 2 _ _ _ _ sc_law_leaf_kind.nd rfl (Or.inl rfl) (pe_call G_law_names (hr.mono (by first | decide | lia)) rfl D_law_names.m D_law_names.F.kp D_law_names.b .nil pass0 (@pa_cons _ _ _ _ _ (pv 0) (@pa_cons _ _ _ _ _ (@pe_op _ _ _ _ _ _ _ _ op_add pe_int (pe_call G_law_digit (hr.mono (by first | decide | lia)) rfl D_law_digit.m D_law_digit.F.kp D_law_digit.b .nil pass0 (@pa_cons _ _ _ _ _ (pv 0) (@pa_cons _ _ _ _ _ pe_int pa_nil (by rfl)) (by rfl)))) pa_nil (by rfl)) (by rfl))) (by rfl) (by first | exact .inl rfl | exact .inr rfl | assumption)) (@pss_cons _ _ _ _ _ (@ps_if _ _ _ _ _ _ _ _ (pt_cmpR op_eq (pe_call G_law_digit (hr.mono (by first | decide | lia)) rfl D_law_digit.m D_law_digit.F.kp D_law_digit.b .nil pass0 (@pa_cons _ _ _ _ _ (pv 0) (@pa_cons _ _ _ _ _ pe_int pa_nil (by rfl)) (by rfl))) pe_int (nomark _)) (@pss_one _ _ _ (@ps_expr _ _ _ _ (pe_bm0 PySem.F.plainAttrs_list PySem.F.slot_list_reverse PySem.F.type_list_reverse mt_reverse (pv 2)) (by rfl))) pss_nil) (@pss_one _ _ _ (@ps_ret _ _ _ _ (@pe_tupPK _ K _ _ _ _ rfl (@pa_cons _ _ _ _ _ pe_str (@pa_cons _ _ _ _ _ (pe_callTy (call_tuplePN (K := K) rfl) rfl T.z_tuple boot_tuple (@pa_cons _ _ _ _ _ (pv 2) pa_nil (by rfl))) pa_nil (by rfl)) (by rfl)))))))))),?_⟩
 refine ⟨_,rfl,r,c,3,rfl,hr0,by decide,by decide,?_⟩
 have B1 := But.put (H := H) (r := r) (o := .lst [.int (c / 3)])
 refine ⟨_,rfl,rfl,_,rfl,ite2 (fun c1 => ?_) (fun c1 => ?_)⟩
 ·exact ⟨_,rfl,r,c / 3,rfl,upd_same,fun v i j n' H' b e hv fk => q v _ n' H' (B1.trans b) e hv fk⟩
 refine ⟨_,rfl,rfl,_,rfl,ite2 (fun c2 => ?_) (fun c2 => ?_)⟩
 ·refine ⟨_,rfl,r,c / 3,4,rfl,upd_same,by decide,by decide,_,rfl,r,c / 3 / 4,61,rfl,upd_same,by decide,by decide,(by show 2 ≤ sizeLine; decide),fun p hp => ?_⟩
  have hrp : r ≠ p := fun e => by rw [← e,upd_same] at hp; cases hp
  obtain ⟨e0,e1⟩ := mod_lt (c / 3 / 4 / 61) (m := 2) (by decide)
  obtain ⟨x,hx,ex⟩ := pickM (ns := [c / 3 % 4,c / 3 / 4 % 61]) e0 e1
  have xb : 0 ≤ x ∧ x ≤ 60 := by
   have h1 := mod_lt (c / 3) (m := 4) (by decide)
   have h2 := mod_lt (c / 3 / 4) (m := 61) (by decide)
   simp only [List.mem_cons,List.not_mem_nil,or_false] at hx
   lia
  refine ⟨_,rfl,r,c / 3 / 4 / 61,2,rfl,(by rw [upd_ne hrp]; exact upd_same),by decide,by decide,p,_,_,_,rfl,rfl,SqL.of (by rw [upd_ne hrp.symm]; exact upd_same),ex,?_⟩
  refine ⟨[.str "text",.int x],.cons .str (.cons .int .nil),(by show 2 ≤ sizeLine; decide),fun v H4 g4 hv => ?_⟩
  exact q v _ (c / 3 / 4 / 61 / 2) H4 (((((B1.trans But.put).trans But.put).trans (But.same (same_new hp _))).trans But.put).trans (But.same g4)) (g4 _ _ upd_same) hv (.text x xb.1 xb.2)
 ·obtain ⟨m0,m1⟩ := mod_lt (c / 3) (m := 8) (by decide)
  obtain ⟨m,hm⟩ : ∃ m : Nat,((m : Nat) : Int) = 1 + c / 3 % 8 := ⟨(1 + c / 3 % 8).toNat,by lia⟩
  refine ⟨_,rfl,_,rfl,r,c / 3,8,rfl,upd_same,by decide,by decide,_,_,rfl,rfl,?_⟩
  refine ⟨r,c / 3 / 8,m,(by show [V.ref r,V.int (1 + c / 3 % 8)] = _; rw [hm]),upd_same,by lia,fun p ss c' H2 b2 hp r2 p2 nam => ?_⟩
  have B2 := (B1.trans But.put).trans b2
  have hpH : H p = none := by
   cases e : H p with
   | none => rfl
   | some o =>
    have : r ≠ p := fun h => by rw [← h,upd_same] at hp; cases hp
    rw [upd_ne this.symm,upd_ne this.symm,e] at hp
    cases hp
  have hrp : r ≠ p := fun h => by rw [← h,hr0] at hpH; cases hpH
  obtain ⟨w1,w2⟩ := nam.words (by lia) (by lia)
  refine ⟨_,rfl,r,c',2,rfl,r2,by decide,by decide,rfl,_,rfl,ite2 (fun c3 => ?_) (fun c3 => ?_)⟩
  ·have p3 : (upd H2 r (.lst [.int (c' / 2)])) p = some (.lst (ss.map V.str)) := by rw [upd_ne hrp.symm]; exact p2
   refine ⟨_,rfl,.inl ⟨rfl,_,SqL.of p3⟩,p,_,rfl,rfl,p3,?_⟩
   refine ⟨_,rfl,p,_,_,rfl,SqL.of upd_same,(by rw [← List.map_reverse]; exact strs_is ss.reverse),fun v H4 g4 hv => ?_⟩
   refine ⟨[.str "choice",.tup (ss.reverse.map Dt.str)],.cons .str (.cons hv .nil),(by show 2 ≤ sizeLine; decide),fun v5 H5 g5 hv5 => ?_⟩
   exact q v5 _ (c' / 2) H5 (((but_upd (B2.trans But.put) hpH).trans (But.same g4)).trans (But.same g5)) (g5 _ _ (g4 _ _ (by rw [upd_ne hrp]; exact upd_same))) hv5 (.choice _ w2)
  ·refine ⟨_,rfl,p,_,_,rfl,SqL.of (by rw [upd_ne hrp.symm]; exact p2),strs_is ss,fun v H4 g4 hv => ?_⟩
   refine ⟨[.str "choice",.tup (ss.map Dt.str)],.cons .str (.cons hv .nil),(by show 2 ≤ sizeLine; decide),fun v5 H5 g5 hv5 => ?_⟩
   exact q v5 _ (c' / 2) H5 (((B2.trans But.put).trans (But.same g4)).trans (But.same g5)) (g5 _ _ (g4 _ _ upd_same)) hv5 (.choice ss w1)
noncomputable def But2 (r p : Addr) (H H' : Hp) : Prop := ∀ x o,x ≠ r → x ≠ p → H x = some o → H' x = some o
theorem But2.refl (r p : Addr) (H : Hp) : But2 r p H H := fun _ _ _ _ e => e
theorem But2.trans {r p : Addr} {H H' H'' : Hp} (a : But2 r p H H') (b : But2 r p H' H'') : But2 r p H H'' := fun x o h1 h2 e => b x o h1 h2 (a x o h1 h2 e)
theorem But2.one {r p : Addr} {H H' : Hp} (b : But r H H') : But2 r p H H' := fun x o h1 _ e => b x o h1 e
theorem But2.two {r p : Addr} {H H' : Hp} (b : But p H H') : But2 r p H H' := fun x o _ h2 e => b x o h2 e
theorem But2.same {r p : Addr} {H H' : Hp} (b : Same H H') : But2 r p H H' := fun x o _ _ e => b x o e
theorem But2.upd {r p l : Addr} {o : HO} {H H' : Hp} (b : But2 r p H H') (hl : H l = none) : But2 r p H (upd H' l o) := fun x u h1 h2 e => by rw [upd_ne (ne_of_none e hl)]; exact b x u h1 h2 e
theorem But2.mid {r p : Addr} {H H' : Hp} (b : But2 r p H H') : ∃ M : Hp,But r H M ∧ But p M H' ∧ M p = H p := by
 refine ⟨fun x => if x = p then H p else H' x,fun x o n e => ?_,fun x o n e => ?_,by simp⟩
 ·by_cases h : x = p
  ·subst h; simpa using e
  ·simp only [if_neg h]; exact b x o n h e
 ·simpa only [if_neg n] using e
theorem is_but2 {K : PySem.W.Frag} {r p : Addr} {H H' : Hp} {d : Dt} {v : V} {xs ys : List V} (hr : H r = some (.lst xs)) (hp : H p = some (.lst ys)) (b : But2 r p H H') (h : IsP K H d v) : IsP K H' d v := by
 obtain ⟨M,b1,b2,e⟩ := b.mid
 exact (h.but hr b1).but (e.trans hp) b2
theorem iss_but2 {K : PySem.W.Frag} {r p : Addr} {H H' : Hp} {d : List Dt} {v : List V} {xs ys : List V} (hr : H r = some (.lst xs)) (hp : H p = some (.lst ys)) (b : But2 r p H H') (h : IsPs K H d v) : IsPs K H' d v := by
 obtain ⟨M,b1,b2,e⟩ := b.mid
 exact (h.but hr b1).but (e.trans hp) b2
noncomputable def bud (x : Int) : Nat := (x / 5).toNat
theorem bud_less (x : Int) : bud (x - 5) ≤ bud x := by unfold bud; lia
theorem bud_step {x : Int} (h : 0 ≤ x - 5) : bud x = bud (x - 5) + 1 := by unfold bud; lia
noncomputable def GenK (K : PySem.W.Frag) (r p : Addr) (H : Hp) (D u : Nat) (x : Int) (Q : VK) : Prop := ∀ v d a c (n' x' : Int) H',But2 r p H H' → H' r = some (.lst [.int n']) → H' p = some (.lst [.int x']) → IsP K H' d v → FK a c d → a ≤ D → c + 4 * bud x' ≤ u + 4 * bud x → Q v H'
noncomputable def skind (K : PySem.W.Frag) (n : Nat) : Sp := fun vs H Q _ => ∃ (r p : Addr) (c x : Int) (m : Nat),1 ≤ m ∧ m ≤ n ∧ vs = [.ref r,.int m,.ref p] ∧ r ≠ p ∧ H r = some (.lst [.int c]) ∧ H p = some (.lst [.int x]) ∧ GenK K r p H m 1 x Q
noncomputable def srecord (K : PySem.W.Frag) (n : Nat) : Sp := fun vs H Q _ => ∃ (r p : Addr) (c x : Int) (m : Nat),1 ≤ m ∧ m ≤ n ∧ vs = [.ref r,.int (m + 1 : Nat),.ref p] ∧ r ≠ p ∧ H r = some (.lst [.int c]) ∧ H p = some (.lst [.int x]) ∧ GenK K r p H (m + 1) 4 x Q
noncomputable def srows (K : PySem.W.Frag) (n : Nat) : Sp := fun vs H Q _ => ∃ (r p : Addr) (c x : Int) (m : Nat),1 ≤ m ∧ m ≤ n ∧ vs = [.ref r,.int (m + 2 : Nat),.ref p] ∧ r ≠ p ∧ H r = some (.lst [.int c]) ∧ H p = some (.lst [.int x]) ∧ GenK K r p H (m + 2) 5 x Q
theorem sum_snoc : ∀ (l : List Nat) (n : Nat),sumN (l ++ [n]) = sumN l + n
 | [],n => by show n + 0 = 0 + n; lia
 | m :: l,n => by
  show m + sumN (l ++ [n]) = m + sumN l + n
  rw [sum_snoc l n]
  lia
theorem rec_fk {ss : List Str} {gs : List G4} {m D : Nat} (nam : Nam m ss) (h8 : m ≤ 8) (e : gs.map (·.1) = ss) (fk : ∀ g ∈ gs,FK g.2.2.1 g.2.2.2 g.2.1) (hd : ∀ g ∈ gs,g.2.2.1 ≤ D) :
  FK (maxN (gs.map (·.2.2.1)) + 1) (sumN (gs.map (·.2.2.2)) + 1) (.tup [.str "record",.tup (gs.map prG)]) ∧ maxN (gs.map (·.2.2.1)) + 1 ≤ D + 1 := by
 refine ⟨.rcd fk (by rw [e]; exact nam.asc) (fun g hg => ?_) ?_,?_⟩
 ·exact nam.ok g.1 (by rw [← e]; exact List.mem_map.mpr ⟨g,hg,rfl⟩)
 ·have := congrArg List.length e
  rw [List.length_map,nam.len] at this
  lia
 ·exact Nat.succ_le_succ (max_le fun n hn => by
   obtain ⟨g,hg,rfl⟩ := List.mem_map.mp hn
   exact hd g hg)
theorem ok_law_record_kind (T : Tx K mg) {f fk : Addr} {fd fdk : FuncData} (n : Nat) (F : Gn K mg "_law_record_kind" s_law_record_kind ["row","deep","room"] f fd) (D_law_kind : Gn K mg "_law_kind" s_law_kind ["row","deep","room"] fk fdk)
  (G_law_kind : FnOk P w K mg base CX0 (3 * n + 6) fk fdk ["row","deep","room"] (skind K n)) : FnOk P w K mg base CX0 (3 * n + 6 + 1) f fd ["row","deep","room"] (srecord K n) := by
 obtain ⟨f_law_digit,fd_law_digit,D_law_digit⟩ := T.law_digit
 have G_law_digit := ok_law_digit (P := P) (w := w) (base := base) T D_law_digit
 obtain ⟨f_law_names,fd_law_names,D_law_names⟩ := T.law_names
 have G_law_names := ok_law_names (P := P) (w := w) (base := base) T D_law_names
 refine F.F.ok sc_law_record_kind (fun vs H Q E h => ?_) (fun cdv A outer s H vs Q E hr h => ?_)
 ·obtain ⟨r,p,c,x,m,_,_,rfl,_⟩ := h
  rfl
 obtain ⟨r,p,c,x,m,hm1,hmn,rfl,nrp,hr0,hp0,q⟩ := h
 refine ⟨_,(@pss_cons _ _ _ _ _ (@ps_set _ _ 3 _ _ _ _ sc_law_record_kind.nd rfl (Or.inl rfl) (pe_call G_law_digit (hr.mono (by first | decide | lia)) rfl D_law_digit.m D_law_digit.F.kp D_law_digit.b .nil pass0 (@pa_cons _ _ _ _ _ (pv 0) (@pa_cons _ _ _ _ _ pe_int pa_nil (by rfl)) (by rfl))) (by rfl) (by first | exact .inl rfl | exact .inr rfl | assumption)) (@pss_cons _ _ _ _ _ (@ps_set _ _ 4 _ _ _ _ sc_law_record_kind.nd rfl (Or.inl rfl) (@pe_lst _ _ _ _ pa_nil) (by rfl) (by first | exact .inl rfl | exact .inr rfl | assumption)) (@pss_cons _ _ _ _ _ (ps_for PassesOwn.never rfl (pi_listN (K := K) rfl (pe_call G_law_names (hr.mono (by first | decide | lia)) rfl D_law_names.m D_law_names.F.kp D_law_names.b .nil pass0 (@pa_cons _ _ _ _ _ (pv 0) (@pa_cons _ _ _ _ _ (pv 3) pa_nil (by rfl)) (by rfl)))) (pg_name (i := 5) sc_law_record_kind.nd rfl (Or.inl rfl))
    (@pss_one _ _ _ (@ps_expr _ _ _ _ (pe_bm PySem.F.plainAttrs_list PySem.F.slot_list_append PySem.F.type_list_append mt_append (pv 4) (@pa_cons _ _ _ _ _ (@pe_tupPK _ K _ _ _ _ rfl (@pa_cons _ _ _ _ _ (pv 5) (@pa_cons _ _ _ _ _ (pe_call G_law_kind (hr.mono (by first | decide | lia)) rfl D_law_kind.m D_law_kind.F.kp D_law_kind.b .nil pass0 (@pa_cons _ _ _ _ _ (pv 0) (@pa_cons _ _ _ _ _ (@pe_op _ _ _ _ _ _ _ _ op_sub (pv 1) pe_int) (@pa_cons _ _ _ _ _ (pv 2) pa_nil (by rfl)) (by rfl)) (by rfl))) pa_nil (by rfl)) (by rfl))) pa_nil (by rfl))) (by rfl)))) (@pss_one _ _ _ (@ps_ret _ _ _ _ (@pe_tupPK _ K _ _ _ _ rfl (@pa_cons _ _ _ _ _ pe_str (@pa_cons _ _ _ _ _ (pe_callTy (call_tuplePN (K := K) rfl) rfl T.z_tuple boot_tuple (@pa_cons _ _ _ _ _ (pv 4) pa_nil (by rfl))) pa_nil (by rfl)) (by rfl)))))))),?_⟩
 refine ⟨_,rfl,r,c,4,rfl,hr0,by decide,by decide,?_⟩
 obtain ⟨k0,k1⟩ := mod_lt c (m := 4) (by decide)
 obtain ⟨k,hk⟩ : ∃ k : Nat,((k : Nat) : Int) = c % 4 := ⟨(c % 4).toNat,by lia⟩
 have B1 : But2 r p H (upd H r (.lst [.int (c / 4)])) := .one But.put
 refine ⟨(by show 0 ≤ sizeLine; decide),fun pf hpf => ?_⟩
 have nrf : r ≠ pf := fun e => by rw [← e,upd_same] at hpf; cases hpf
 have hfH : H pf = none := by rw [upd_ne nrf.symm] at hpf; exact hpf
 have npf : p ≠ pf := ne_of_none hp0 hfH
 refine ⟨_,rfl,_,rfl,r,c / 4,k,(by show [V.ref r,V.int (c % 4)] = _; rw [hk]),(by rw [upd_ne nrf]; exact upd_same),by lia,fun pn ss c2 H2 b2 hpn r2 n2 nam => ?_⟩
 have nfn : pf ≠ pn := ne_of_none (upd_same (o := .lst [])) hpn
 have p1 : (upd (upd H r (.lst [.int (c / 4)])) pf (.lst [])) p = some (.lst [.int x]) := by rw [upd_ne npf,upd_ne nrp.symm]; exact hp0
 have npn : p ≠ pn := ne_of_none p1 hpn
 have nrn : r ≠ pn := ne_of_none (by rw [upd_ne nrf]; exact upd_same) hpn
 have hnH : H pn = none := by
  have := hpn
  rw [upd_ne nfn.symm,upd_ne nrn.symm] at this
  exact this
 have B2 : But2 r p H H2 := (B1.trans (.same (same_new hpf _))).trans (.one b2)
 have p2 : H2 p = some (.lst [.int x]) := b2 _ _ nrp.symm p1
 have f2 : H2 pf = some (.lst []) := b2 _ _ nrf.symm upd_same
 refine ⟨pn,rfl,⟨_,SqL.of n2⟩,for_list (xs := ss.map V.str) (fun i σ H' => ∃ (gs : List G4) (ys : List V) (c' x' : Int) (v6 : Option V),But2 r p H H' ∧ H' r = some (.lst [.int c']) ∧ H' p = some (.lst [.int x']) ∧ H' pn = some (.lst (ss.map V.str)) ∧ H' pf = some (.lst ys) ∧ IsPs K H' (gs.map prG) ys ∧ gs.map (·.1) = ss.take i ∧ (∀ g ∈ gs,FK g.2.2.1 g.2.2.2 g.2.1) ∧ (∀ g ∈ gs,g.2.2.1 ≤ m) ∧ sumN (gs.map (·.2.2.2)) + 4 * bud x' ≤ i + 4 * bud x ∧ σ = [some (.ref r),some (.int (m + 1 : Nat)),some (.ref p),some (.int (c % 4)),some (.ref pf),v6])
  ⟨[],[],c2,x,_,B2,r2,p2,n2,f2,.nil,rfl,(fun g hg => by cases hg),(fun g hg => by cases hg),(by show 0 + 4 * bud x ≤ 0 + 4 * bud x; lia),rfl⟩ (fun i σ H' _ h => by obtain ⟨_,_,_,_,_,_,_,_,h,_⟩ := h; exact SqL.of h) ?_ ?_⟩
 ·rintro i u σ H3 hu ⟨gs,ys,c3,x3,v6,B3,r3,p3,n3,f3,hys,nms,fk,hd,hsum,rfl⟩
  rw [List.getElem?_map] at hu
  obtain ⟨z,hz,rfl⟩ := Option.map_eq_some_iff.mp hu
  have li := (List.getElem?_eq_some_iff.mp hz).1
  have lss := nam.len
  have lgs : gs.length = i := by
   have := congrArg List.length nms
   rw [List.length_map,List.length_take] at this
   lia
  have lys := hys.length
  rw [List.length_map] at lys
  have e1 : (((m + 1 : Nat) : Int)) - 1 = ((m : Nat) : Int) := by lia
  refine ⟨_,rfl,.inl ⟨rfl,_,SqL.of f3⟩,_,rfl,_,rfl,_,rfl,_,_,rfl,rfl,_,rfl,r,p,c3,x3,m,hm1,hmn,(by show [V.ref r,V.int (((m + 1 : Nat) : Int) - 1),V.ref p] = _; rw [e1]),nrp,r3,p3,fun v d a c4 n4 x4 H4 b4 r4 p4 hv fk4 ha hc4 => ?_⟩
  refine ⟨[.str z,d],.cons .str (.cons hv .nil),(by show 2 ≤ sizeLine; decide),fun v5 H5 g5 hv5 => ?_⟩
  have f5 : H5 pf = some (.lst ys) := g5 _ _ (b4 _ _ nrf.symm npf.symm f3)
  refine ⟨pf,ys,v5,rfl,rfl,f5,small1000 (by lia),?_⟩
  refine ⟨gs ++ [(z,d,a,c4)],ys ++ [v5],n4,x4,_,((B3.trans b4).trans (.same g5)).upd hfH,(by rw [upd_ne nrf]; exact g5 _ _ r4),(by rw [upd_ne npf]; exact g5 _ _ p4),(by rw [upd_ne nfn.symm]; exact g5 _ _ (b4 _ _ nrn.symm npn.symm n3)),upd_same,?_,?_,?_,?_,?_,rfl⟩
  ·rw [List.map_append]
   exact (((iss_but2 r3 p3 b4 hys).same g5).append (.cons hv5 .nil)).but f5 But.put
  ·rw [List.map_append,nms,List.take_add_one,hz]
   rfl
  ·intro g hg
   rcases List.mem_append.mp hg with h | h
   ·exact fk g h
   ·obtain rfl := List.mem_singleton.mp h
    exact fk4
  ·intro g hg
   rcases List.mem_append.mp hg with h | h
   ·exact hd g h
   ·obtain rfl := List.mem_singleton.mp h
    exact ha
  ·rw [List.map_append]
   show sumN (gs.map (·.2.2.2) ++ [c4]) + _ ≤ _
   rw [sum_snoc]
   lia
 ·rintro σ H3 ⟨gs,ys,c3,x3,v6,B3,r3,p3,n3,f3,hys,nms,fk,hd,hsum,rfl⟩
  have lss := nam.len
  rw [List.length_map,List.take_length] at nms
  rw [List.length_map] at hsum
  obtain ⟨F1,F2⟩ := rec_fk (D := m) nam (by lia) nms fk hd
  refine ⟨_,rfl,pf,_,_,rfl,SqL.of f3,hys,fun v4 H4 g4 hv4 => ?_⟩
  refine ⟨[.str "record",.tup (gs.map prG)],.cons .str (.cons hv4 .nil),(by show 2 ≤ sizeLine; decide),fun v5 H5 g5 hv5 => ?_⟩
  exact q v5 _ _ _ c3 x3 H5 ((B3.trans (.same g4)).trans (.same g5)) (g5 _ _ (g4 _ _ r3)) (g5 _ _ (g4 _ _ p3)) hv5 F1 F2 (by lia)
theorem ok_law_kind (T : Tx K mg) {f fr fw : Addr} {fd fdr fdw : FuncData} (n : Nat) (D_law_kind : Gn K mg "_law_kind" s_law_kind ["row","deep","room"] f fd) (D_law_record_kind : Gn K mg "_law_record_kind" s_law_record_kind ["row","deep","room"] fr fdr) (D_law_rows_kind : Gn K mg "_law_rows_kind" s_law_rows_kind ["row","deep","room"] fw fdw)
  (G_law_kind : FnOk P w K mg base CX0 (3 * n + 6) f fd ["row","deep","room"] (skind K n)) (G_law_record_kind : FnOk P w K mg base CX0 (3 * n + 7) fr fdr ["row","deep","room"] (srecord K n)) (G_law_rows_kind : FnOk P w K mg base CX0 (3 * n + 7) fw fdw ["row","deep","room"] (srows K (n - 1))) :
  FnOk P w K mg base CX0 (3 * n + 8 + 1) f fd ["row","deep","room"] (skind K (n + 1)) := by
 obtain ⟨f_law_digit,fd_law_digit,D_law_digit⟩ := T.law_digit
 have G_law_digit := ok_law_digit (P := P) (w := w) (base := base) T D_law_digit
 obtain ⟨f_law_leaf_kind,fd_law_leaf_kind,D_law_leaf_kind⟩ := T.law_leaf_kind
 have G_law_leaf_kind := ok_law_leaf_kind (P := P) (w := w) (base := base) T D_law_leaf_kind
 refine D_law_kind.F.ok sc_law_kind (fun vs H Q E h => ?_) (fun cdv A outer s H vs Q E hr h => ?_)
 ·obtain ⟨r,p,c,x,m,_,_,rfl,_⟩ := h
  rfl
 obtain ⟨r,p,c,x,m,hm1,hmn,rfl,nrp,hr0,hp0,q⟩ := h
 refine ⟨_,(@pss_cons _ _ _ _ _ (@ps_set _ _ 3 _ _ _ _ sc_law_kind.nd rfl (Or.inl rfl) (pe_call G_law_digit (hr.mono (by first | decide | lia)) rfl D_law_digit.m D_law_digit.F.kp D_law_digit.b .nil pass0 (@pa_cons _ _ _ _ _ (pv 0) (@pa_cons _ _ _ _ _ pe_int pa_nil (by rfl)) (by rfl))) (by rfl) (by first | exact .inl rfl | exact .inr rfl | assumption)) (@pss_cons _ _ _ _ _ (ps_asg (@pe_op _ _ _ _ _ _ _ _ op_sub (@pe_ix _ _ _ _ _ _ _ (ix_listK (K := K) rfl) (pv 2) pe_int (fun _ _ => rfl)) pe_int) (pg_sub (pv 2) pe_int set_list)) (@pss_cons _ _ _ _ _ (@ps_if _ _ _ _ _ _ _ _ (PW.pt (@pw_or _ _ _ _ _ _ _ (pt_cmpR op_lt (pv 3) pe_int (nomark _)) (@pw_or _ _ _ _ _ _ _ (pt_cmpR op_lt (pv 1) pe_int (nomark _)) (@pw_or1 _ _ _ _ (pt_cmpR op_lt (@pe_ix _ _ _ _ _ _ _ (ix_listK (K := K) rfl) (pv 2) pe_int (fun _ _ => rfl)) pe_int (nomark _)))))) (@pss_one _ _ _ (@ps_ret _ _ _ _ (pe_call G_law_leaf_kind (hr.mono (by first | decide | lia)) rfl D_law_leaf_kind.m D_law_leaf_kind.F.kp D_law_leaf_kind.b .nil pass0 (@pa_cons _ _ _ _ _ (pv 0) pa_nil (by rfl))))) pss_nil) (@pss_cons _ _ _ _ _ (@ps_if _ _ _ _ _ _ _ _ (pt_cmpR op_eq (pv 3) pe_int (nomark _)) (@pss_one _ _ _ (@ps_ret _ _ _ _ (@pe_tupPK _ K _ _ _ _ rfl (@pa_cons _ _ _ _ _ pe_str (@pa_cons _ _ _ _ _ (pe_call G_law_kind (hr.mono (by first | decide | lia)) rfl D_law_kind.m D_law_kind.F.kp D_law_kind.b .nil pass0 (@pa_cons _ _ _ _ _ (pv 0) (@pa_cons _ _ _ _ _ (@pe_op _ _ _ _ _ _ _ _ op_sub (pv 1) pe_int) (@pa_cons _ _ _ _ _ (pv 2) pa_nil (by rfl)) (by rfl)) (by rfl))) (@pa_cons _ _ _ _ _ (pe_call G_law_digit (hr.mono (by first | decide | lia)) rfl D_law_digit.m D_law_digit.F.kp D_law_digit.b .nil pass0 (@pa_cons _ _ _ _ _ (pv 0) (@pa_cons _ _ _ _ _ pe_int pa_nil (by rfl)) (by rfl))) pa_nil (by rfl)) (by rfl)) (by rfl))))) pss_nil) (@pss_cons _ _ _ _ _ (@ps_if _ _ _ _ _ _ _ _ (PW.pt (@pw_and _ _ _ _ _ _ _ (pt_cmpR op_eq (pv 3) pe_int (nomark _)) (@pw_and1 _ _ _ _ (pt_cmpR op_gt (pv 1) pe_int (nomark _))))) (@pss_one _ _ _ (@ps_ret _ _ _ _ (pe_call G_law_rows_kind (hr.mono (by first | decide | lia)) rfl D_law_rows_kind.m D_law_rows_kind.F.kp D_law_rows_kind.b .nil pass0 (@pa_cons _ _ _ _ _ (pv 0) (@pa_cons _ _ _ _ _ (pv 1) (@pa_cons _ _ _ _ _ (pv 2) pa_nil (by rfl)) (by rfl)) (by rfl))))) pss_nil) (@pss_one _ _ _ (@ps_ret _ _ _ _ (pe_call G_law_record_kind (hr.mono (by first | decide | lia)) rfl D_law_record_kind.m D_law_record_kind.F.kp D_law_record_kind.b .nil pass0 (@pa_cons _ _ _ _ _ (pv 0) (@pa_cons _ _ _ _ _ (pv 1) (@pa_cons _ _ _ _ _ (pv 2) pa_nil (by rfl)) (by rfl)) (by rfl)))))))))),?_⟩
 refine ⟨_,rfl,r,c,6,rfl,hr0,by decide,by decide,?_⟩
 have p1 : (upd H r (.lst [.int (c / 6)])) p = some (.lst [.int x]) := by rw [upd_ne nrp.symm]; exact hp0
 have e0 : ∀ y : Int,atI [V.int y] 0 = some (.int y) := fun _ => rfl
 refine ⟨_,rfl,p,_,_,_,rfl,rfl,SqL.of p1,e0 x,_,_,rfl,rfl,_,rfl,p,_,_,_,rfl,rfl,p1,rfl,_,rfl,?_⟩
 have B2 : But2 r p H (upd (upd H r (.lst [.int (c / 6)])) p (.lst [.int (x - 5)])) := (But2.one But.put).trans (.two But.put)
 have r2 : (upd (upd H r (.lst [.int (c / 6)])) p (.lst [.int (x - 5)])) r = some (.lst [.int (c / 6)]) := by rw [upd_ne nrp]; exact upd_same
 have p2 : (upd (upd H r (.lst [.int (c / 6)])) p (.lst [.int (x - 5)])) p = some (.lst [.int (x - 5)]) := upd_same
 have bl := bud_less x
 refine ⟨_,_,rfl,rfl,_,rfl,ite2 (fun c1 => iteT ?leaf) (fun c1 => ?_)⟩
 case leaf => exact ⟨_,rfl,r,c / 6,rfl,r2,fun v d n' H' b e hv fk => q v d 1 1 n' (x - 5) H' (B2.trans (.one b)) e (b _ _ nrp.symm p2) hv fk hm1 (by lia)⟩
 refine ⟨_,rfl,_,_,rfl,rfl,_,rfl,ite2 (fun c2 => iteT ?leaf) (fun c2 => ?_)⟩
 case leaf => exact ⟨_,rfl,r,c / 6,rfl,r2,fun v d n' H' b e hv fk => q v d 1 1 n' (x - 5) H' (B2.trans (.one b)) e (b _ _ nrp.symm p2) hv fk hm1 (by lia)⟩
 refine ⟨_,rfl,p,_,_,_,rfl,rfl,SqL.of p2,e0 (x - 5),_,_,rfl,rfl,_,rfl,ite2 (fun c3 => ?leaf) (fun c3 => ?_)⟩
 case leaf => exact ⟨_,rfl,r,c / 6,rfl,r2,fun v d n' H' b e hv fk => q v d 1 1 n' (x - 5) H' (B2.trans (.one b)) e (b _ _ nrp.symm p2) hv fk hm1 (by lia)⟩
 have m2 : 2 ≤ m := by
  have : ¬ ((m : Nat) : Int) < 2 := fun h => c2 (decide_eq_true h)
  lia
 have x5 : 0 ≤ x - 5 := by
  have : ¬ x - 5 < 0 := fun h => c3 (decide_eq_true h)
  lia
 have bs := bud_step x5
 obtain ⟨m,rfl⟩ : ∃ k,m = k + 1 := ⟨m - 1,by lia⟩
 have e1 : (((m + 1 : Nat) : Int)) - 1 = ((m : Nat) : Int) := by lia
 refine ⟨_,rfl,rfl,_,rfl,ite2 (fun c4 => ?_) (fun c4 => ?_)⟩
 ·refine ⟨_,rfl,_,rfl,_,_,rfl,rfl,_,rfl,r,p,c / 6,x - 5,m,by lia,by lia,(by show [V.ref r,V.int (((m + 1 : Nat) : Int) - 1),V.ref p] = _; rw [e1]),nrp,r2,p2,fun v d a c4 n4 x4 H4 b4 r4 p4 hv fk4 ha hc4 => ?_⟩
  obtain ⟨k0,k1⟩ := mod_lt n4 (m := 9) (by decide)
  refine ⟨_,rfl,r,n4,9,rfl,r4,by decide,by decide,[.str "list",d,.int _],.cons .str (.cons (hv.but r4 But.put) (.cons .int .nil)),(by show 3 ≤ sizeLine; decide),fun v5 H5 g5 hv5 => ?_⟩
  exact q v5 _ (a + 1) (c4 + 1) (n4 / 9) x4 H5 (((B2.trans b4).trans (.one But.put)).trans (.same g5)) (g5 _ _ upd_same) (g5 _ _ (by rw [upd_ne nrp.symm]; exact p4)) hv5 (.list fk4 k0 (by lia)) (by lia) (by lia)
 refine ⟨_,rfl,rfl,_,rfl,ite2 (fun c5 => ?_) (fun c5 => iteF ?_)⟩
 ·refine ⟨_,rfl,_,_,rfl,rfl,_,rfl,ite2 (fun c6 => ?_) (fun c6 => ?_)⟩
  ·have m3 : 3 ≤ m + 1 := by
    have : (2 : Int) < ((m + 1 : Nat) : Int) := of_decide_eq_true c6
    lia
   obtain ⟨m,rfl⟩ : ∃ k,m = k + 1 := ⟨m - 1,by lia⟩
   exact ⟨_,rfl,_,rfl,_,rfl,r,p,c / 6,x - 5,m,by lia,by lia,rfl,nrp,r2,p2,fun v d a c4 n4 x4 H4 b4 r4 p4 hv fk4 ha hc4 => q v d a c4 n4 x4 H4 (B2.trans b4) r4 p4 hv fk4 ha (by lia)⟩
  ·exact ⟨_,rfl,_,rfl,_,rfl,r,p,c / 6,x - 5,m,by lia,by lia,rfl,nrp,r2,p2,fun v d a c4 n4 x4 H4 b4 r4 p4 hv fk4 ha hc4 => q v d a c4 n4 x4 H4 (B2.trans b4) r4 p4 hv fk4 ha (by lia)⟩
 ·exact ⟨_,rfl,_,rfl,_,rfl,r,p,c / 6,x - 5,m,by lia,by lia,rfl,nrp,r2,p2,fun v d a c4 n4 x4 H4 b4 r4 p4 hv fk4 ha hc4 => q v d a c4 n4 x4 H4 (B2.trans b4) r4 p4 hv fk4 ha (by lia)⟩
noncomputable def keyK (d : Dt) : Prop := ∃ w r,d = .tup (.str w :: r) ∧ (w = "number" ∨ w = "text")
structure RkI (K : PySem.W.Frag) (r p pn pf : Addr) (ss : List Str) (key : Str) (m : Nat) (x : Int) (H : Hp) (i : Nat) (gs : List G4) (ys : List V) (c' x' : Int) (H' : Hp) : Prop where
 B : But2 r p H H'
 hr : H' r = some (.lst [.int c'])
 hp : H' p = some (.lst [.int x'])
 hn : H' pn = some (.lst (ss.map V.str))
 hf : H' pf = some (.lst ys)
 hys : IsPs K H' (gs.map prG) ys
 nms : gs.map (·.1) = ss.take i
 fk : ∀ g ∈ gs,FK g.2.2.1 g.2.2.2 g.2.1
 hd : ∀ g ∈ gs,g.2.2.1 ≤ m
 ky : ∀ g ∈ gs,g.1 = key → keyK g.2.1
 sum : sumN (gs.map (·.2.2.2)) + 4 * bud x' ≤ i + 4 * bud x
theorem RkI.next {K : PySem.W.Frag} {r p pn pf : Addr} {ss : List Str} {key z : Str} {m i a c4 : Nat} {x c3 x3 n4 x4 : Int} {H H3 H4 H5 : Hp} {gs : List G4} {ys : List V} {d : Dt} {v5 : V} (I : RkI K r p pn pf ss key m x H i gs ys c3 x3 H3) (hz : ss[i]? = some z)
  (nrf : r ≠ pf) (npf : p ≠ pf) (nrn : r ≠ pn) (npn : p ≠ pn) (nfn : pf ≠ pn) (hfH : H pf = none) (b4 : But2 r p H3 H4) (r4 : H4 r = some (.lst [.int n4])) (p4 : H4 p = some (.lst [.int x4])) (fk4 : FK a c4 d) (ha : a ≤ m) (hc4 : c4 + 4 * bud x4 ≤ 1 + 4 * bud x3) (hk : z = key → keyK d)
  (g5 : Same H4 H5) (hv5 : IsP K H5 (.tup [.str z,d]) v5) : RkI K r p pn pf ss key m x H (i + 1) (gs ++ [(z,d,a,c4)]) (ys ++ [v5]) n4 x4 (upd H5 pf (.lst (ys ++ [v5]))) := by
 obtain ⟨B3,r3,p3,n3,f3,hys,nms,fk,hd,ky,hsum⟩ := I
 have f5 : H5 pf = some (.lst ys) := g5 _ _ (b4 _ _ nrf.symm npf.symm f3)
 refine ⟨((B3.trans b4).trans (.same g5)).upd hfH,(by rw [upd_ne nrf]; exact g5 _ _ r4),(by rw [upd_ne npf]; exact g5 _ _ p4),(by rw [upd_ne nfn.symm]; exact g5 _ _ (b4 _ _ nrn.symm npn.symm n3)),upd_same,?_,?_,?_,?_,?_,?_⟩
 ·rw [List.map_append]
  exact (((iss_but2 r3 p3 b4 hys).same g5).append (.cons hv5 .nil)).but f5 But.put
 ·rw [List.map_append,nms,List.take_add_one,hz]
  rfl
 ·intro g hg
  rcases List.mem_append.mp hg with h | h
  ·exact fk g h
  ·obtain rfl := List.mem_singleton.mp h
   exact fk4
 ·intro g hg
  rcases List.mem_append.mp hg with h | h
  ·exact hd g h
  ·obtain rfl := List.mem_singleton.mp h
   exact ha
 ·intro g hg
  rcases List.mem_append.mp hg with h | h
  ·exact ky g h
  ·obtain rfl := List.mem_singleton.mp h
   exact hk
 ·rw [List.map_append]
  show sumN (gs.map (·.2.2.2) ++ [c4]) + _ ≤ _
  rw [sum_snoc]
  lia
theorem RkI.few {K : PySem.W.Frag} {r p pn pf : Addr} {ss : List Str} {key : Str} {m i : Nat} {x c3 x3 : Int} {H H3 : Hp} {gs : List G4} {ys : List V} (I : RkI K r p pn pf ss key m x H i gs ys c3 x3 H3) : ys.length ≤ ss.length := by
 have lys := I.hys.length
 have := congrArg List.length I.nms
 rw [List.length_map,List.length_take] at this
 rw [List.length_map] at lys
 lia
theorem ok_law_rows_kind (T : Tx K mg) {f fk : Addr} {fd fdk : FuncData} (n : Nat) (F : Gn K mg "_law_rows_kind" s_law_rows_kind ["row","deep","room"] f fd) (D_law_kind : Gn K mg "_law_kind" s_law_kind ["row","deep","room"] fk fdk)
  (G_law_kind : FnOk P w K mg base CX0 (3 * n + 6) fk fdk ["row","deep","room"] (skind K n)) : FnOk P w K mg base CX0 (3 * n + 6 + 1) f fd ["row","deep","room"] (srows K n) := by
 obtain ⟨f_law_digit,fd_law_digit,D_law_digit⟩ := T.law_digit
 have G_law_digit := ok_law_digit (P := P) (w := w) (base := base) T D_law_digit
 obtain ⟨f_law_names,fd_law_names,D_law_names⟩ := T.law_names
 have G_law_names := ok_law_names (P := P) (w := w) (base := base) T D_law_names
 obtain ⟨f_law_number_kind,fd_law_number_kind,D_law_number_kind⟩ := T.law_number_kind
 have G_law_number_kind := ok_law_number_kind (P := P) (w := w) (base := base) T D_law_number_kind
 refine F.F.ok sc_law_rows_kind (fun vs H Q E h => ?_) (fun cdv A outer s H vs Q E hr h => ?_)
 ·obtain ⟨r,p,c,x,m,_,_,rfl,_⟩ := h
  rfl
 obtain ⟨r,p,c,x,m,hm1,hmn,rfl,nrp,hr0,hp0,q⟩ := h
 refine ⟨_,(@pss_cons _ _ _ _ _ (@ps_set _ _ 3 _ _ _ _ sc_law_rows_kind.nd rfl (Or.inl rfl) (pe_call G_law_names (hr.mono (by first | decide | lia)) rfl D_law_names.m D_law_names.F.kp D_law_names.b .nil pass0 (@pa_cons _ _ _ _ _ (pv 0) (@pa_cons _ _ _ _ _ (@pe_op _ _ _ _ _ _ _ _ op_add pe_int (pe_call G_law_digit (hr.mono (by first | decide | lia)) rfl D_law_digit.m D_law_digit.F.kp D_law_digit.b .nil pass0 (@pa_cons _ _ _ _ _ (pv 0) (@pa_cons _ _ _ _ _ pe_int pa_nil (by rfl)) (by rfl)))) pa_nil (by rfl)) (by rfl))) (by rfl) (by first | exact .inl rfl | exact .inr rfl | assumption)) (@pss_cons _ _ _ _ _ (@ps_set _ _ 4 _ _ _ _ sc_law_rows_kind.nd rfl (Or.inl rfl) (@pe_ix _ _ _ _ _ _ _ (ix_listK (K := K) rfl) (pv 3) (pe_call G_law_digit (hr.mono (by first | decide | lia)) rfl D_law_digit.m D_law_digit.F.kp D_law_digit.b .nil pass0 (@pa_cons _ _ _ _ _ (pv 0) (@pa_cons _ _ _ _ _ (pe_callB (call_len_seqN (K := K) rfl) rfl T.z_len PySem.boot_len (@pa_cons _ _ _ _ _ (pv 3) pa_nil (by rfl))) pa_nil (by rfl)) (by rfl))) (fun _ _ => rfl)) (by rfl) (by first | exact .inl rfl | exact .inr rfl | assumption)) (@pss_cons _ _ _ _ _ (@ps_set _ _ 5 _ _ _ _ sc_law_rows_kind.nd rfl (Or.inl rfl) (@pe_lst _ _ _ _ pa_nil) (by rfl) (by first | exact .inl rfl | exact .inr rfl | assumption)) (@pss_cons _ _ _ _ _ (ps_for PassesOwn.never rfl (pi_listN (K := K) rfl (pv 3)) (pg_name (i := 6) sc_law_rows_kind.nd rfl (Or.inl rfl))
    (@pss_cons _ _ _ _ _ (@ps_set _ _ 7 _ _ _ _ sc_law_rows_kind.nd rfl (Or.inl rfl) (pe_call G_law_number_kind (hr.mono (by first | decide | lia)) rfl D_law_number_kind.m D_law_number_kind.F.kp D_law_number_kind.b .nil pass0 (@pa_cons _ _ _ _ _ (pv 0) pa_nil (by rfl))) (by rfl) (by first | exact .inl rfl | exact .inr rfl | assumption)) (@pss_cons _ _ _ _ _ (@ps_if _ _ _ _ _ _ _ _ (pt_cmpR op_eq (pe_call G_law_digit (hr.mono (by first | decide | lia)) rfl D_law_digit.m D_law_digit.F.kp D_law_digit.b .nil pass0 (@pa_cons _ _ _ _ _ (pv 0) (@pa_cons _ _ _ _ _ pe_int pa_nil (by rfl)) (by rfl))) pe_int (nomark _)) (@pss_one _ _ _ (@ps_set _ _ 7 _ _ _ _ sc_law_rows_kind.nd rfl (Or.inl rfl) (@pe_tupPK _ K _ _ _ _ rfl (@pa_cons _ _ _ _ _ pe_str (@pa_cons _ _ _ _ _ (pe_call G_law_digit (hr.mono (by first | decide | lia)) rfl D_law_digit.m D_law_digit.F.kp D_law_digit.b .nil pass0 (@pa_cons _ _ _ _ _ (pv 0) (@pa_cons _ _ _ _ _ pe_int pa_nil (by rfl)) (by rfl))) pa_nil (by rfl)) (by rfl))) (by rfl) (by first | exact .inl rfl | exact .inr rfl | assumption))) pss_nil) (@pss_cons _ _ _ _ _ (@ps_if _ _ _ _ _ _ _ _ (pt_cmpR op_ne (pv 6) (pv 4) (nomark _)) (@pss_one _ _ _ (@ps_set _ _ 7 _ _ _ _ sc_law_rows_kind.nd rfl (Or.inl rfl) (pe_call G_law_kind (hr.mono (by first | decide | lia)) rfl D_law_kind.m D_law_kind.F.kp D_law_kind.b .nil pass0 (@pa_cons _ _ _ _ _ (pv 0) (@pa_cons _ _ _ _ _ (@pe_op _ _ _ _ _ _ _ _ op_sub (pv 1) pe_int) (@pa_cons _ _ _ _ _ (pv 2) pa_nil (by rfl)) (by rfl)) (by rfl))) (by rfl) (by first | exact .inl rfl | exact .inr rfl | assumption))) pss_nil) (@pss_one _ _ _ (@ps_expr _ _ _ _ (pe_bm PySem.F.plainAttrs_list PySem.F.slot_list_append PySem.F.type_list_append mt_append (pv 5) (@pa_cons _ _ _ _ _ (@pe_tupPK _ K _ _ _ _ rfl (@pa_cons _ _ _ _ _ (pv 6) (@pa_cons _ _ _ _ _ (pv 7) pa_nil (by rfl)) (by rfl))) pa_nil (by rfl))) (by rfl))))))) (@pss_one _ _ _ (@ps_ret _ _ _ _ (@pe_tupPK _ K _ _ _ _ rfl (@pa_cons _ _ _ _ _ pe_str (@pa_cons _ _ _ _ _ (pv 4) (@pa_cons _ _ _ _ _ (@pe_tupPK _ K _ _ _ _ rfl (@pa_cons _ _ _ _ _ pe_str (@pa_cons _ _ _ _ _ (pe_callTy (call_tuplePN (K := K) rfl) rfl T.z_tuple boot_tuple (@pa_cons _ _ _ _ _ (pv 5) pa_nil (by rfl))) pa_nil (by rfl)) (by rfl))) (@pa_cons _ _ _ _ _ (pe_call G_law_digit (hr.mono (by first | decide | lia)) rfl D_law_digit.m D_law_digit.F.kp D_law_digit.b .nil pass0 (@pa_cons _ _ _ _ _ (pv 0) (@pa_cons _ _ _ _ _ pe_int pa_nil (by rfl)) (by rfl))) pa_nil (by rfl)) (by rfl)) (by rfl)) (by rfl))))))))),?_⟩
 obtain ⟨k0,k1⟩ := mod_lt c (m := 3) (by decide)
 obtain ⟨k,hk⟩ : ∃ k : Nat,((k : Nat) : Int) = 1 + c % 3 := ⟨(1 + c % 3).toNat,by lia⟩
 refine ⟨_,rfl,_,rfl,r,c,3,rfl,hr0,by decide,by decide,_,_,rfl,rfl,r,c / 3,k,(by show [V.ref r,V.int (1 + c % 3)] = _; rw [hk]),upd_same,by lia,fun pn ss c2 H2 b2 hpn r2 n2 nam => ?_⟩
 have p1 : (upd H r (.lst [.int (c / 3)])) p = some (.lst [.int x]) := by rw [upd_ne nrp.symm]; exact hp0
 have npn : p ≠ pn := ne_of_none p1 hpn
 have nrn : r ≠ pn := ne_of_none upd_same hpn
 have hnH : H pn = none := by rw [upd_ne nrn.symm] at hpn; exact hpn
 have B2 : But2 r p H H2 := (But2.one But.put).trans (.one b2)
 have p2 : H2 p = some (.lst [.int x]) := b2 _ _ nrp.symm p1
 have lss := nam.len
 have ln : (0 : Int) < (((ss.map V.str).length : Nat) : Int) := by rw [List.length_map]; lia
 obtain ⟨d0,d1⟩ := mod_lt c2 ln
 obtain ⟨vk,hvk,ek⟩ := pick (xs := ss.map V.str) d0 d1
 obtain ⟨key,hkey,rfl⟩ := List.mem_map.mp hvk
 refine ⟨_,rfl,_,rfl,_,rfl,pn,_,rfl,.inl (SqL.of n2),r,c2,_,rfl,r2,ln,(by rw [List.length_map]; lia),pn,_,_,_,rfl,rfl,SqL.of (by rw [upd_ne nrn.symm]; exact n2),ek,?_⟩
 generalize hL : (((ss.map V.str).length : Nat) : Int) = L at *
 have n3 : (upd H2 r (.lst [.int (c2 / L)])) pn = some (.lst (ss.map V.str)) := by rw [upd_ne nrn.symm]; exact n2
 have r3 : (upd H2 r (.lst [.int (c2 / L)])) r = some (.lst [.int (c2 / L)]) := upd_same
 have p3 : (upd H2 r (.lst [.int (c2 / L)])) p = some (.lst [.int x]) := by rw [upd_ne nrp.symm]; exact p2
 have B3 : But2 r p H (upd H2 r (.lst [.int (c2 / L)])) := B2.trans (.one But.put)
 generalize upd H2 r (.lst [.int (c2 / L)]) = H3 at *
 refine ⟨(by show 0 ≤ sizeLine; decide),fun pf hpf => ?_⟩
 have nrf : r ≠ pf := ne_of_none r3 hpf
 have npf : p ≠ pf := ne_of_none p3 hpf
 have nfn : pf ≠ pn := (ne_of_none n3 hpf).symm
 have hfH : H pf = none := by
  cases e : H pf with
  | none => rfl
  | some o => rw [B3 _ _ nrf.symm npf.symm e] at hpf; cases hpf
 refine ⟨_,rfl,pn,rfl,⟨_,SqL.of (by rw [upd_ne nfn.symm]; exact n3)⟩,for_list (xs := ss.map V.str) (fun i σ H' => ∃ gs ys c' x' v6 v7,RkI K r p pn pf ss key m x H i gs ys c' x' H' ∧ σ = [some (.ref r),some (.int (m + 2 : Nat)),some (.ref p),some (.ref pn),some (.str key),some (.ref pf),v6,v7])
  ⟨[],[],c2 / L,x,none,none,⟨B3.upd hfH,(by rw [upd_ne nrf]; exact r3),(by rw [upd_ne npf]; exact p3),(by rw [upd_ne nfn.symm]; exact n3),upd_same,.nil,rfl,(fun g hg => by cases hg),(fun g hg => by cases hg),(fun g hg => by cases hg),(by show 0 + 4 * bud x ≤ 0 + 4 * bud x; lia)⟩,rfl⟩ (fun i σ H' _ h => by obtain ⟨_,_,_,_,_,_,h,_⟩ := h; exact SqL.of h.hn) ?_ ?_⟩
 ·rintro i u σ H4 hu ⟨gs,ys,c4,x4,v6,v7,I,rfl⟩
  rw [List.getElem?_map] at hu
  obtain ⟨z,hz,rfl⟩ := Option.map_eq_some_iff.mp hu
  have li := (List.getElem?_eq_some_iff.mp hz).1
  have few := I.few
  refine ⟨_,rfl,r,c4,rfl,I.hr,fun v5 lo hi n5 H5 b5 r5 hv5 fk5 => ?_⟩
  have p5 : H5 p = some (.lst [.int x4]) := b5 _ _ nrp.symm I.hp
  have e2 : (((m + 2 : Nat) : Int)) - 2 = ((m : Nat) : Int) := by lia
  refine ⟨_,rfl,r,n5,2,rfl,r5,by decide,by decide,rfl,_,rfl,ite2 (fun c1 => ?_) (fun c1 => ?_)⟩
  ·obtain ⟨k4,k5⟩ := mod_lt (n5 / 2) (m := 4) (by decide)
   refine ⟨_,rfl,r,n5 / 2,4,rfl,upd_same,by decide,by decide,[.str "text",.int _],.cons .str (.cons .int .nil),(by show 2 ≤ sizeLine; decide),fun v6 H6 g6 hv6 => ?_⟩
   have B6 : But2 r p H4 H6 := (((But2.one b5).trans (.one But.put)).trans (.one But.put)).trans (.same g6)
   have r6 : H6 r = some (.lst [.int (n5 / 2 / 4)]) := g6 _ _ upd_same
   have p6 : H6 p = some (.lst [.int x4]) := g6 _ _ (by rw [upd_ne nrp.symm,upd_ne nrp.symm]; exact p5)
   refine ⟨_,rfl,_,rfl,rfl,_,rfl,ite2 (fun c2 => ?_) (fun c2 => ?_)⟩
   ·refine ⟨_,rfl,_,rfl,_,_,rfl,rfl,_,rfl,r,p,n5 / 2 / 4,x4,m,hm1,hmn,(by show [V.ref r,V.int (((m + 2 : Nat) : Int) - 2),V.ref p] = _; rw [e2]),nrp,r6,p6,fun v d a c7 n7 x7 H7 b7 r7 p7 hv fk7 ha hc7 => ?_⟩
    refine ⟨_,rfl,.inl ⟨rfl,_,SqL.of (b7 _ _ nrf.symm npf.symm (B6 _ _ nrf.symm npf.symm I.hf))⟩,_,rfl,_,rfl,[.str z,d],.cons .str (.cons hv .nil),(by show 2 ≤ sizeLine; decide),fun v8 H8 g8 hv8 => ?_⟩
    exact ⟨pf,ys,v8,rfl,rfl,g8 _ _ (b7 _ _ nrf.symm npf.symm (B6 _ _ nrf.symm npf.symm I.hf)),small1000 (by lia),_,_,_,_,_,_,I.next hz nrf npf nrn npn nfn hfH (B6.trans b7) r7 p7 fk7 ha hc7 (fun e => by rw [e] at c2; simp at c2) g8 hv8,rfl⟩
   ·refine ⟨_,rfl,.inl ⟨rfl,_,SqL.of (B6 _ _ nrf.symm npf.symm I.hf)⟩,_,rfl,_,rfl,[.str z,_],.cons .str (.cons hv6 .nil),(by show 2 ≤ sizeLine; decide),fun v8 H8 g8 hv8 => ?_⟩
    exact ⟨pf,ys,v8,rfl,rfl,g8 _ _ (B6 _ _ nrf.symm npf.symm I.hf),small1000 (by lia),_,_,_,_,_,_,I.next hz nrf npf nrn npn nfn hfH B6 r6 p6 (.text _ k4 (by lia)) hm1 (by lia) (fun _ => ⟨_,_,rfl,.inr rfl⟩) g8 hv8,rfl⟩
  ·have B6 : But2 r p H4 (upd H5 r (.lst [.int (n5 / 2)])) := (But2.one b5).trans (.one But.put)
   have r6 : (upd H5 r (.lst [.int (n5 / 2)])) r = some (.lst [.int (n5 / 2)]) := upd_same
   have p6 : (upd H5 r (.lst [.int (n5 / 2)])) p = some (.lst [.int x4]) := by rw [upd_ne nrp.symm]; exact p5
   have hv6 := hv5.but r5 (But.put (o := .lst [.int (n5 / 2)]))
   refine ⟨_,rfl,_,rfl,rfl,_,rfl,ite2 (fun c2 => ?_) (fun c2 => ?_)⟩
   ·refine ⟨_,rfl,_,rfl,_,_,rfl,rfl,_,rfl,r,p,n5 / 2,x4,m,hm1,hmn,(by show [V.ref r,V.int (((m + 2 : Nat) : Int) - 2),V.ref p] = _; rw [e2]),nrp,r6,p6,fun v d a c7 n7 x7 H7 b7 r7 p7 hv fk7 ha hc7 => ?_⟩
    refine ⟨_,rfl,.inl ⟨rfl,_,SqL.of (b7 _ _ nrf.symm npf.symm (B6 _ _ nrf.symm npf.symm I.hf))⟩,_,rfl,_,rfl,[.str z,d],.cons .str (.cons hv .nil),(by show 2 ≤ sizeLine; decide),fun v8 H8 g8 hv8 => ?_⟩
    exact ⟨pf,ys,v8,rfl,rfl,g8 _ _ (b7 _ _ nrf.symm npf.symm (B6 _ _ nrf.symm npf.symm I.hf)),small1000 (by lia),_,_,_,_,_,_,I.next hz nrf npf nrn npn nfn hfH (B6.trans b7) r7 p7 fk7 ha hc7 (fun e => by rw [e] at c2; simp at c2) g8 hv8,rfl⟩
   ·refine ⟨_,rfl,.inl ⟨rfl,_,SqL.of (B6 _ _ nrf.symm npf.symm I.hf)⟩,_,rfl,_,rfl,[.str z,_],.cons .str (.cons hv6 .nil),(by show 2 ≤ sizeLine; decide),fun v8 H8 g8 hv8 => ?_⟩
    exact ⟨pf,ys,v8,rfl,rfl,g8 _ _ (B6 _ _ nrf.symm npf.symm I.hf),small1000 (by lia),_,_,_,_,_,_,I.next hz nrf npf nrn npn nfn hfH B6 r6 p6 fk5 hm1 (by lia) (fun _ => ⟨_,_,rfl,.inl rfl⟩) g8 hv8,rfl⟩
 ·rintro σ H4 ⟨gs,ys,c4,x4,v6,v7,I,rfl⟩
  obtain ⟨B4,r4,p4,n4,f4,hys,nms,fk,hd,ky,hsum⟩ := I
  rw [List.length_map,List.take_length] at nms
  rw [List.length_map] at hsum
  obtain ⟨F1,F2⟩ := rec_fk (D := m) nam (by lia) nms fk hd
  have hK : keyL (gs.map prG) key := by
   obtain ⟨g,hg,rfl⟩ := List.mem_map.mp (nms ▸ hkey : key ∈ gs.map (·.1))
   obtain ⟨w,l,e,h⟩ := ky g hg rfl
   exact ⟨w,l,List.mem_map.mpr ⟨g,hg,by show Dt.tup [.str g.1,g.2.1] = _; rw [e]⟩,h⟩
  obtain ⟨k4,k5⟩ := mod_lt c4 (m := 9) (by decide)
  refine ⟨_,rfl,_,rfl,pf,_,_,rfl,SqL.of f4,hys,fun v5 H5 g5 hv5 => ?_⟩
  refine ⟨[.str "record",.tup (gs.map prG)],.cons .str (.cons hv5 .nil),(by show 2 ≤ sizeLine; decide),fun v6 H6 g6 hv6 => ?_⟩
  have r6 := g6 _ _ (g5 _ _ r4)
  refine ⟨_,rfl,r,c4,9,rfl,r6,by decide,by decide,[.str "rows",.str key,.tup [.str "record",.tup (gs.map prG)],.int _],.cons .str (.cons .str (.cons (hv6.but r6 But.put) (.cons .int .nil))),(by show 4 ≤ sizeLine; decide),fun v7 H7 g7 hv7 => ?_⟩
  exact q v7 _ _ _ (c4 / 9) x4 H7 ((((B4.trans (.same g5)).trans (.same g6)).trans (.one But.put)).trans (.same g7)) (g7 _ _ upd_same) (g7 _ _ (by rw [upd_ne nrp.symm]; exact g6 _ _ (g5 _ _ p4))) hv7 (.rows F1 hK k4 (by lia)) (by lia) (by lia)
theorem kinds_all (T : Tx K mg) {f fr fw : Addr} {fd fdr fdw : FuncData} (D : Gn K mg "_law_kind" s_law_kind ["row","deep","room"] f fd) (Dr : Gn K mg "_law_record_kind" s_law_record_kind ["row","deep","room"] fr fdr) (Dw : Gn K mg "_law_rows_kind" s_law_rows_kind ["row","deep","room"] fw fdw) :
  ∀ n,FnOk P w K mg base CX0 (3 * n + 6) f fd ["row","deep","room"] (skind K n)
 | 0 => fn_none fun vs H Q E z => by obtain ⟨_,_,_,_,m,h1,h2,_⟩ := z; lia
 | n + 1 => by
  have ih := kinds_all T D Dr Dw n
  refine (ok_law_kind T n D Dr Dw ih (ok_law_record_kind T n Dr D ih) ((ok_law_rows_kind T n Dw D ih).imp ?_)).mono (by lia)
  rintro vs H Q E ⟨r,p,c,x,m,h1,h2,z⟩
  exact ⟨r,p,c,x,m,h1,by lia,z⟩
theorem iteY {A B : Prop} {x : V} (h : A) : if decide (x = x) = true then A else B := by rw [if_pos (decide_eq_true rfl)]; exact h
theorem iteN {A B : Prop} {x y : V} (n : x ≠ y) (h : B) : if decide (x = y) = true then A else B := by rw [if_neg (fun c => n (of_decide_eq_true c))]; exact h
theorem iteY' {A B : Prop} {x y : V} (n : x ≠ y) (h : A) : if (!decide (x = y)) = true then A else B := by rw [if_pos (by rw [decide_eq_false n]; rfl)]; exact h
theorem iteN' {A B : Prop} {x : V} (h : B) : if (!decide (x = x)) = true then A else B := by rw [if_neg (by rw [decide_eq_true rfl]; decide)]; exact h
theorem strNe {a b : Str} (h : a ≠ b) : V.str a ≠ V.str b := fun e => h (V.str.inj e)
theorem isStrV {K : PySem.W.Frag} {H : Hp} {z : Str} {v : V} (h : IsP K H (.str z) v) : v = .str z := by cases h; rfl
noncomputable def okC (c : Nat) : Bool := decide (32 ≤ c) && decide (c ≤ 126) && !decide (c = 34) && !decide (c = 37)
noncomputable def okT (z : Str) : Prop := ∀ c ∈ z.cps.toList,okC c = true
theorem str_app (a b : Str) : (a ++ b).cps.toList = a.cps.toList ++ b.cps.toList := Array.toList_append
theorem join_mem {c : Nat} : ∀ {zs : List Str},c ∈ (Str.join (Str.ofString "") zs).cps.toList → ∃ z ∈ zs,c ∈ z.cps.toList
 | [],h => by
  have h' : c ∈ ([] : List Nat) := h
  cases h'
 | [x],h => ⟨x,List.mem_cons_self,h⟩
 | x :: y :: r,h => by
  have h' : c ∈ (x ++ Str.ofString "" ++ Str.join (Str.ofString "") (y :: r)).cps.toList := h
  rw [str_app,str_app] at h'
  rcases List.mem_append.mp h' with h1 | h1
  ·rcases List.mem_append.mp h1 with h2 | h2
   ·exact ⟨x,List.mem_cons_self,h2⟩
   ·have h3 : c ∈ ([] : List Nat) := h2
    cases h3
  ·obtain ⟨z,hz,hc⟩ := join_mem h1
   exact ⟨z,List.mem_cons_of_mem _ hz,hc⟩
theorem join_okT {zs : List Str} (h : ∀ z ∈ zs,okT z) : okT (Txt.join (Str.ofString "") zs) := by
 intro c hc
 have hc' : c ∈ (Builtin.Str.glued (Str.ofString "") zs).cps.toList := hc
 rw [StrLaws.glued_eq_join] at hc'
 obtain ⟨z,hz,h1⟩ := join_mem hc'
 exact h z hz c h1
noncomputable abbrev signsL : Str := "ab Z09-,.:;/()[]{}'!~"
theorem signs_ok : ∀ c ∈ signsL.cps.toList,okC c = true := by decide +kernel
theorem signs_len : signsL.length = 21 := by decide +kernel
theorem pickC {z : Str} {d : Int} (h0 : 0 ≤ d) (h1 : d < (z.length : Int)) : ∃ c,c ∈ z.cps.toList ∧ atI z.cps.toList d = some c := pick (xs := z.cps.toList) (d := d) h0 (by simpa [Str.length] using h1)
noncomputable def sp_law_text (_ : PySem.W.Frag) : Sp := fun vs H Q _ => ∃ (r : Addr) (c i : Int),vs = [.ref r,.int i] ∧ H r = some (.lst [.int c]) ∧ 0 ≤ i ∧ i ≤ 60 ∧ ∀ z c' H',But r H H' → H' r = some (.lst [.int c']) → (z.length : Int) ≤ i → okT z → Q (.str z) H'
theorem ok_law_text (T : Tx K mg) {f : Addr} {fd : FuncData} (F : Gn K mg "_law_text" s_law_text ["row","most"] f fd) : FnOk P w K mg base CX0 2 f fd ["row","most"] (sp_law_text K) := by
 obtain ⟨f_law_digit,fd_law_digit,D_law_digit⟩ := T.law_digit
 have G_law_digit := ok_law_digit (P := P) (w := w) (base := base) T D_law_digit
 refine F.F.ok sc_law_text (fun vs H Q E h => ?_) (fun cdv A outer s H vs Q E hr h => ?_)
 ·obtain ⟨r,c,i,rfl,_⟩ := h
  rfl
 obtain ⟨r,c,i,rfl,hr0,h1,h2,q⟩ := h
 refine ⟨_,(@pss_cons _ _ _ _ _ (@ps_set _ _ 2 _ _ _ _ sc_law_text.nd rfl (Or.inr rfl) pe_str (by rfl) (by first | exact .inl rfl | exact .inr rfl | assumption)) (@pss_one _ _ _ (@ps_ret _ _ _ _ (pe_bm PySem.F.plainAttrs_str PySem.F.slot_str_join PySem.F.type_str_join mt_join1 pe_str (@pa_cons _ _ _ _ _ (pe_comp rfl (csR (sc := defScope s_law_text) (NL := ["k"]) (N := ["row","most","signs"]) (ρ := [0,2]) (N' := ["k","row","signs"]) rfl rfl rfl (by decide +kernel) (by decide +kernel) (by decide +kernel) rfl (by decide +kernel)) (pi_range1 rfl T.z_range (@pa_cons _ _ _ _ _ (pe_call G_law_digit (hr.mono (by first | decide | lia)) rfl D_law_digit.m D_law_digit.F.kp D_law_digit.b .nil pass0 (@pa_cons _ _ _ _ _ (pv 0) (@pa_cons _ _ _ _ _ (@pe_op _ _ _ _ _ _ _ _ op_add (pv 1) pe_int) pa_nil (by rfl)) (by rfl))) pa_nil (by rfl))) (fun _ _ _ _ => (pg_name (i := 0) (show List.Nodup (α := Str) ["k","row","signs"] by decide +kernel) rfl (Or.inl rfl))) (fun _ _ _ _ => (@pe_ix _ _ _ _ _ _ _ ix_str (pv 2) (pe_call G_law_digit (hr.mono (by first | decide | lia)) rfl D_law_digit.m D_law_digit.F.kp D_law_digit.b .nil pass0 (@pa_cons _ _ _ _ _ (pv 1) (@pa_cons _ _ _ _ _ (pe_callB call_len_str rfl T.z_len PySem.boot_len (@pa_cons _ _ _ _ _ (pv 2) pa_nil (by rfl))) pa_nil (by rfl)) (by rfl))) (fun _ _ => rfl)))) pa_nil (by rfl)))))),?_⟩
 obtain ⟨d0,d1⟩ := mod_lt c (m := i + 1) (by lia)
 refine ⟨rfl,_,rfl,_,rfl,_,_,rfl,rfl,r,c,_,rfl,hr0,by lia,by lia,_,rfl,by lia,by lia,fun l hln => ?_⟩
 have b0 : But r H (upd H r (.lst [.int (c / (i + 1))])) := But.put
 have nlr : r ≠ l := ne_of_none upd_same hln
 have lH : H l = none := by rw [upd_ne nlr.symm] at hln; exact hln
 refine comp_rangeR (lo := 0) (n := (c % (i + 1)).toNat) (fun j ys σ H' => ∃ (zs : List Str) (c' : Int),But r H H' ∧ H' r = some (.lst [.int c']) ∧ H' l = some (.lst ys) ∧ ys = zs.map V.str ∧ (∀ z ∈ zs,z.length = 1 ∧ okT z) ∧ zs.length = j ∧ ∃ v1,σ = [v1,some (.ref r),some (.str signsL)])
  ⟨[],_,b0.trans (But.same (same_new hln _)),(by rw [upd_ne nlr]; exact upd_same),upd_same,rfl,(by intro z hz; cases hz),rfl,none,rfl⟩ ?_ ?_
 ·rintro j ys σ H1 N hj ⟨zs,c',b1,e1,e2,rfl,hz,hle,v1,rfl⟩ next
  obtain ⟨g0,g1⟩ := mod_lt c' (m := ((signsL.length : Nat) : Int)) (by rw [signs_len]; decide)
  obtain ⟨ch,hm,hc⟩ := pickC (z := signsL) g0 g1
  refine ⟨_,rfl,_,rfl,_,rfl,_,rfl,(by decide +kernel),r,c',_,rfl,e1,by rw [signs_len]; decide,by rw [signs_len]; decide,_,_,_,rfl,rfl,(by decide +kernel),hc,?_⟩
  have e3 : (upd H1 r (.lst [.int (c' / ((signsL.length : Nat) : Int))])) l = some (.lst (zs.map V.str)) := by rw [upd_ne nlr.symm]; exact e2
  refine ⟨e3,(by rw [List.length_map]; exact small1000 (by lia)),next _ _ _ ⟨zs ++ [⟨#[ch]⟩],_,fun x o nx ex => ?_,(by rw [upd_ne nlr]; exact upd_same),upd_same,(by rw [List.map_append]; rfl),fun z hz' => ?_,(by rw [List.length_append,hle]; rfl),_,rfl⟩⟩
  ·rw [upd_ne (ne_of_none ex lH),upd_ne nx]
   exact b1 x o nx ex
  ·rcases List.mem_append.mp hz' with h3 | h3
   ·exact hz z h3
   ·obtain rfl := List.mem_singleton.mp h3
    refine ⟨rfl,fun c hc' => ?_⟩
    obtain rfl : c = ch := by simpa using hc'
    exact signs_ok c hm
 ·rintro ys σ H1 ⟨zs,c',b1,e1,e2,rfl,hz,hle,v1,rfl⟩
  refine ⟨l,zs,rfl,rfl,SqL.of e2,fun z h => (hz z h).1,by lia,?_⟩
  refine q _ c' H1 b1 e1 ?_ (join_okT fun z h => (hz z h).2)
  rw [PySem.W.KT.join_ones zs fun z h => (hz z h).1]
  lia
noncomputable def KeysFor (d : Dt) (ks : List Key) : Prop := (∃ (i j : Int) (ns : List Int),d = .tup [.str "number",.int i,.int j] ∧ ks = ns.map Sum.inl ∧ ns.Pairwise (· < ·) ∧ ∀ n ∈ ns,i ≤ n ∧ n ≤ j) ∨
 (∃ (i : Int) (ss : List Str),d = .tup [.str "text",.int i] ∧ ks = ss.map Sum.inr ∧ ss.Pairwise ltS ∧ ∀ z ∈ ss,((z : Str).length : Int) ≤ i ∧ okT z)
noncomputable def KeyFK (d : Dt) : Prop := (∃ i j : Int,d = .tup [.str "number",.int i,.int j] ∧ -1000000000000000000000000000000 ≤ i ∧ i ≤ j ∧ j ≤ 1000000000000000000000000000000) ∨ ∃ i : Int,d = .tup [.str "text",.int i] ∧ 0 ≤ i ∧ i ≤ 60
noncomputable def sp_law_keys (K : PySem.W.Frag) : Sp := fun vs H Q _ => ∃ (r : Addr) (c : Int) (d : Dt) (x : V),vs = [.ref r,x] ∧ H r = some (.lst [.int c]) ∧ IsP K H d x ∧ KeyFK d ∧
 ∀ p ks c' H',But r H H' → H p = none → H' r = some (.lst [.int c']) → H' p = some (.lst (ks.map kV)) → ks.length ≤ 8 → KeysFor d ks → Q (.ref p) H'
theorem isIntV {K : PySem.W.Frag} {H : Hp} {i : Int} {v : V} (h : IsP K H (.int i) v) : v = .int i := by cases h; rfl
noncomputable abbrev keys8 : List Str := [""," ","-","0","A","a","b","~"]
theorem keys8_ok : keys8.Pairwise ltS ∧ ∀ z ∈ keys8,z.length ≤ 1 ∧ okT z := by
 refine ⟨by decide +kernel,?_⟩
 have : ∀ z ∈ keys8,z.length ≤ 1 ∧ ∀ c ∈ z.cps.toList,okC c = true := by decide +kernel
 exact this
theorem cut_to (xs : List V) (m : Int) (h0 : 0 ≤ m) : L2.cutV xs none (some m) = xs.take m.toNat := by
 have e1 : HT.sIx xs.length 0 none = 0 := HT.sIx_none _ _
 have e2 : HT.sIx xs.length xs.length (some m) = min m.toNat xs.length := by
  have := HT.sIx_nat xs.length xs.length m.toNat
  rw [show ((m.toNat : Nat) : Int) = m by lia] at this
  exact this
 unfold L2.cutV
 rw [e1,e2,List.drop_zero,Nat.sub_zero]
 rcases Nat.le_total m.toNat xs.length with h | h
 ·rw [Nat.min_eq_left h]
 ·rw [Nat.min_eq_right h,List.take_length,List.take_of_length_le h]
theorem ok_law_keys (T : Tx K mg) {f : Addr} {fd : FuncData} (F : Gn K mg "_law_keys" s_law_keys ["row","kind"] f fd) : FnOk P w K mg base CX0 2 f fd ["row","kind"] (sp_law_keys K) := by
 obtain ⟨f_law_digit,fd_law_digit,D_law_digit⟩ := T.law_digit
 have G_law_digit := ok_law_digit (P := P) (w := w) (base := base) T D_law_digit
 refine F.F.ok sc_law_keys (fun vs H Q E h => ?_) (fun cdv A outer s H vs Q E hr h => ?_)
 ·obtain ⟨r,c,d,x,rfl,_⟩ := h
  rfl
 obtain ⟨r,c,d,x,rfl,hr0,hd,kf,q⟩ := h
 refine ⟨_,(@pss_cons _ _ _ _ _ (@ps_set _ _ 2 _ _ _ _ sc_law_keys.nd rfl (Or.inl rfl) (pe_call G_law_digit (hr.mono (by first | decide | lia)) rfl D_law_digit.m D_law_digit.F.kp D_law_digit.b .nil pass0 (@pa_cons _ _ _ _ _ (pv 0) (@pa_cons _ _ _ _ _ pe_int pa_nil (by rfl)) (by rfl))) (by rfl) (by first | exact .inl rfl | exact .inr rfl | assumption)) (@pss_cons _ _ _ _ _ (@ps_if _ _ _ _ _ _ _ _ (pt_cmpR op_eq (@pe_ix _ _ _ _ _ _ _ (ix_tupPN (K := K) rfl) (pv 1) pe_int (fun _ _ => rfl)) pe_str (nomark _)) (@pss_cons _ _ _ _ _ (@ps_set _ _ 3 _ _ _ _ sc_law_keys.nd rfl (Or.inr rfl) (@pe_op _ _ _ _ _ _ _ _ op_add (@pe_ix _ _ _ _ _ _ _ (ix_tupPN (K := K) rfl) (pv 1) pe_int (fun _ _ => rfl)) (pe_call G_law_digit (hr.mono (by first | decide | lia)) rfl D_law_digit.m D_law_digit.F.kp D_law_digit.b .nil pass0 (@pa_cons _ _ _ _ _ (pv 0) (@pa_cons _ _ _ _ _ (@pe_op _ _ _ _ _ _ _ _ op_add (@pe_op _ _ _ _ _ _ _ _ op_sub (@pe_ix _ _ _ _ _ _ _ (ix_tupPN (K := K) rfl) (pv 1) pe_int (fun _ _ => rfl)) (@pe_ix _ _ _ _ _ _ _ (ix_tupPN (K := K) rfl) (pv 1) pe_int (fun _ _ => rfl))) pe_int) pa_nil (by rfl)) (by rfl)))) (by rfl) (by first | exact .inl rfl | exact .inr rfl | assumption)) (@pss_one _ _ _ (@ps_ret _ _ _ _ (pe_compIf rfl (csR (sc := defScope s_law_keys) (NL := ["k"]) (N := ["row","kind","many","start"]) (ρ := [1,3]) (N' := ["k","kind","start"]) rfl rfl rfl (by decide +kernel) (by decide +kernel) (by decide +kernel) rfl (by decide +kernel)) (pi_range1 rfl T.z_range (@pa_cons _ _ _ _ _ (pv 2) pa_nil (by rfl))) (fun _ _ _ _ => (pg_name (i := 0) (show List.Nodup (α := Str) ["k","kind","start"] by decide +kernel) rfl (Or.inl rfl))) (fun _ _ _ _ => (pt_cmpR op_le (@pe_op _ _ _ _ _ _ _ _ op_add (pv 2) (pv 0)) (@pe_ix _ _ _ _ _ _ _ (ix_tupPN (K := K) rfl) (pv 1) pe_int (fun _ _ => rfl)) (nomark _))) (fun _ _ _ _ => (@pe_op _ _ _ _ _ _ _ _ op_add (pv 2) (pv 0))))))) pss_nil) (@pss_cons _ _ _ _ _ (@ps_if _ _ _ _ _ _ _ _ (pt_cmpR op_eq (@pe_ix _ _ _ _ _ _ _ (ix_tupPN (K := K) rfl) (pv 1) pe_int (fun _ _ => rfl)) pe_int (nomark _)) (@pss_one _ _ _ (@ps_ret _ _ _ _ (pe_slice (sl_listN (K := K) rfl) (@pe_lst _ _ _ _ (@pa_cons _ _ _ _ _ pe_str pa_nil (by rfl))) po_none (po_some (pv 2))))) pss_nil) (@pss_one _ _ _ (@ps_ret _ _ _ _ (pe_slice (sl_listN (K := K) rfl) (@pe_lst _ _ _ _ (@pa_cons _ _ _ _ _ pe_str (@pa_cons _ _ _ _ _ pe_str (@pa_cons _ _ _ _ _ pe_str (@pa_cons _ _ _ _ _ pe_str (@pa_cons _ _ _ _ _ pe_str (@pa_cons _ _ _ _ _ pe_str (@pa_cons _ _ _ _ _ pe_str (@pa_cons _ _ _ _ _ pe_str pa_nil (by rfl)) (by rfl)) (by rfl)) (by rfl)) (by rfl)) (by rfl)) (by rfl)) (by rfl))) po_none (po_some (pv 2)))))))),?_⟩
 obtain ⟨d0,d1⟩ := mod_lt c (m := 9) (by decide)
 refine ⟨_,rfl,r,c,9,rfl,hr0,by decide,by decide,?_⟩
 have b0 : But r H (upd H r (.lst [.int (c / 9)])) := But.put
 have hd1 := hd.but hr0 b0
 have r1 : (upd H r (.lst [.int (c / 9)])) r = some (.lst [.int (c / 9)]) := upd_same
 generalize upd H r (.lst [.int (c / 9)]) = H1 at b0 hd1 r1 ⊢
 have free : ∀ {l : Addr} {Hx : Hp},But r H Hx → r ≠ l → Hx l = none → H l = none := fun {l Hx} B n e => by
  cases e' : H l with
  | none => rfl
  | some o => rw [B l o n.symm e'] at e; cases e
 rcases kf with ⟨i,j,rfl,k1,k2,k3⟩ | ⟨i,rfl,k1,k2⟩
 ·refine ⟨_,rfl,_,_,_,hd1,rfl,rfl,fun v hv => ?_⟩
  obtain rfl := isStrV hv
  refine ⟨rfl,_,rfl,iteY ?_⟩
  refine ⟨_,rfl,_,_,_,hd1,rfl,rfl,fun v hv => ?_⟩
  obtain rfl := isIntV hv
  refine ⟨_,rfl,_,rfl,_,_,_,hd1,rfl,rfl,fun v hv => ?_⟩
  obtain rfl := isIntV hv
  refine ⟨_,rfl,_,_,_,hd1,rfl,rfl,fun v hv => ?_⟩
  obtain rfl := isIntV hv
  obtain ⟨s0,s1⟩ := mod_lt (c / 9) (m := j - i + 1) (by lia)
  refine ⟨_,_,rfl,rfl,_,_,rfl,rfl,r,c / 9,_,rfl,r1,by lia,by lia,_,_,rfl,rfl,?_⟩
  have b2 : But r H1 (upd H1 r (.lst [.int (c / 9 / (j - i + 1))])) := But.put
  have r2 : (upd H1 r (.lst [.int (c / 9 / (j - i + 1))])) r = some (.lst [.int (c / 9 / (j - i + 1))]) := upd_same
  have hd2 := hd1.but r1 b2
  generalize upd H1 r (.lst [.int (c / 9 / (j - i + 1))]) = H2 at b2 r2 hd2 ⊢
  refine ⟨_,rfl,_,rfl,by lia,by lia,fun l hln => ?_⟩
  have nlr : r ≠ l := ne_of_none r2 hln
  have lH : H l = none := free (b0.trans b2) nlr hln
  generalize hst : i + c / 9 % (j - i + 1) = st
  have st1 : i ≤ st ∧ st ≤ j := by lia
  refine comp_rangeR (lo := 0) (n := (c % 9).toNat) (fun t ys σ H' => ∃ ns : List Int,But r H H' ∧ H' r = some (.lst [.int (c / 9 / (j - i + 1))]) ∧ H' l = some (.lst ys) ∧ ys = ns.map V.int ∧ ns.Pairwise (· < ·) ∧ (∀ n ∈ ns,i ≤ n ∧ n ≤ j ∧ n < st + t) ∧ ns.length ≤ t ∧ ∃ v1,σ = [v1,some x,some (.int st)])
   ⟨[],(b0.trans b2).trans (But.same (same_new hln _)),(by rw [upd_ne nlr]; exact r2),upd_same,rfl,.nil,(by intro n hn; cases hn),Nat.le_refl _,none,(by rw [← hst]; rfl)⟩ ?_ ?_
  ·rintro t ys σ H3 N ht ⟨ns,b3,e3,e4,rfl,pw,bd,hle,v1,rfl⟩ next
   have hd3 := hd.but hr0 b3
   refine ⟨_,rfl,_,rfl,_,_,rfl,rfl,_,rfl,_,_,_,hd3,rfl,rfl,fun v hv => ?_⟩
   obtain rfl := isIntV hv
   refine ⟨_,_,rfl,rfl,_,rfl,?_⟩
   refine ite2 (fun c1 => ?_) (fun c1 => ?_)
   ·have c1' : st + (0 + (t : Int)) ≤ j := of_decide_eq_true c1
    refine ⟨_,rfl,_,rfl,_,_,rfl,rfl,e4,(by rw [List.length_map]; exact small1000 (by lia)),next _ _ _ ⟨ns ++ [st + (0 + (t : Int))],fun y o ny ey => ?_,(by rw [upd_ne nlr]; exact e3),upd_same,(by rw [List.map_append]; rfl),?_,fun n hn => ?_,?_,_,rfl⟩⟩
    ·rw [upd_ne (ne_of_none ey lH)]
     exact b3 y o ny ey
    ·refine List.pairwise_append.mpr ⟨pw,List.pairwise_singleton _ _,fun a ha b hb => ?_⟩
     obtain rfl := List.mem_singleton.mp hb
     have := bd a ha
     lia
    ·rcases List.mem_append.mp hn with h1 | h1
     ·have := bd n h1
      refine ⟨this.1,this.2.1,?_⟩
      push_cast
      lia
     ·obtain rfl := List.mem_singleton.mp h1
      refine ⟨by lia,c1',?_⟩
      push_cast
      lia
    ·rw [List.length_append]
     simp only [List.length_cons,List.length_nil]
     lia
   ·refine next _ _ _ ⟨ns,b3,e3,e4,rfl,pw,fun n hn => ?_,by lia,_,rfl⟩
    have := bd n hn
    refine ⟨this.1,this.2.1,?_⟩
    push_cast
    lia
  ·rintro ys σ H3 ⟨ns,b3,e3,e4,rfl,pw,bd,hle,v1,rfl⟩
   refine q l (ns.map Sum.inl) _ H3 b3 lH e3 ?_ ?_ (.inl ⟨i,j,ns,rfl,rfl,pw,fun n hn => ⟨(bd n hn).1,(bd n hn).2.1⟩⟩)
   ·rw [List.map_map]
    exact e4
   ·rw [List.length_map]
    lia
 ·refine ⟨_,rfl,_,_,_,hd1,rfl,rfl,fun v hv => ?_⟩
  obtain rfl := isStrV hv
  refine ⟨rfl,_,rfl,iteN (strNe (by decide)) ?_⟩
  refine ⟨_,rfl,_,_,_,hd1,rfl,rfl,fun v hv => ?_⟩
  obtain rfl := isIntV hv
  refine ⟨rfl,_,rfl,ite2 (fun c1 => ?_) (fun c1 => ?_)⟩
  ·refine ⟨(by show 1 ≤ sizeLine; decide),fun p hp => ⟨_,rfl,_,rfl,p,[V.str ""],rfl,SqL.of upd_same,fun p2 hp2 => ?_⟩⟩
   have g2 := same_new hp (.lst [V.str ""])
   have nr2 : r ≠ p2 := ne_of_none (g2 _ _ r1) hp2
   rw [cut_to _ _ d0]
   refine q p2 ((([("" : Str)]).take (c % 9).toNat).map Sum.inr) _ _ ((b0.trans (But.same g2)).trans (But.same (same_new hp2 _))) (free (b0.trans (But.same g2)) nr2 hp2) (by rw [upd_ne nr2]; exact g2 _ _ r1) ?_ ?_ (.inr ⟨i,_,rfl,rfl,?_,fun z hz => ?_⟩)
   ·rw [upd_same,List.map_map,List.map_take]
    rfl
   ·rw [List.length_map,List.length_take]
    exact Nat.le_trans (Nat.min_le_right _ _) (by decide)
   ·exact (List.pairwise_singleton ltS ("" : Str)).sublist (List.take_sublist _ _)
   ·obtain rfl := List.mem_singleton.mp (List.mem_of_mem_take hz)
    exact ⟨by show (0 : Int) ≤ i; exact k1,fun c hc => by cases (show c ∈ ([] : List Nat) from hc)⟩
  ·refine ⟨(by show 8 ≤ sizeLine; decide),fun p hp => ⟨_,rfl,_,rfl,p,keys8.map V.str,rfl,SqL.of upd_same,fun p2 hp2 => ?_⟩⟩
   have g2 := same_new hp (.lst (keys8.map V.str))
   have nr2 : r ≠ p2 := ne_of_none (g2 _ _ r1) hp2
   have i1 : 1 ≤ i := by
    have : ¬ i = 0 := fun e => c1 (decide_eq_true (by rw [e]))
    lia
   rw [cut_to _ _ d0]
   refine q p2 ((keys8.take (c % 9).toNat).map Sum.inr) _ _ ((b0.trans (But.same g2)).trans (But.same (same_new hp2 _))) (free (b0.trans (But.same g2)) nr2 hp2) (by rw [upd_ne nr2]; exact g2 _ _ r1) ?_ ?_ (.inr ⟨i,_,rfl,rfl,keys8_ok.1.sublist (List.take_sublist _ _),fun z hz => ?_⟩)
   ·rw [upd_same,List.map_map,← List.map_take]
    rfl
   ·rw [List.length_map,List.length_take]
    exact Nat.le_trans (Nat.min_le_right _ _) (by decide)
   ·obtain ⟨z1,z2⟩ := keys8_ok.2 z (List.mem_of_mem_take hz)
    exact ⟨by lia,z2⟩
noncomputable def lookD : List Dt → Str → Option Dt
 | .tup [.str n,k] :: r,z => if n = z then some k else lookD r z
 | _,_ => none
theorem lookD_map (z : Str) : ∀ fs : List (Str × Dt),lookD (fs.map prD) z = lookS fs z
 | [] => rfl
 | (n,k) :: fs => by
  show (if n = z then some k else lookD (fs.map prD) z) = _
  rw [lookD_map z fs]
  by_cases h : n = z <;> simp [lookS,h]
noncomputable def keyD (v : Dt) (z : Str) : Dt := match v with
 | .tup [_,.tup l] => (lookD l z).getD .non
 | _ => .non
noncomputable def kD : Key → Dt
 | .inl i => .int i
 | .inr z => .str z
noncomputable def Asc (l : List Dt) : Prop := (∃ ns : List Int,l = ns.map Dt.int ∧ ns.Pairwise (· < ·)) ∨ ∃ ss : List Str,l = ss.map Dt.str ∧ ss.Pairwise ltS
inductive FV : Dt → Dt → Prop
 | number {i j x : Int} : i ≤ x → x ≤ j → FV (.tup [.str "number",.int i,.int j]) (.int x)
 | text {i : Int} {z : Str} : (z.length : Int) ≤ i → okT z → FV (.tup [.str "text",.int i]) (.str z)
 | choice {ws : List Str} {z : Str} : z ∈ ws → FV (.tup [.str "choice",.tup (ws.map Dt.str)]) (.str z)
 | list {k : Dt} {i : Int} {vs : List Dt} : (∀ v ∈ vs,FV k v) → (vs.length : Int) ≤ i → FV (.tup [.str "list",k,.int i]) (.tup [.str "list",.tup vs])
 | rows {k : Dt} {z : Str} {i : Int} {vs : List Dt} : (∀ v ∈ vs,FV k v) → (vs.length : Int) ≤ i → Asc (vs.map fun v => keyD v z) → FV (.tup [.str "rows",.str z,k,.int i]) (.tup [.str "rows",.tup vs])
 | rcd {fs gs : List (Str × Dt)} : gs.map (·.1) = fs.map (·.1) → (∀ (i : Nat) (f g : Str × Dt),fs[i]? = some f → gs[i]? = some g → FV f.2 g.2) → FV (.tup [.str "record",.tup (fs.map prD)]) (.tup [.str "record",.tup (gs.map prD)])
mutual
theorem isP_butD {K : PySem.W.Frag} {H H' : Hp} {p : Addr} {kvs : List (Key × V)} (hp : H p = some (.dK kvs)) (g : But p H H') : ∀ {d : Dt} {v : V},IsP K H d v → IsP K H' d v
 | _,_,.non => .non
 | _,_,.bl => .bl
 | _,_,.int => .int
 | _,_,.str => .str
 | _,_,.tup h pl q => .tup (g.tup (by obtain ⟨o,u,e,dn⟩ := pl; exact ne_of e hp (by intro c; cases c)) h) (by
   obtain ⟨o,u,e,dn⟩ := pl
   exact ⟨o,u,g _ _ (ne_of e hp (by intro c; cases c)) e,dn⟩) (isPs_butD hp g q)
theorem isPs_butD {K : PySem.W.Frag} {H H' : Hp} {p : Addr} {kvs : List (Key × V)} (hp : H p = some (.dK kvs)) (g : But p H H') : ∀ {l : List Dt} {xs : List V},IsPs K H l xs → IsPs K H' l xs
 | _,_,.nil => .nil
 | _,_,.cons h q => .cons (isP_butD hp g h) (isPs_butD hp g q)
end
noncomputable def svalue (K : PySem.W.Frag) (n : Nat) : Sp := fun vs H Q _ => ∃ (r : Addr) (c : Int) (a ct : Nat) (d : Dt) (x : V),a ≤ n ∧ vs = [.ref r,x] ∧ H r = some (.lst [.int c]) ∧ IsP K H d x ∧ FK a ct d ∧ ∀ (v : V) (e : Dt) (c' : Int) (H' : Hp),But r H H' → H' r = some (.lst [.int c']) → IsP K H' e v → FV d e → Q v H'
noncomputable def srowv (K : PySem.W.Frag) (n : Nat) : Sp := fun vs H Q _ => ∃ (r : Addr) (c i : Int) (z : Str) (fs : List (Str × Dt)) (kk : Dt) (x : V),vs = [.ref r,x] ∧ H r = some (.lst [.int c]) ∧ IsP K H (.tup [.str "rows",.str z,.tup [.str "record",.tup (fs.map prD)],.int i]) x ∧
 (∀ f ∈ fs,∃ a ct,a ≤ n ∧ FK a ct f.2) ∧ (fs.map (·.1)).Pairwise ltS ∧ fs.length ≤ 8 ∧ lookS fs z = some kk ∧ KeyFK kk ∧ 0 ≤ i ∧ i ≤ 8 ∧
 ∀ (v : V) (vs' : List Dt) (c' : Int) (H' : Hp),But r H H' → H' r = some (.lst [.int c']) → IsP K H' (.tup [.str "rows",.tup vs']) v → FV (.tup [.str "rows",.str z,.tup [.str "record",.tup (fs.map prD)],.int i]) (.tup [.str "rows",.tup vs']) → Q v H'
theorem asc_perm : ∀ {a b : List Str},a.Pairwise ltS → b.Pairwise ltS → a.Perm b → a = b
 | [],b,_,_,h => (List.nil_perm.mp h).symm
 | x :: a,[],_,_,h => absurd (List.perm_nil.mp h) (by simp)
 | x :: a,y :: b,ha,hb,h => by
  have ha' := List.pairwise_cons.mp ha
  have hb' := List.pairwise_cons.mp hb
  have e : x = y := by
   rcases List.mem_cons.mp (h.mem_iff.mp (List.mem_cons_self : x ∈ x :: a)) with e | hx
   ·exact e
   ·rcases List.mem_cons.mp (h.mem_iff.mpr (List.mem_cons_self : y ∈ y :: b)) with e | hy
    ·exact e.symm
    ·exact absurd (List.lt_trans (hb'.1 x hx) (ha'.1 y hy)) (List.lt_irrefl _)
  subst e
  rw [asc_perm ha'.2 hb'.2 (List.Perm.cons_inv h)]
theorem look_at' {z : Str} {v : Dt} : ∀ {fs : List (Str × Dt)} {i : Nat},(fs.map (·.1)).Nodup → fs[i]? = some (z,v) → lookS fs z = some v
 | [],i,_,h => by simp at h
 | f :: fs,0,nd,h => by
  obtain rfl : f = (z,v) := by simpa using h
  simp [lookS]
 | f :: fs,i + 1,nd,h => by
  have nd' := List.nodup_cons.mp (show (f.1 :: fs.map (·.1)).Nodup from nd)
  have h2 : fs[i]? = some (z,v) := by simpa using h
  have hz : ¬ f.1 = z := fun c => nd'.1 (List.mem_map.mpr ⟨(z,v),List.mem_of_getElem? h2,c.symm⟩)
  rw [← look_at' nd'.2 h2]
  simp [lookS,hz]
theorem fk_head {a c : Nat} {d : Dt} (h : FK a c d) : ∃ w rest,d = .tup (.str w :: rest) := by
 cases h <;> exact ⟨_,_,rfl⟩
theorem keysFor_fv {d : Dt} {ks : List Key} {k : Key} (h : KeysFor d ks) (hk : k ∈ ks) : FV d (kD k) := by
 rcases h with ⟨i,j,ns,rfl,rfl,_,b⟩ | ⟨i,ss,rfl,rfl,_,b⟩
 ·obtain ⟨n,hn,rfl⟩ := List.mem_map.mp hk
  exact .number (b n hn).1 (b n hn).2
 ·obtain ⟨s,hs,rfl⟩ := List.mem_map.mp hk
  exact .text (b s hs).1 (b s hs).2
theorem keysFor_asc {d : Dt} {ks : List Key} (h : KeysFor d ks) (t : Nat) : Asc ((ks.take t).map kD) := by
 rcases h with ⟨i,j,ns,rfl,rfl,pw,_⟩ | ⟨i,ss,rfl,rfl,pw,_⟩
 ·refine .inl ⟨ns.take t,?_,pw.sublist (List.take_sublist _ _)⟩
  rw [← List.map_take,List.map_map]
  rfl
 ·refine .inr ⟨ss.take t,?_,pw.sublist (List.take_sublist _ _)⟩
  rw [← List.map_take,List.map_map]
  rfl
theorem look_names {z : Str} {kk : Dt} : ∀ {fs gs : List (Str × Dt)},gs.map (·.1) = fs.map (·.1) → lookS fs z = some kk → ∃ e,lookS gs z = some e ∧ (z,e) ∈ gs
 | [],_,_,h => by simp [lookS] at h
 | f :: fs,[],e,_ => by simp at e
 | f :: fs,g :: gs,e,h => by
  have e1 : g.1 = f.1 := (List.cons.inj (show g.1 :: gs.map (·.1) = f.1 :: fs.map (·.1) from e)).1
  have e2 : gs.map (·.1) = fs.map (·.1) := (List.cons.inj (show g.1 :: gs.map (·.1) = f.1 :: fs.map (·.1) from e)).2
  by_cases hz : f.1 = z
  ·refine ⟨g.2,by simp [lookS,e1,hz],?_⟩
   have : g = (z,g.2) := by rw [← hz,← e1]
   rw [← this]
   exact List.mem_cons_self
  ·have h' : lookS (f :: fs) z = lookS fs z := by simp [lookS,hz]
   rw [h'] at h
   obtain ⟨d,h1,h2⟩ := look_names e2 h
   exact ⟨d,by rw [← h1]; simp [lookS,e1,hz],List.mem_cons_of_mem _ h2⟩
theorem ok_law_row_values (T : Tx K mg) {f fk : Addr} {fd fdk : FuncData} (n : Nat) (F : Gn K mg "_law_row_values" s_law_row_values ["row","kind"] f fd) (D_law_value : Gn K mg "_law_value" s_law_value ["row","kind"] fk fdk)
  (G_law_value : FnOk P w K mg base CX0 (2 * n + 3) fk fdk ["row","kind"] (svalue K n)) : FnOk P w K mg base CX0 (2 * n + 3 + 1) f fd ["row","kind"] (srowv K n) := by
 obtain ⟨f_law_keys,fd_law_keys,D_law_keys⟩ := T.law_keys
 have G_law_keys := ok_law_keys (P := P) (w := w) (base := base) T D_law_keys
 refine F.F.ok sc_law_row_values (fun vs H Q E h => ?_) (fun cdv A outer s H vs Q E hr h => ?_)
 ·obtain ⟨r,c,i,z,fs,kk,x,rfl,_⟩ := h
  rfl
 obtain ⟨r,c,i,z,fs,kk,x,rfl,hr0,hd,gk,asc,hl,lk,kf,i0,i8,q⟩ := h
 refine ⟨_,(@pss_cons _ _ _ _ _ (@ps_set _ _ 2 _ _ _ _ sc_law_row_values.nd rfl (Or.inr rfl) (pe_callTy (call_dictFN (K := K) rfl rfl) rfl T.z_dict boot_dict (@pa_cons _ _ _ _ _ (@pe_ix _ _ _ _ _ _ _ (ix_tupPN (K := K) rfl) (@pe_ix _ _ _ _ _ _ _ (ix_tupPN (K := K) rfl) (pv 1) pe_int (fun _ _ => rfl)) pe_int (fun _ _ => rfl)) pa_nil (by rfl))) (by rfl) (by first | exact .inl rfl | exact .inr rfl | assumption)) (@pss_cons _ _ _ _ _ (@ps_set _ _ 3 _ _ _ _ sc_law_row_values.nd rfl (Or.inl rfl) (@pe_lst _ _ _ _ pa_nil) (by rfl) (by first | exact .inl rfl | exact .inr rfl | assumption)) (@pss_cons _ _ _ _ _ (@ps_set _ _ 4 _ _ _ _ sc_law_row_values.nd rfl (Or.inl rfl) (@pe_ix _ _ _ _ _ _ _ (ix_tupPN (K := K) rfl) (pv 1) pe_int (fun _ _ => rfl)) (by rfl) (by first | exact .inl rfl | exact .inr rfl | assumption)) (@pss_cons _ _ _ _ _ (@ps_if _ _ _ _ _ _ _ _ (@pt_val _ _ _ (pe_callB (call_anyN (K := K) rfl rfl) rfl T.z_any boot_any (@pa_cons _ _ _ _ _ (pe_comp rfl (csR (sc := defScope s_law_row_values) (NL := ["name"]) (N := ["row","kind","fields","items","most","key","pairs","name","value"]) (ρ := [2]) (N' := ["name","fields"]) rfl rfl rfl (by decide +kernel) (by decide +kernel) (by decide +kernel) rfl (by decide +kernel)) (pi_dict (pv 2)) (fun _ _ _ _ => (pg_name (i := 0) (show List.Nodup (α := Str) ["name","fields"] by decide +kernel) rfl (Or.inl rfl))) (fun _ _ _ _ => (pe_cmpR (op_in_seqK (K := K) rfl) (@pe_ix _ _ _ _ _ _ _ (ix_tupPN (K := K) rfl) (pe_dget (u1 hr.units) (pv 1) (pv 0) (fun _ _ => rfl)) pe_int (fun _ _ => rfl)) (@pe_lst _ _ _ _ (@pa_cons _ _ _ _ _ pe_str (@pa_cons _ _ _ _ _ pe_str (@pa_cons _ _ _ _ _ pe_str pa_nil (by rfl)) (by rfl)) (by rfl))) rfl))) pa_nil (by rfl))) (by intro _; rfl)) (@pss_one _ _ _ (@ps_set _ _ 4 _ _ _ _ sc_law_row_values.nd rfl (Or.inl rfl) (pe_callB (call_min2 rfl) rfl T.z_min boot_min (@pa_cons _ _ _ _ _ (pv 4) (@pa_cons _ _ _ _ _ pe_int pa_nil (by rfl)) (by rfl))) (by rfl) (by first | exact .inl rfl | exact .inr rfl | assumption))) pss_nil) (@pss_cons _ _ _ _ _ (ps_for PassesOwn.never rfl (pi_listN (K := K) rfl (pe_slice (sl_listN (K := K) rfl) (pe_call G_law_keys (hr.mono (by first | decide | lia)) rfl D_law_keys.m D_law_keys.F.kp D_law_keys.b .nil pass0 (@pa_cons _ _ _ _ _ (pv 0) (@pa_cons _ _ _ _ _ (pe_dget (u1 hr.units) (pv 2) (@pe_ix _ _ _ _ _ _ _ (ix_tupPN (K := K) rfl) (pv 1) pe_int (fun _ _ => rfl)) (fun _ _ => rfl)) pa_nil (by rfl)) (by rfl))) po_none (po_some (pv 4)))) (pg_name (i := 5) sc_law_row_values.nd rfl (Or.inl rfl))
    (@pss_cons _ _ _ _ _ (@ps_set _ _ 6 _ _ _ _ sc_law_row_values.nd rfl (Or.inl rfl) (@pe_lst _ _ _ _ pa_nil) (by rfl) (by first | exact .inl rfl | exact .inr rfl | assumption)) (@pss_cons _ _ _ _ _ (ps_for PassesOwn.never rfl (pi_listN (K := K) rfl (pe_callB (call_sortDR rfl) rfl T.z_sorted boot_sorted (@pa_cons _ _ _ _ _ (pv 2) pa_nil (by rfl)))) (pg_name (i := 7) sc_law_row_values.nd rfl (Or.inl rfl))
    (@pss_cons _ _ _ _ _ (@ps_set _ _ 8 _ _ _ _ sc_law_row_values.nd rfl (Or.inl rfl) (pv 5) (by rfl) (by first | exact .inl rfl | exact .inr rfl | assumption)) (@pss_cons _ _ _ _ _ (@ps_if _ _ _ _ _ _ _ _ (pt_cmpR op_ne (pv 7) (@pe_ix _ _ _ _ _ _ _ (ix_tupPN (K := K) rfl) (pv 1) pe_int (fun _ _ => rfl)) (nomark _)) (@pss_one _ _ _ (@ps_set _ _ 8 _ _ _ _ sc_law_row_values.nd rfl (Or.inl rfl) (pe_call G_law_value (hr.mono (by first | decide | lia)) rfl D_law_value.m D_law_value.F.kp D_law_value.b .nil pass0 (@pa_cons _ _ _ _ _ (pv 0) (@pa_cons _ _ _ _ _ (pe_dget (u1 hr.units) (pv 2) (pv 7) (fun _ _ => rfl)) pa_nil (by rfl)) (by rfl))) (by rfl) (by first | exact .inl rfl | exact .inr rfl | assumption))) pss_nil) (@pss_one _ _ _ (@ps_expr _ _ _ _ (pe_bm PySem.F.plainAttrs_list PySem.F.slot_list_append PySem.F.type_list_append mt_append (pv 6) (@pa_cons _ _ _ _ _ (@pe_tupPK _ K _ _ _ _ rfl (@pa_cons _ _ _ _ _ (pv 7) (@pa_cons _ _ _ _ _ (pv 8) pa_nil (by rfl)) (by rfl))) pa_nil (by rfl))) (by rfl)))))) (@pss_one _ _ _ (@ps_expr _ _ _ _ (pe_bm PySem.F.plainAttrs_list PySem.F.slot_list_append PySem.F.type_list_append mt_append (pv 3) (@pa_cons _ _ _ _ _ (@pe_tupPK _ K _ _ _ _ rfl (@pa_cons _ _ _ _ _ pe_str (@pa_cons _ _ _ _ _ (pe_callTy (call_tuplePN (K := K) rfl) rfl T.z_tuple boot_tuple (@pa_cons _ _ _ _ _ (pv 6) pa_nil (by rfl))) pa_nil (by rfl)) (by rfl))) pa_nil (by rfl))) (by rfl)))))) (@pss_one _ _ _ (@ps_ret _ _ _ _ (@pe_tupPK _ K _ _ _ _ rfl (@pa_cons _ _ _ _ _ pe_str (@pa_cons _ _ _ _ _ (pe_callTy (call_tuplePN (K := K) rfl) rfl T.z_tuple boot_tuple (@pa_cons _ _ _ _ _ (pv 3) pa_nil (by rfl))) pa_nil (by rfl)) (by rfl)))))))))),?_⟩
 have nd := lt_nodup asc
 refine ⟨_,rfl,_,_,_,hd,rfl,rfl,fun v1 hv1 => ?_⟩
 refine ⟨_,_,_,hv1,rfl,rfl,fun v2 hv2 => ?_⟩
 refine ⟨v2,fs,rfl,hv2,nd,by lia,fun p H1 hpn g1 dq => ?_⟩
 obtain ⟨kvs,ep,ek,kval⟩ := dq
 have ek' : kvs.map (·.1) = (fs.map (·.1)).map (Sum.inr : Str → Key) := by rw [ek,List.map_map]; rfl
 have nrp : r ≠ p := ne_of_none hr0 hpn
 have lk8 : kvs.length = fs.length := by have := congrArg List.length ek; simpa using this
 refine ⟨(by show 0 ≤ sizeLine; decide),fun pf hpf => ?_⟩
 have g2 := same_new hpf (.lst [])
 have np : p ≠ pf := ne_of_none ep hpf
 have nrf : r ≠ pf := ne_of_none (g1 _ _ hr0) hpf
 have hd2 := (hd.same g1).same g2
 refine ⟨_,rfl,_,_,_,hd2,rfl,rfl,fun v hv => ?_⟩
 obtain rfl := isIntV hv
 have ep2 := g2 _ _ ep
 refine ⟨_,rfl,p,kvs,rfl,ep2,fun ob l hln => ?_⟩
 have bp : But p (upd H1 pf (.lst [])) (upd (upd H1 pf (.lst [])) p (.frz ob (.dK kvs))) := But.put
 have eF : (upd (upd H1 pf (.lst [])) p (.frz ob (.dK kvs))) p = some (.frz ob (.dK kvs)) := upd_same
 have rF := bp _ _ nrp (g2 _ _ (g1 _ _ hr0))
 have fF := bp _ _ np.symm (upd_same (H := H1) (a := pf) (o := .lst []))
 have hdF := isP_butD ep2 bp hd2
 have kvF : ∀ w d,lookS fs w = some d → ∃ v,valV kvs (Sum.inr w : Key) = some v ∧ IsP K (upd (upd H1 pf (.lst [])) p (.frz ob (.dK kvs))) d v := fun w d e => by
  obtain ⟨v,h1,h2⟩ := (kval w).2 d e
  exact ⟨v,h1,isP_butD ep2 bp (h2.same g2)⟩
 have SF : Same H (upd (upd H1 pf (.lst [])) p (.frz ob (.dK kvs))) := fun a o e => bp a o (ne_of_none e hpn) (g2 _ _ (g1 _ _ e))
 generalize upd (upd H1 pf (.lst [])) p (.frz ob (.dK kvs)) = HF at hln bp eF rF fF hdF kvF SF ⊢
 refine comp_dictR (a := p) (ob := ob) (kvs := kvs) (fun j ys σ H' => ∃ bs : List Bool,Same HF H' ∧ H' l = some (.lst ys) ∧ ys = bls bs ∧ ys.length ≤ j ∧ ∃ v1,σ = [v1,some (.ref p)])
  ⟨[],same_new hln _,upd_same,rfl,Nat.le_refl _,none,rfl⟩ (fun j ys σ H' _ pv => by
   obtain ⟨_,s,_⟩ := pv
   exact s _ _ eF) ?_ ?_
 ·rintro j ⟨key,v0⟩ ys σ H3 N hj ⟨bs,s3,e3,rfl,hle,v1,rfl⟩ next
  have hj8 : j < kvs.length := (List.getElem?_eq_some_iff.mp hj).1
  have hk : (kvs.map (·.1))[j]? = some key := by rw [List.getElem?_map,hj]; rfl
  rw [ek,List.getElem?_map] at hk
  obtain ⟨⟨wf,d⟩,hf,rfl⟩ := Option.map_eq_some_iff.mp hk
  obtain ⟨v9,h9,hv9⟩ := kvF wf d (look_at' nd hf)
  obtain ⟨a9,ct9,_,hfk⟩ := gk _ (List.mem_of_getElem? hf)
  obtain ⟨w',rest,ed⟩ := fk_head hfk
  have ed' : d = .tup (.str w' :: rest) := ed
  subst ed'
  have at1 : atI (Dt.str w' :: rest) ((0 : Nat) : Int) = some (.str w') := atI_nat (by simp)
  refine ⟨_,rfl,_,rfl,p,v9,rfl,.inl ⟨kvs,Sum.inr wf,.inr ⟨ob,s3 _ _ eF⟩,rfl,h9.symm⟩,_,_,_,hv9.same s3,rfl,at1,fun v hv => ?_⟩
  obtain rfl := isStrV hv
  refine ⟨(by show 3 ≤ sizeLine; decide),fun p4 hp4 => ?_⟩
  have g4 := same_new hp4 (.lst [.str "list",.str "rows",.str "record"])
  have e4 := g4 _ _ e3
  refine ⟨p4,_,rfl,.inl (SqL.of upd_same),rfl,rfl,e4,small1000 (by lia),next _ _ _ ⟨bs ++ [inV (V.str w') [V.str "list",V.str "rows",V.str "record"]],fun c o ec => ?_,upd_same,?_,?_,_,rfl⟩⟩
  ·rw [upd_ne (ne_of_none ec hln)]
   exact g4 _ _ (s3 _ _ ec)
  ·unfold bls; rw [List.map_append]; rfl
  ·rw [List.length_append]; simp only [List.length_cons,List.length_nil]; lia
 ·rintro ys σ H3 ⟨bs,s3,e3,rfl,hle,v1,rfl⟩
  refine ⟨l,bs,rfl,rfl,SqL.of e3,_,rfl,?_⟩
  refine ite2 (fun _ => ?_) (fun _ => ?_)
  ·refine ⟨_,rfl,_,_,rfl,?_⟩
   obtain ⟨m0,m1⟩ : (0 : Int) ≤ (if 2 < i then 2 else i) ∧ (if 2 < i then 2 else i) ≤ i := by split <;> lia
   generalize (if (2 : Int) < i then (2 : Int) else i) = mst at m0 m1 ⊢
   have eP := s3 _ _ eF
   have r3 := s3 _ _ rF
   have hd3 := hdF.same s3
   obtain ⟨vk,h9,hvk⟩ := kvF z kk lk
   refine ⟨_,rfl,_,rfl,_,rfl,_,_,_,hd3,rfl,rfl,fun v hv => ?_⟩
   obtain rfl := isStrV hv
   refine ⟨p,vk,rfl,.inl ⟨kvs,Sum.inr z,.inr ⟨ob,eP⟩,rfl,h9.symm⟩,?_⟩
   refine ⟨r,c,kk,vk,rfl,r3,hvk.same s3,kf,fun pk ks c4 H4 b4 hpk r4 e4 l4 kfor => ?_⟩
   refine ⟨_,rfl,_,rfl,pk,_,rfl,SqL.of e4,fun p5 hp5 => ?_⟩
   rw [cut_to _ _ m0]
   have g5 := same_new hp5 (.lst ((ks.map kV).take mst.toNat))
   have e5 : (upd H4 p5 (.lst ((ks.map kV).take mst.toNat))) p5 = some (.lst ((ks.map kV).take mst.toNat)) := upd_same
   have F4 : H4 pf = some (.lst []) := b4 _ _ nrf.symm (s3 _ _ fF)
   have P4 : H4 p = some (.frz ob (.dK kvs)) := b4 _ _ nrp.symm eP
   have n5r : p5 ≠ r := (ne_of_none r4 hp5).symm
   have n5f : p5 ≠ pf := (ne_of_none F4 hp5).symm
   generalize upd H4 p5 (.lst ((ks.map kV).take mst.toNat)) = H5 at g5 e5 ⊢
   have B5 : But r H3 H5 := b4.trans (But.same g5)
   have P5 := g5 _ _ P4
   have F5 := g5 _ _ F4
   have r5 := g5 _ _ r4
   have hd5 := hd3.but r3 B5
   have kv5 : ∀ w d,lookS fs w = some d → ∃ v,valV kvs (Sum.inr w : Key) = some v ∧ IsP K H5 d v := fun w d e => by
    obtain ⟨v,h1,h2⟩ := kvF w d e
    exact ⟨v,h1,(h2.same s3).but r3 B5⟩
   refine ⟨p5,rfl,⟨_,SqL.of e5⟩,for_list (xs := (ks.map kV).take mst.toNat) (fun t σ H' => ∃ (its : List Dt) (ys : List V) (c' : Int) (w5 w6 w7 w8 : Option V),But2 r pf H5 H' ∧ H' r = some (.lst [.int c']) ∧ H' pf = some (.lst ys) ∧ IsPs K H' its ys ∧ (∀ v ∈ its,FV (.tup [.str "record",.tup (fs.map prD)]) v) ∧ (its.map fun v => keyD v z) = (ks.take t).map kD ∧ its.length = t ∧ σ = [some (.ref r),some x,some (.ref p),some (.ref pf),some (.int mst),w5,w6,w7,w8])
    ⟨[],[],c4,none,none,none,none,But2.refl _ _ _,r5,F5,.nil,(by intro v hv; cases hv),rfl,rfl,rfl⟩ (fun t σ H' _ pv => by
     obtain ⟨_,_,_,_,_,_,_,b,_⟩ := pv
     exact SqL.of (b _ _ n5r n5f e5)) ?_ ?_⟩
   ·rintro t u σ H6 hu ⟨its,ys,c6,w5,w6,w7,w8,b6,r6,f6,hp6,fv6,ke6,le6,rfl⟩
    have hu' : (ks.map kV)[t]? = some u := by
     rw [List.getElem?_take] at hu
     split at hu
     ·exact hu
     ·cases hu
    rw [List.getElem?_map] at hu'
    obtain ⟨key,hkey,rfl⟩ := Option.map_eq_some_iff.mp hu'
    have ht8 : t < ks.length := (List.getElem?_eq_some_iff.mp hkey).1
    have np6 : p ≠ pf := np
    have P6 := b6 _ _ nrp.symm np6 P5
    refine ⟨(by show 0 ≤ sizeLine; decide),fun pp hpp => ?_⟩
    have g7 := same_new hpp (.lst [])
    have rp : r ≠ pp := ne_of_none r6 hpp
    have fp : pf ≠ pp := ne_of_none f6 hpp
    refine ⟨_,rfl,p,kvs,fs.map (·.1),rfl,.inr ⟨ob,g7 _ _ P6⟩,ek',by rw [List.length_map]; lia,fun pn ss' hpn' perm srt => ?_⟩
    obtain rfl := asc_perm (sorted_pw srt (perm.nodup_iff.mpr nd)) asc perm
    have g8 := same_new hpn' (.lst ((fs.map (·.1)).map V.str))
    have e8 : (upd (upd H6 pp (.lst [])) pn (.lst ((fs.map (·.1)).map V.str))) pn = some (.lst ((fs.map (·.1)).map V.str)) := upd_same
    have npn : pn ≠ pp := fun c => by rw [c,upd_same] at hpn'; cases hpn'
    have npr : pn ≠ r := fun c => by rw [c,g7 _ _ r6] at hpn'; cases hpn'
    have pp8 : (upd (upd H6 pp (.lst [])) pn (.lst ((fs.map (·.1)).map V.str))) pp = some (.lst []) := g8 _ _ upd_same
    have S8 : Same H6 (upd (upd H6 pp (.lst [])) pn (.lst ((fs.map (·.1)).map V.str))) := g7.trans g8
    generalize upd (upd H6 pp (.lst [])) pn (.lst ((fs.map (·.1)).map V.str)) = H8 at e8 pp8 S8 g8 ⊢
    have r8 := S8 _ _ r6
    have hd8 := (is_but2 r5 F5 b6 hd5).same S8
    have kv8 : ∀ w d,lookS fs w = some d → ∃ v,valV kvs (Sum.inr w : Key) = some v ∧ IsP K H8 d v := fun w d e => by
     obtain ⟨v,h1,h2⟩ := kv5 w d e
     exact ⟨v,h1,(is_but2 r5 F5 b6 h2).same S8⟩
    have P8 := S8 _ _ P6
    have hkd : ∀ (H' : Hp),IsP K H' (kD key) (kV key) := fun H' => by
     cases key with
     | inl i => exact .int
     | inr s => exact .str
    have fvk : FV kk (kD key) := keysFor_fv kfor (List.mem_of_getElem? hkey)
    refine ⟨pn,rfl,⟨_,SqL.of e8⟩,for_list (xs := (fs.map (·.1)).map V.str) (fun j σ H' => ∃ (gs : List (Str × Dt)) (ys' : List V) (c' : Int) (w7 w8 : Option V),But2 r pp H8 H' ∧ H' r = some (.lst [.int c']) ∧ H' pp = some (.lst ys') ∧ IsPs K H' (gs.map prD) ys' ∧ gs.map (·.1) = (fs.take j).map (·.1) ∧ (∀ (i : Nat) (f g : Str × Dt),fs[i]? = some f → gs[i]? = some g → FV f.2 g.2) ∧ (∀ g ∈ gs,g.1 = z → g.2 = kD key) ∧ σ = [some (.ref r),some x,some (.ref p),some (.ref pf),some (.int mst),some (kV key),some (.ref pp),w7,w8])
     ⟨[],[],c6,_,_,But2.refl _ _ _,r8,pp8,.nil,rfl,(by intro i f g _ e; simp at e),(by intro g hg; cases hg),rfl⟩ (fun j σ H' _ pv => by
      obtain ⟨_,_,_,_,_,b,_⟩ := pv
      exact SqL.of (b _ _ npr npn e8)) ?_ ?_⟩
    ·rintro j un σ H9 hun ⟨gs,ys',c9,w7,w8,b9,r9,p9,hp9,en,gv,kz,rfl⟩
     rw [List.getElem?_map] at hun
     obtain ⟨wf,hwf,rfl⟩ := Option.map_eq_some_iff.mp hun
     rw [List.getElem?_map] at hwf
     obtain ⟨⟨wf',d⟩,hf,rfl⟩ := Option.map_eq_some_iff.mp hwf
     have hjf : j < fs.length := (List.getElem?_eq_some_iff.mp hf).1
     have lg : gs.length = j := by
      have := congrArg List.length en
      simp only [List.length_map,List.length_take] at this
      lia
     have ly : ys'.length = j := by rw [← hp9.length,List.length_map,lg]
     have hd9 := is_but2 r8 pp8 b9 hd8
     have done : ∀ (e : Dt) (v : V) (c10 : Int) (H10 : Hp),But r H9 H10 → H10 r = some (.lst [.int c10]) → IsP K H10 e v → FV d e → (wf' = z → e = kD key) →
       ∀ (v11 : V) (H11 : Hp),Same H10 H11 → IsP K H11 (prD (wf',e)) v11 → ∃ (gs : List (Str × Dt)) (ys'' : List V) (c' : Int),But2 r pp H8 (upd H11 pp (.lst (ys' ++ [v11]))) ∧ (upd H11 pp (.lst (ys' ++ [v11]))) r = some (.lst [.int c']) ∧ (upd H11 pp (.lst (ys' ++ [v11]))) pp = some (.lst ys'') ∧ H11 pp = some (.lst ys') ∧ IsPs K (upd H11 pp (.lst (ys' ++ [v11]))) (gs.map prD) ys'' ∧ gs.map (·.1) = (fs.take (j + 1)).map (·.1) ∧ (∀ (i : Nat) (f g : Str × Dt),fs[i]? = some f → gs[i]? = some g → FV f.2 g.2) ∧ (∀ g ∈ gs,g.1 = z → g.2 = kD key) := by
      intro e v c10 H10 b10 r10 hv10 fv10 kz10 v11 H11 g11 hv11
      have p11 : H11 pp = some (.lst ys') := g11 _ _ (b10 _ _ rp.symm p9)
      have b12 : But pp H11 (upd H11 pp (.lst (ys' ++ [v11]))) := But.put
      refine ⟨gs ++ [(wf',e)],ys' ++ [v11],c10,fun y o n1 n2 ey => ?_,by rw [upd_ne rp]; exact g11 _ _ r10,upd_same,p11,?_,?_,fun jj f g hjf' hjg => ?_,fun g hg hgz => ?_⟩
      ·rw [upd_ne n2]
       exact g11 _ _ (b10 y o n1 (b9 y o n1 n2 ey))
      ·rw [List.map_append]
       exact (((hp9.but r9 b10).same g11).but p11 b12).append (.cons (hv11.but p11 b12) .nil)
      ·rw [List.map_append,en,List.take_add_one,hf,List.map_append]
       rfl
      ·by_cases hj : jj < gs.length
       ·rw [List.getElem?_append_left hj] at hjg
        exact gv jj f g hjf' hjg
       ·rw [List.getElem?_append_right (by lia)] at hjg
        have hj2 : jj = j := by
         have := (List.getElem?_eq_some_iff.mp hjg).1
         simp only [List.length_cons,List.length_nil] at this
         lia
        subst hj2
        rw [lg,Nat.sub_self] at hjg
        obtain rfl : (wf',e) = g := by simpa using hjg
        rw [hf] at hjf'
        obtain rfl := Option.some.inj hjf'
        exact fv10
      ·rcases List.mem_append.mp hg with h1 | h1
       ·exact kz g h1 hgz
       ·obtain rfl := List.mem_singleton.mp h1
        exact kz10 hgz
     refine ⟨_,rfl,_,rfl,_,rfl,_,_,_,hd9,rfl,rfl,fun v hv => ?_⟩
     obtain rfl := isStrV hv
     refine ⟨rfl,_,rfl,?_⟩
     by_cases hz : wf' = z
     ·subst hz
      have ed : d = kk := Option.some.inj ((look_at' nd hf).symm.trans lk)
      subst ed
      refine iteN' ?_
      refine ⟨_,rfl,.inl ⟨rfl,_,SqL.of p9⟩,_,rfl,_,rfl,[.str wf',kD key],.cons .str (.cons (hkd _) .nil),(by show 2 ≤ sizeLine; decide),fun v11 H11 g11 hv11 => ?_⟩
      obtain ⟨gs',ys'',c',h1,h2,h3,h4,h5,h6,h7,h8⟩ := done (kD key) (kV key) c9 H9 (But.refl _ _) r9 (hkd _) fvk (fun _ => rfl) v11 H11 g11 hv11
      exact ⟨pp,ys',_,rfl,rfl,h4,small1000 (by lia),gs',ys'',c',_,_,h1,h2,h3,h5,h6,h7,h8,rfl⟩
     ·refine iteY' (strNe hz) ?_
      obtain ⟨v9,h9',hv9⟩ := kv8 wf' d (look_at' nd hf)
      obtain ⟨a9,ct9,ha9,fk9⟩ := gk _ (List.mem_of_getElem? hf)
      refine ⟨_,rfl,_,rfl,_,rfl,p,v9,rfl,.inl ⟨kvs,Sum.inr wf',.inr ⟨ob,b9 _ _ nrp.symm (fun c => by rw [c,pp8] at P8; cases P8) P8⟩,rfl,h9'.symm⟩,?_⟩
      refine ⟨r,c9,a9,ct9,d,v9,ha9,rfl,r9,is_but2 r8 pp8 b9 hv9,fk9,fun v e c10 H10 b10 r10 hv10 fv10 => ?_⟩
      refine ⟨_,rfl,.inl ⟨rfl,_,SqL.of (b10 _ _ rp.symm p9)⟩,_,rfl,_,rfl,[.str wf',e],.cons .str (.cons hv10 .nil),(by show 2 ≤ sizeLine; decide),fun v11 H11 g11 hv11 => ?_⟩
      obtain ⟨gs',ys'',c',h1,h2,h3,h4,h5,h6,h7,h8⟩ := done e v c10 H10 b10 r10 hv10 fv10 (fun c => absurd c hz) v11 H11 g11 hv11
      exact ⟨pp,ys',_,rfl,rfl,h4,small1000 (by lia),gs',ys'',c',_,_,h1,h2,h3,h5,h6,h7,h8,rfl⟩
    ·rintro σ H9 ⟨gs,ys',c9,w7,w8,b9,r9,p9,hp9,en,gv,kz,rfl⟩
     rw [List.length_map,List.length_map,List.take_length] at en
     have f9 : H9 pf = some (.lst ys) := b9 _ _ nrf.symm fp (S8 _ _ f6)
     refine ⟨_,rfl,.inl ⟨rfl,_,SqL.of f9⟩,_,rfl,pp,ys',_,rfl,SqL.of p9,hp9,fun v10 H10 g10 hv10 => ?_⟩
     refine ⟨[.str "record",.tup (gs.map prD)],.cons .str (.cons hv10 .nil),(by show 2 ≤ sizeLine; decide),fun v11 H11 g11 hv11 => ?_⟩
     have f11 := g11 _ _ (g10 _ _ f9)
     have b12 : But pf H11 (upd H11 pf (.lst (ys ++ [v11]))) := But.put
     have ly6 : ys.length = t := by rw [← hp6.length,le6]
     refine ⟨pf,ys,_,rfl,rfl,f11,small1000 (by lia),?_⟩
     refine ⟨its ++ [.tup [.str "record",.tup (gs.map prD)]],ys ++ [v11],c9,_,_,_,_,fun y o n1 n2 ey => ?_,by rw [upd_ne nrf]; exact g11 _ _ (g10 _ _ r9),upd_same,?_,fun v hv => ?_,?_,by rw [List.length_append,le6]; rfl,rfl⟩
     ·rw [upd_ne n2]
      have ey6 := b6 y o n1 n2 ey
      exact g11 _ _ (g10 _ _ (b9 y o n1 (ne_of_none ey6 hpp) (S8 _ _ ey6)))
     ·exact ((((iss_but2 r8 pp8 b9 (hp6.same S8)).same g10).same g11).but f11 b12).append (.cons (hv11.but f11 b12) .nil)
     ·rcases List.mem_append.mp hv with h1 | h1
      ·exact fv6 v h1
      ·obtain rfl := List.mem_singleton.mp h1
       exact .rcd en gv
     ·rw [List.map_append,ke6,List.take_add_one,hkey,List.map_append]
      obtain ⟨e,l1,l2⟩ := look_names en lk
      have l3 := kz _ l2 rfl
      show _ ++ [keyD (.tup [.str "record",.tup (gs.map prD)]) z] = _
      have : keyD (.tup [.str "record",.tup (gs.map prD)]) z = kD key := by
       show (lookD (gs.map prD) z).getD .non = _
       rw [lookD_map,l1]
       exact l3
      rw [this]
      rfl
   ·rintro σ H6 ⟨its,ys,c6,w5,w6,w7,w8,b6,r6,f6,hp6,fv6,ke6,le6,rfl⟩
    refine ⟨_,rfl,pf,ys,_,rfl,SqL.of f6,hp6,fun v7 H7 g7 hv7 => ?_⟩
    refine ⟨[.str "rows",.tup its],.cons .str (.cons hv7 .nil),(by show 2 ≤ sizeLine; decide),fun v8 H8 g8 hv8 => ?_⟩
    have hfH : H pf = none := g1.free hpf
    refine q v8 its c6 H8 (fun y o ny ey => g8 _ _ (g7 _ _ (b6 y o ny (ne_of_none ey hfH) (B5 y o ny (s3 _ _ (SF y o ey)))))) (g8 _ _ (g7 _ _ r6)) hv8 (.rows fv6 ?_ ?_)
    ·rw [le6,List.length_take]
     lia
    ·rw [ke6]
     exact keysFor_asc kfor _
  ·obtain ⟨mst,rfl⟩ : ∃ mst : Int,mst = i := ⟨i,rfl⟩
   have m0 := i0
   have m1 := Int.le_refl mst
   have eP := s3 _ _ eF
   have r3 := s3 _ _ rF
   have hd3 := hdF.same s3
   obtain ⟨vk,h9,hvk⟩ := kvF z kk lk
   refine ⟨_,rfl,_,rfl,_,rfl,_,_,_,hd3,rfl,rfl,fun v hv => ?_⟩
   obtain rfl := isStrV hv
   refine ⟨p,vk,rfl,.inl ⟨kvs,Sum.inr z,.inr ⟨ob,eP⟩,rfl,h9.symm⟩,?_⟩
   refine ⟨r,c,kk,vk,rfl,r3,hvk.same s3,kf,fun pk ks c4 H4 b4 hpk r4 e4 l4 kfor => ?_⟩
   refine ⟨_,rfl,_,rfl,pk,_,rfl,SqL.of e4,fun p5 hp5 => ?_⟩
   rw [cut_to _ _ m0]
   have g5 := same_new hp5 (.lst ((ks.map kV).take mst.toNat))
   have e5 : (upd H4 p5 (.lst ((ks.map kV).take mst.toNat))) p5 = some (.lst ((ks.map kV).take mst.toNat)) := upd_same
   have F4 : H4 pf = some (.lst []) := b4 _ _ nrf.symm (s3 _ _ fF)
   have P4 : H4 p = some (.frz ob (.dK kvs)) := b4 _ _ nrp.symm eP
   have n5r : p5 ≠ r := (ne_of_none r4 hp5).symm
   have n5f : p5 ≠ pf := (ne_of_none F4 hp5).symm
   generalize upd H4 p5 (.lst ((ks.map kV).take mst.toNat)) = H5 at g5 e5 ⊢
   have B5 : But r H3 H5 := b4.trans (But.same g5)
   have P5 := g5 _ _ P4
   have F5 := g5 _ _ F4
   have r5 := g5 _ _ r4
   have hd5 := hd3.but r3 B5
   have kv5 : ∀ w d,lookS fs w = some d → ∃ v,valV kvs (Sum.inr w : Key) = some v ∧ IsP K H5 d v := fun w d e => by
    obtain ⟨v,h1,h2⟩ := kvF w d e
    exact ⟨v,h1,(h2.same s3).but r3 B5⟩
   refine ⟨p5,rfl,⟨_,SqL.of e5⟩,for_list (xs := (ks.map kV).take mst.toNat) (fun t σ H' => ∃ (its : List Dt) (ys : List V) (c' : Int) (w5 w6 w7 w8 : Option V),But2 r pf H5 H' ∧ H' r = some (.lst [.int c']) ∧ H' pf = some (.lst ys) ∧ IsPs K H' its ys ∧ (∀ v ∈ its,FV (.tup [.str "record",.tup (fs.map prD)]) v) ∧ (its.map fun v => keyD v z) = (ks.take t).map kD ∧ its.length = t ∧ σ = [some (.ref r),some x,some (.ref p),some (.ref pf),some (.int mst),w5,w6,w7,w8])
    ⟨[],[],c4,none,none,none,none,But2.refl _ _ _,r5,F5,.nil,(by intro v hv; cases hv),rfl,rfl,rfl⟩ (fun t σ H' _ pv => by
     obtain ⟨_,_,_,_,_,_,_,b,_⟩ := pv
     exact SqL.of (b _ _ n5r n5f e5)) ?_ ?_⟩
   ·rintro t u σ H6 hu ⟨its,ys,c6,w5,w6,w7,w8,b6,r6,f6,hp6,fv6,ke6,le6,rfl⟩
    have hu' : (ks.map kV)[t]? = some u := by
     rw [List.getElem?_take] at hu
     split at hu
     ·exact hu
     ·cases hu
    rw [List.getElem?_map] at hu'
    obtain ⟨key,hkey,rfl⟩ := Option.map_eq_some_iff.mp hu'
    have ht8 : t < ks.length := (List.getElem?_eq_some_iff.mp hkey).1
    have np6 : p ≠ pf := np
    have P6 := b6 _ _ nrp.symm np6 P5
    refine ⟨(by show 0 ≤ sizeLine; decide),fun pp hpp => ?_⟩
    have g7 := same_new hpp (.lst [])
    have rp : r ≠ pp := ne_of_none r6 hpp
    have fp : pf ≠ pp := ne_of_none f6 hpp
    refine ⟨_,rfl,p,kvs,fs.map (·.1),rfl,.inr ⟨ob,g7 _ _ P6⟩,ek',by rw [List.length_map]; lia,fun pn ss' hpn' perm srt => ?_⟩
    obtain rfl := asc_perm (sorted_pw srt (perm.nodup_iff.mpr nd)) asc perm
    have g8 := same_new hpn' (.lst ((fs.map (·.1)).map V.str))
    have e8 : (upd (upd H6 pp (.lst [])) pn (.lst ((fs.map (·.1)).map V.str))) pn = some (.lst ((fs.map (·.1)).map V.str)) := upd_same
    have npn : pn ≠ pp := fun c => by rw [c,upd_same] at hpn'; cases hpn'
    have npr : pn ≠ r := fun c => by rw [c,g7 _ _ r6] at hpn'; cases hpn'
    have pp8 : (upd (upd H6 pp (.lst [])) pn (.lst ((fs.map (·.1)).map V.str))) pp = some (.lst []) := g8 _ _ upd_same
    have S8 : Same H6 (upd (upd H6 pp (.lst [])) pn (.lst ((fs.map (·.1)).map V.str))) := g7.trans g8
    generalize upd (upd H6 pp (.lst [])) pn (.lst ((fs.map (·.1)).map V.str)) = H8 at e8 pp8 S8 g8 ⊢
    have r8 := S8 _ _ r6
    have hd8 := (is_but2 r5 F5 b6 hd5).same S8
    have kv8 : ∀ w d,lookS fs w = some d → ∃ v,valV kvs (Sum.inr w : Key) = some v ∧ IsP K H8 d v := fun w d e => by
     obtain ⟨v,h1,h2⟩ := kv5 w d e
     exact ⟨v,h1,(is_but2 r5 F5 b6 h2).same S8⟩
    have P8 := S8 _ _ P6
    have hkd : ∀ (H' : Hp),IsP K H' (kD key) (kV key) := fun H' => by
     cases key with
     | inl i => exact .int
     | inr s => exact .str
    have fvk : FV kk (kD key) := keysFor_fv kfor (List.mem_of_getElem? hkey)
    refine ⟨pn,rfl,⟨_,SqL.of e8⟩,for_list (xs := (fs.map (·.1)).map V.str) (fun j σ H' => ∃ (gs : List (Str × Dt)) (ys' : List V) (c' : Int) (w7 w8 : Option V),But2 r pp H8 H' ∧ H' r = some (.lst [.int c']) ∧ H' pp = some (.lst ys') ∧ IsPs K H' (gs.map prD) ys' ∧ gs.map (·.1) = (fs.take j).map (·.1) ∧ (∀ (i : Nat) (f g : Str × Dt),fs[i]? = some f → gs[i]? = some g → FV f.2 g.2) ∧ (∀ g ∈ gs,g.1 = z → g.2 = kD key) ∧ σ = [some (.ref r),some x,some (.ref p),some (.ref pf),some (.int mst),some (kV key),some (.ref pp),w7,w8])
     ⟨[],[],c6,_,_,But2.refl _ _ _,r8,pp8,.nil,rfl,(by intro i f g _ e; simp at e),(by intro g hg; cases hg),rfl⟩ (fun j σ H' _ pv => by
      obtain ⟨_,_,_,_,_,b,_⟩ := pv
      exact SqL.of (b _ _ npr npn e8)) ?_ ?_⟩
    ·rintro j un σ H9 hun ⟨gs,ys',c9,w7,w8,b9,r9,p9,hp9,en,gv,kz,rfl⟩
     rw [List.getElem?_map] at hun
     obtain ⟨wf,hwf,rfl⟩ := Option.map_eq_some_iff.mp hun
     rw [List.getElem?_map] at hwf
     obtain ⟨⟨wf',d⟩,hf,rfl⟩ := Option.map_eq_some_iff.mp hwf
     have hjf : j < fs.length := (List.getElem?_eq_some_iff.mp hf).1
     have lg : gs.length = j := by
      have := congrArg List.length en
      simp only [List.length_map,List.length_take] at this
      lia
     have ly : ys'.length = j := by rw [← hp9.length,List.length_map,lg]
     have hd9 := is_but2 r8 pp8 b9 hd8
     have done : ∀ (e : Dt) (v : V) (c10 : Int) (H10 : Hp),But r H9 H10 → H10 r = some (.lst [.int c10]) → IsP K H10 e v → FV d e → (wf' = z → e = kD key) →
       ∀ (v11 : V) (H11 : Hp),Same H10 H11 → IsP K H11 (prD (wf',e)) v11 → ∃ (gs : List (Str × Dt)) (ys'' : List V) (c' : Int),But2 r pp H8 (upd H11 pp (.lst (ys' ++ [v11]))) ∧ (upd H11 pp (.lst (ys' ++ [v11]))) r = some (.lst [.int c']) ∧ (upd H11 pp (.lst (ys' ++ [v11]))) pp = some (.lst ys'') ∧ H11 pp = some (.lst ys') ∧ IsPs K (upd H11 pp (.lst (ys' ++ [v11]))) (gs.map prD) ys'' ∧ gs.map (·.1) = (fs.take (j + 1)).map (·.1) ∧ (∀ (i : Nat) (f g : Str × Dt),fs[i]? = some f → gs[i]? = some g → FV f.2 g.2) ∧ (∀ g ∈ gs,g.1 = z → g.2 = kD key) := by
      intro e v c10 H10 b10 r10 hv10 fv10 kz10 v11 H11 g11 hv11
      have p11 : H11 pp = some (.lst ys') := g11 _ _ (b10 _ _ rp.symm p9)
      have b12 : But pp H11 (upd H11 pp (.lst (ys' ++ [v11]))) := But.put
      refine ⟨gs ++ [(wf',e)],ys' ++ [v11],c10,fun y o n1 n2 ey => ?_,by rw [upd_ne rp]; exact g11 _ _ r10,upd_same,p11,?_,?_,fun jj f g hjf' hjg => ?_,fun g hg hgz => ?_⟩
      ·rw [upd_ne n2]
       exact g11 _ _ (b10 y o n1 (b9 y o n1 n2 ey))
      ·rw [List.map_append]
       exact (((hp9.but r9 b10).same g11).but p11 b12).append (.cons (hv11.but p11 b12) .nil)
      ·rw [List.map_append,en,List.take_add_one,hf,List.map_append]
       rfl
      ·by_cases hj : jj < gs.length
       ·rw [List.getElem?_append_left hj] at hjg
        exact gv jj f g hjf' hjg
       ·rw [List.getElem?_append_right (by lia)] at hjg
        have hj2 : jj = j := by
         have := (List.getElem?_eq_some_iff.mp hjg).1
         simp only [List.length_cons,List.length_nil] at this
         lia
        subst hj2
        rw [lg,Nat.sub_self] at hjg
        obtain rfl : (wf',e) = g := by simpa using hjg
        rw [hf] at hjf'
        obtain rfl := Option.some.inj hjf'
        exact fv10
      ·rcases List.mem_append.mp hg with h1 | h1
       ·exact kz g h1 hgz
       ·obtain rfl := List.mem_singleton.mp h1
        exact kz10 hgz
     refine ⟨_,rfl,_,rfl,_,rfl,_,_,_,hd9,rfl,rfl,fun v hv => ?_⟩
     obtain rfl := isStrV hv
     refine ⟨rfl,_,rfl,?_⟩
     by_cases hz : wf' = z
     ·subst hz
      have ed : d = kk := Option.some.inj ((look_at' nd hf).symm.trans lk)
      subst ed
      refine iteN' ?_
      refine ⟨_,rfl,.inl ⟨rfl,_,SqL.of p9⟩,_,rfl,_,rfl,[.str wf',kD key],.cons .str (.cons (hkd _) .nil),(by show 2 ≤ sizeLine; decide),fun v11 H11 g11 hv11 => ?_⟩
      obtain ⟨gs',ys'',c',h1,h2,h3,h4,h5,h6,h7,h8⟩ := done (kD key) (kV key) c9 H9 (But.refl _ _) r9 (hkd _) fvk (fun _ => rfl) v11 H11 g11 hv11
      exact ⟨pp,ys',_,rfl,rfl,h4,small1000 (by lia),gs',ys'',c',_,_,h1,h2,h3,h5,h6,h7,h8,rfl⟩
     ·refine iteY' (strNe hz) ?_
      obtain ⟨v9,h9',hv9⟩ := kv8 wf' d (look_at' nd hf)
      obtain ⟨a9,ct9,ha9,fk9⟩ := gk _ (List.mem_of_getElem? hf)
      refine ⟨_,rfl,_,rfl,_,rfl,p,v9,rfl,.inl ⟨kvs,Sum.inr wf',.inr ⟨ob,b9 _ _ nrp.symm (fun c => by rw [c,pp8] at P8; cases P8) P8⟩,rfl,h9'.symm⟩,?_⟩
      refine ⟨r,c9,a9,ct9,d,v9,ha9,rfl,r9,is_but2 r8 pp8 b9 hv9,fk9,fun v e c10 H10 b10 r10 hv10 fv10 => ?_⟩
      refine ⟨_,rfl,.inl ⟨rfl,_,SqL.of (b10 _ _ rp.symm p9)⟩,_,rfl,_,rfl,[.str wf',e],.cons .str (.cons hv10 .nil),(by show 2 ≤ sizeLine; decide),fun v11 H11 g11 hv11 => ?_⟩
      obtain ⟨gs',ys'',c',h1,h2,h3,h4,h5,h6,h7,h8⟩ := done e v c10 H10 b10 r10 hv10 fv10 (fun c => absurd c hz) v11 H11 g11 hv11
      exact ⟨pp,ys',_,rfl,rfl,h4,small1000 (by lia),gs',ys'',c',_,_,h1,h2,h3,h5,h6,h7,h8,rfl⟩
    ·rintro σ H9 ⟨gs,ys',c9,w7,w8,b9,r9,p9,hp9,en,gv,kz,rfl⟩
     rw [List.length_map,List.length_map,List.take_length] at en
     have f9 : H9 pf = some (.lst ys) := b9 _ _ nrf.symm fp (S8 _ _ f6)
     refine ⟨_,rfl,.inl ⟨rfl,_,SqL.of f9⟩,_,rfl,pp,ys',_,rfl,SqL.of p9,hp9,fun v10 H10 g10 hv10 => ?_⟩
     refine ⟨[.str "record",.tup (gs.map prD)],.cons .str (.cons hv10 .nil),(by show 2 ≤ sizeLine; decide),fun v11 H11 g11 hv11 => ?_⟩
     have f11 := g11 _ _ (g10 _ _ f9)
     have b12 : But pf H11 (upd H11 pf (.lst (ys ++ [v11]))) := But.put
     have ly6 : ys.length = t := by rw [← hp6.length,le6]
     refine ⟨pf,ys,_,rfl,rfl,f11,small1000 (by lia),?_⟩
     refine ⟨its ++ [.tup [.str "record",.tup (gs.map prD)]],ys ++ [v11],c9,_,_,_,_,fun y o n1 n2 ey => ?_,by rw [upd_ne nrf]; exact g11 _ _ (g10 _ _ r9),upd_same,?_,fun v hv => ?_,?_,by rw [List.length_append,le6]; rfl,rfl⟩
     ·rw [upd_ne n2]
      have ey6 := b6 y o n1 n2 ey
      exact g11 _ _ (g10 _ _ (b9 y o n1 (ne_of_none ey6 hpp) (S8 _ _ ey6)))
     ·exact ((((iss_but2 r8 pp8 b9 (hp6.same S8)).same g10).same g11).but f11 b12).append (.cons (hv11.but f11 b12) .nil)
     ·rcases List.mem_append.mp hv with h1 | h1
      ·exact fv6 v h1
      ·obtain rfl := List.mem_singleton.mp h1
       exact .rcd en gv
     ·rw [List.map_append,ke6,List.take_add_one,hkey,List.map_append]
      obtain ⟨e,l1,l2⟩ := look_names en lk
      have l3 := kz _ l2 rfl
      show _ ++ [keyD (.tup [.str "record",.tup (gs.map prD)]) z] = _
      have : keyD (.tup [.str "record",.tup (gs.map prD)]) z = kD key := by
       show (lookD (gs.map prD) z).getD .non = _
       rw [lookD_map,l1]
       exact l3
      rw [this]
      rfl
   ·rintro σ H6 ⟨its,ys,c6,w5,w6,w7,w8,b6,r6,f6,hp6,fv6,ke6,le6,rfl⟩
    refine ⟨_,rfl,pf,ys,_,rfl,SqL.of f6,hp6,fun v7 H7 g7 hv7 => ?_⟩
    refine ⟨[.str "rows",.tup its],.cons .str (.cons hv7 .nil),(by show 2 ≤ sizeLine; decide),fun v8 H8 g8 hv8 => ?_⟩
    have hfH : H pf = none := g1.free hpf
    refine q v8 its c6 H8 (fun y o ny ey => g8 _ _ (g7 _ _ (b6 y o ny (ne_of_none ey hfH) (B5 y o ny (s3 _ _ (SF y o ey)))))) (g8 _ _ (g7 _ _ r6)) hv8 (.rows fv6 ?_ ?_)
    ·rw [le6,List.length_take]
     lia
    ·rw [ke6]
     exact keysFor_asc kfor _
theorem fk_rcd {a c : Nat} {d : Dt} (h : FK a c d) : ∀ l,d = .tup [.str "record",.tup l] → ∃ gs : List G4,l = (gs.map nk).map prD ∧ (∀ g ∈ gs,FK g.2.2.1 g.2.2.2 g.2.1) ∧ ((gs.map nk).map (·.1)).Pairwise ltS ∧ gs.length ≤ 8 ∧ ∀ g ∈ gs,g.2.2.1 < a := by
 cases h with
 | @rcd gs g asc nm hl =>
  intro l e
  have e' : gs.map prG = l := by simpa using e
  refine ⟨gs,?_,g,?_,hl,fun x hx => ?_⟩
  ·rw [← e',List.map_map]
   rfl
  ·rw [List.map_map]
   exact asc
  ·have := le_max (List.mem_map_of_mem (f := fun g : G4 => g.2.2.1) hx)
   lia
 | _ =>
  intro l e
  simp at e <;> first | exact absurd e.1 (by decide) | exact absurd e (by decide)
theorem key_fk {a c : Nat} {d : Dt} (h : FK a c d) : ∀ w r,d = .tup (.str w :: r) → (w = "number" ∨ w = "text") → KeyFK d := by
 cases h with
 | text i h1 h2 => intro w r _ _; exact .inr ⟨i,rfl,h1,h2⟩
 | number i j h1 h2 h3 => intro w r _ _; exact .inl ⟨i,j,rfl,h1,h2,h3⟩
 | _ =>
  intro w r e hw
  simp at e
  obtain ⟨rfl,_⟩ := e
  rcases hw with h | h <;> exact absurd h (by decide)
theorem ok_law_value (T : Tx K mg) {f fk : Addr} {fd fdk : FuncData} (n : Nat) (D_law_value : Gn K mg "_law_value" s_law_value ["row","kind"] f fd) (D_law_row_values : Gn K mg "_law_row_values" s_law_row_values ["row","kind"] fk fdk)
  (G_law_value : FnOk P w K mg base CX0 (2 * n + 3) f fd ["row","kind"] (svalue K n)) (G_law_row_values : FnOk P w K mg base CX0 (2 * n + 4) fk fdk ["row","kind"] (srowv K n)) : FnOk P w K mg base CX0 (2 * n + 4 + 1) f fd ["row","kind"] (svalue K (n + 1)) := by
 obtain ⟨f_law_digit,fd_law_digit,D_law_digit⟩ := T.law_digit
 have G_law_digit := ok_law_digit (P := P) (w := w) (base := base) T D_law_digit
 obtain ⟨f_law_text,fd_law_text,D_law_text⟩ := T.law_text
 have G_law_text := ok_law_text (P := P) (w := w) (base := base) T D_law_text
 refine D_law_value.F.ok sc_law_value (fun vs H Q E h => ?_) (fun cdv A outer s H vs Q E hr h => ?_)
 ·obtain ⟨r,c,a,ct,d,x,_,rfl,_⟩ := h
  rfl
 obtain ⟨r,c,a,ct,d,x,hm,rfl,hr0,hd,gk,q⟩ := h
 refine ⟨_,(@pss_cons _ _ _ _ _ (@ps_set _ _ 2 _ _ _ _ sc_law_value.nd rfl (Or.inl rfl) (@pe_ix _ _ _ _ _ _ _ (ix_tupPN (K := K) rfl) (pv 1) pe_int (fun _ _ => rfl)) (by rfl) (by first | exact .inl rfl | exact .inr rfl | assumption)) (@pss_cons _ _ _ _ _ (@ps_if _ _ _ _ _ _ _ _ (pt_cmpR op_eq (pv 2) pe_str (nomark _)) (@pss_cons _ _ _ _ _ (@ps_set _ _ 3 _ _ _ _ sc_law_value.nd rfl (Or.inl rfl) (pe_call G_law_digit (hr.mono (by first | decide | lia)) rfl D_law_digit.m D_law_digit.F.kp D_law_digit.b .nil pass0 (@pa_cons _ _ _ _ _ (pv 0) (@pa_cons _ _ _ _ _ pe_int pa_nil (by rfl)) (by rfl))) (by rfl) (by first | exact .inl rfl | exact .inr rfl | assumption)) (@pss_cons _ _ _ _ _ (@ps_if _ _ _ _ _ _ _ _ (pt_cmpR op_lt (pv 3) pe_int (nomark _)) (@pss_one _ _ _ (@ps_ret _ _ _ _ (@pe_ix _ _ _ _ _ _ _ (ix_tupPN (K := K) rfl) (pv 1) (@pe_op _ _ _ _ _ _ _ _ op_add pe_int (pv 3)) (fun _ _ => rfl)))) pss_nil) (@pss_one _ _ _ (@ps_ret _ _ _ _ (@pe_op _ _ _ _ _ _ _ _ op_add (@pe_ix _ _ _ _ _ _ _ (ix_tupPN (K := K) rfl) (pv 1) pe_int (fun _ _ => rfl)) (pe_call G_law_digit (hr.mono (by first | decide | lia)) rfl D_law_digit.m D_law_digit.F.kp D_law_digit.b .nil pass0 (@pa_cons _ _ _ _ _ (pv 0) (@pa_cons _ _ _ _ _ (@pe_op _ _ _ _ _ _ _ _ op_add (@pe_op _ _ _ _ _ _ _ _ op_sub (@pe_ix _ _ _ _ _ _ _ (ix_tupPN (K := K) rfl) (pv 1) pe_int (fun _ _ => rfl)) (@pe_ix _ _ _ _ _ _ _ (ix_tupPN (K := K) rfl) (pv 1) pe_int (fun _ _ => rfl))) pe_int) pa_nil (by rfl)) (by rfl)))))))) pss_nil) (@pss_cons _ _ _ _ _ (@ps_if _ _ _ _ _ _ _ _ (pt_cmpR op_eq (pv 2) pe_str (nomark _)) (@pss_one _ _ _ (@ps_ret _ _ _ _ (pe_call G_law_text (hr.mono (by first | decide | lia)) rfl D_law_text.m D_law_text.F.kp D_law_text.b .nil pass0 (@pa_cons _ _ _ _ _ (pv 0) (@pa_cons _ _ _ _ _ (@pe_ix _ _ _ _ _ _ _ (ix_tupPN (K := K) rfl) (pv 1) pe_int (fun _ _ => rfl)) pa_nil (by rfl)) (by rfl))))) pss_nil) (@pss_cons _ _ _ _ _ (@ps_if _ _ _ _ _ _ _ _ (pt_cmpR op_eq (pv 2) pe_str (nomark _)) (@pss_one _ _ _ (@ps_ret _ _ _ _ (@pe_ix _ _ _ _ _ _ _ (ix_tupPN (K := K) rfl) (@pe_ix _ _ _ _ _ _ _ (ix_tupPN (K := K) rfl) (pv 1) pe_int (fun _ _ => rfl)) (pe_call G_law_digit (hr.mono (by first | decide | lia)) rfl D_law_digit.m D_law_digit.F.kp D_law_digit.b .nil pass0 (@pa_cons _ _ _ _ _ (pv 0) (@pa_cons _ _ _ _ _ (pe_callB (call_lenDN (K := K) rfl) rfl T.z_len PySem.boot_len (@pa_cons _ _ _ _ _ (@pe_ix _ _ _ _ _ _ _ (ix_tupPN (K := K) rfl) (pv 1) pe_int (fun _ _ => rfl)) pa_nil (by rfl))) pa_nil (by rfl)) (by rfl))) (fun _ _ => rfl)))) pss_nil) (@pss_cons _ _ _ _ _ (@ps_if _ _ _ _ _ _ _ _ (pt_cmpR op_eq (pv 2) pe_str (nomark _)) (@pss_cons _ _ _ _ _ (@ps_set _ _ 4 _ _ _ _ sc_law_value.nd rfl (Or.inl rfl) (pe_call G_law_digit (hr.mono (by first | decide | lia)) rfl D_law_digit.m D_law_digit.F.kp D_law_digit.b .nil pass0 (@pa_cons _ _ _ _ _ (pv 0) (@pa_cons _ _ _ _ _ (@pe_op _ _ _ _ _ _ _ _ op_add (@pe_ix _ _ _ _ _ _ _ (ix_tupPN (K := K) rfl) (pv 1) pe_int (fun _ _ => rfl)) pe_int) pa_nil (by rfl)) (by rfl))) (by rfl) (by first | exact .inl rfl | exact .inr rfl | assumption)) (@pss_cons _ _ _ _ _ (@ps_if _ _ _ _ _ _ _ _ (pt_cmpR (op_in_seqK (K := K) rfl) (@pe_ix _ _ _ _ _ _ _ (ix_tupPN (K := K) rfl) (@pe_ix _ _ _ _ _ _ _ (ix_tupPN (K := K) rfl) (pv 1) pe_int (fun _ _ => rfl)) pe_int (fun _ _ => rfl)) (@pe_lst _ _ _ _ (@pa_cons _ _ _ _ _ pe_str (@pa_cons _ _ _ _ _ pe_str (@pa_cons _ _ _ _ _ pe_str pa_nil (by rfl)) (by rfl)) (by rfl))) rfl) (@pss_one _ _ _ (@ps_set _ _ 4 _ _ _ _ sc_law_value.nd rfl (Or.inl rfl) (pe_callB (call_min2 rfl) rfl T.z_min boot_min (@pa_cons _ _ _ _ _ (pv 4) (@pa_cons _ _ _ _ _ pe_int pa_nil (by rfl)) (by rfl))) (by rfl) (by first | exact .inl rfl | exact .inr rfl | assumption))) pss_nil) (@pss_one _ _ _ (@ps_ret _ _ _ _ (@pe_tupPK _ K _ _ _ _ rfl (@pa_cons _ _ _ _ _ pe_str (@pa_cons _ _ _ _ _ (pe_callTy (call_tuplePN (K := K) rfl) rfl T.z_tuple boot_tuple (@pa_cons _ _ _ _ _ (pe_comp rfl (csR (sc := defScope s_law_value) (NL := ["k"]) (N := ["row","kind","word","edge","many"]) (ρ := [0,1]) (N' := ["k","row","kind"]) rfl rfl rfl (by decide +kernel) (by decide +kernel) (by decide +kernel) rfl (by decide +kernel)) (pi_range1 rfl T.z_range (@pa_cons _ _ _ _ _ (pv 4) pa_nil (by rfl))) (fun _ _ _ _ => (pg_name (i := 0) (show List.Nodup (α := Str) ["k","row","kind"] by decide +kernel) rfl (Or.inl rfl))) (fun _ _ _ _ => (pe_call G_law_value (hr.mono (by first | decide | lia)) rfl D_law_value.m D_law_value.F.kp D_law_value.b .nil pass0 (@pa_cons _ _ _ _ _ (pv 1) (@pa_cons _ _ _ _ _ (@pe_ix _ _ _ _ _ _ _ (ix_tupPN (K := K) rfl) (pv 2) pe_int (fun _ _ => rfl)) pa_nil (by rfl)) (by rfl))))) pa_nil (by rfl))) pa_nil (by rfl)) (by rfl))))))) pss_nil) (@pss_cons _ _ _ _ _ (@ps_if _ _ _ _ _ _ _ _ (pt_cmpR op_eq (pv 2) pe_str (nomark _)) (@pss_one _ _ _ (@ps_ret _ _ _ _ (@pe_tupPK _ K _ _ _ _ rfl (@pa_cons _ _ _ _ _ pe_str (@pa_cons _ _ _ _ _ (pe_callTy (call_tuplePN (K := K) rfl) rfl T.z_tuple boot_tuple (@pa_cons _ _ _ _ _ (pe_comp rfl (csR (sc := defScope s_law_value) (NL := ["name","inner"]) (N := ["row","kind","word","edge","many"]) (ρ := [0]) (N' := ["name","inner","row"]) rfl rfl rfl (by decide +kernel) (by decide +kernel) (by decide +kernel) rfl (by decide +kernel)) (pi_tupN (K := K) rfl (@pe_ix _ _ _ _ _ _ _ (ix_tupPN (K := K) rfl) (pv 1) pe_int (fun _ _ => rfl))) (fun _ _ _ _ => (pg_tupK (K := K) (n := 2) rfl rfl (pgs_cons (pg_name (i := 0) (show List.Nodup (α := Str) ["name","inner","row"] by decide +kernel) rfl (Or.inl rfl)) (pgs_cons (pg_name (i := 1) (show List.Nodup (α := Str) ["name","inner","row"] by decide +kernel) rfl (Or.inl rfl)) pgs_nil)))) (fun _ _ _ _ => (pe_tupPK (K := K) rfl (@pa_cons _ _ _ _ _ (pv 0) (@pa_cons _ _ _ _ _ (pe_call G_law_value (hr.mono (by first | decide | lia)) rfl D_law_value.m D_law_value.F.kp D_law_value.b .nil pass0 (@pa_cons _ _ _ _ _ (pv 2) (@pa_cons _ _ _ _ _ (pv 1) pa_nil (by rfl)) (by rfl))) pa_nil (by rfl)) (by rfl))))) pa_nil (by rfl))) pa_nil (by rfl)) (by rfl))))) pss_nil) (@pss_one _ _ _ (@ps_ret _ _ _ _ (pe_call G_law_row_values (hr.mono (by first | decide | lia)) rfl D_law_row_values.m D_law_row_values.F.kp D_law_row_values.b .nil pass0 (@pa_cons _ _ _ _ _ (pv 0) (@pa_cons _ _ _ _ _ (pv 1) pa_nil (by rfl)) (by rfl))))))))))),?_⟩
 cases gk with
 | number i j b1 b2 b3 =>
  refine ⟨_,rfl,_,_,_,hd,rfl,rfl,fun v hv => ?_⟩
  obtain rfl := isStrV hv
  refine ⟨_,rfl,rfl,_,rfl,iteY ?_⟩
  obtain ⟨d0,d1⟩ := mod_lt c (m := 4) (by decide)
  refine ⟨_,rfl,r,c,4,rfl,hr0,by decide,by decide,?_⟩
  have b0 : But r H (upd H r (.lst [.int (c / 4)])) := But.put
  have hd1 := hd.but hr0 b0
  have r1 : (upd H r (.lst [.int (c / 4)])) r = some (.lst [.int (c / 4)]) := upd_same
  generalize upd H r (.lst [.int (c / 4)]) = H1 at b0 hd1 r1 ⊢
  refine ⟨_,rfl,_,_,rfl,rfl,_,rfl,ite2 (fun c1 => ?_) (fun c1 => ?_)⟩
  ·have c1' : c % 4 < 2 := of_decide_eq_true c1
   have at3 : atI [Dt.str "number",.int i,.int j] (1 + c % 4) = some (if c % 4 = 0 then .int i else .int j) := by
    rcases (show c % 4 = 0 ∨ c % 4 = 1 by lia) with e | e <;> rw [e] <;> rfl
   refine ⟨_,rfl,_,rfl,_,_,rfl,rfl,_,_,_,hd1,rfl,at3,fun v hv => ?_⟩
   by_cases e : c % 4 = 0
   ·rw [if_pos e] at hv
    exact q v _ _ H1 b0 r1 hv (.number (Int.le_refl _) b2)
   ·rw [if_neg e] at hv
    exact q v _ _ H1 b0 r1 hv (.number b2 (Int.le_refl _))
  ·refine ⟨_,rfl,_,_,_,hd1,rfl,rfl,fun v hv => ?_⟩
   obtain rfl := isIntV hv
   refine ⟨_,rfl,_,rfl,_,_,_,hd1,rfl,rfl,fun v hv => ?_⟩
   obtain rfl := isIntV hv
   refine ⟨_,rfl,_,_,_,hd1,rfl,rfl,fun v hv => ?_⟩
   obtain rfl := isIntV hv
   obtain ⟨e0,e1⟩ := mod_lt (c / 4) (m := j - i + 1) (by lia)
   refine ⟨_,_,rfl,rfl,_,_,rfl,rfl,r,c / 4,_,rfl,r1,by lia,by lia,_,_,rfl,rfl,?_⟩
   exact q _ _ _ _ (b0.trans But.put) upd_same .int (.number (by lia) (by lia))
 | text i b1 b2 =>
  refine ⟨_,rfl,_,_,_,hd,rfl,rfl,fun v hv => ?_⟩
  obtain rfl := isStrV hv
  refine ⟨_,rfl,rfl,_,rfl,iteN (strNe (by decide)) ?_⟩
  refine ⟨_,rfl,rfl,_,rfl,iteY ?_⟩
  refine ⟨_,rfl,_,rfl,_,_,_,hd,rfl,rfl,fun v hv => ?_⟩
  obtain rfl := isIntV hv
  exact ⟨r,c,i,rfl,hr0,b1,b2,fun z c' H' b e h1 h2 => q _ _ c' H' b e .str (.text h1 h2)⟩
 | choice ws hw =>
  refine ⟨_,rfl,_,_,_,hd,rfl,rfl,fun v hv => ?_⟩
  obtain rfl := isStrV hv
  refine ⟨_,rfl,rfl,_,rfl,iteN (strNe (by decide)) ?_⟩
  refine ⟨_,rfl,rfl,_,rfl,iteN (strNe (by decide)) ?_⟩
  refine ⟨_,rfl,rfl,_,rfl,iteY ?_⟩
  have hw1 : 1 ≤ ws.length ∧ ws.length ≤ 8 := by
   unfold wordsB at hw
   simp only [Bool.and_eq_true,decide_eq_true_eq] at hw
   lia
  refine ⟨_,rfl,_,_,_,hd,rfl,rfl,fun v1 hv1 => ?_⟩
  refine ⟨_,rfl,_,rfl,_,_,_,hd,rfl,rfl,fun v2 hv2 => ?_⟩
  obtain ⟨d0,d1⟩ := mod_lt c (m := ((ws.map Dt.str).length : Int)) (by rw [List.length_map]; lia)
  obtain ⟨e,me,ee⟩ := pick (xs := ws.map Dt.str) d0 d1
  obtain ⟨z,hz,rfl⟩ := List.mem_map.mp me
  exact ⟨v2,_,rfl,hv2.d,r,c,_,rfl,hr0,by rw [List.length_map]; lia,by rw [List.length_map]; lia,_,_,_,hv1.but hr0 But.put,rfl,ee,fun v hv => q v _ _ _ But.put upd_same hv (.choice hz)⟩
 | @list a' c'' k i g b1 b2 =>
  refine ⟨_,rfl,_,_,_,hd,rfl,rfl,fun v hv => ?_⟩
  obtain rfl := isStrV hv
  refine ⟨_,rfl,rfl,_,rfl,iteN (strNe (by decide)) ?_⟩
  refine ⟨_,rfl,rfl,_,rfl,iteN (strNe (by decide)) ?_⟩
  refine ⟨_,rfl,rfl,_,rfl,iteN (strNe (by decide)) ?_⟩
  refine ⟨_,rfl,rfl,_,rfl,iteY ?_⟩
  refine ⟨_,rfl,_,rfl,_,_,_,hd,rfl,rfl,fun v hv => ?_⟩
  obtain rfl := isIntV hv
  obtain ⟨d0,d1⟩ := mod_lt c (m := i + 1) (by lia)
  refine ⟨_,_,rfl,rfl,r,c,_,rfl,hr0,by lia,by lia,?_⟩
  have b0 : But r H (upd H r (.lst [.int (c / (i + 1))])) := But.put
  have r0 : (upd H r (.lst [.int (c / (i + 1))])) r = some (.lst [.int (c / (i + 1))]) := upd_same
  generalize upd H r (.lst [.int (c / (i + 1))]) = H0 at b0 r0 ⊢
  have hd0 := hd.but hr0 b0
  obtain ⟨w',rest,ed⟩ := fk_head g
  have at1 : atI (Dt.str w' :: rest) ((0 : Nat) : Int) = some (.str w') := atI_nat (by simp)
  refine ⟨_,rfl,_,_,_,hd0,rfl,rfl,fun v1 hv1 => ?_⟩
  have hv1' : IsP K H0 (.tup (.str w' :: rest)) v1 := ed ▸ hv1
  refine ⟨_,_,_,hv1',rfl,at1,fun v hv => ?_⟩
  obtain rfl := isStrV hv
  refine ⟨(by show 3 ≤ sizeLine; decide),fun p4 hp4 => ?_⟩
  have g4 := same_new hp4 (.lst [.str "list",.str "rows",.str "record"])
  have BL : But r H (upd H0 p4 (.lst [.str "list",.str "rows",.str "record"])) := b0.trans (But.same g4)
  have rL := g4 _ _ r0
  refine ⟨p4,_,rfl,.inl (SqL.of upd_same),rfl,rfl,_,rfl,?_⟩
  generalize upd H0 p4 (.lst [.str "list",.str "rows",.str "record"]) = HL at BL rL ⊢
  refine ite2 (fun _ => ?_) (fun _ => ?_)
  ·refine ⟨_,rfl,_,_,rfl,?_⟩
   obtain ⟨m0,m1⟩ : (0 : Int) ≤ (if 2 < c % (i + 1) then 2 else c % (i + 1)) ∧ (if 2 < c % (i + 1) then 2 else c % (i + 1)) ≤ i := by split <;> lia
   generalize (if (2 : Int) < c % (i + 1) then (2 : Int) else c % (i + 1)) = mst at m0 m1 ⊢
   refine ⟨_,rfl,?_⟩
   refine ⟨_,rfl,by lia,by lia,fun l hln => ?_⟩
   have nlr : r ≠ l := ne_of_none rL hln
   have lH : H l = none := by
    cases e' : H l with
    | none => rfl
    | some o => rw [BL l o nlr.symm e'] at hln; cases hln
   refine comp_rangeR (lo := 0) (n := mst.toNat) (fun j ys σ H' => ∃ (es : List Dt) (c' : Int),But r H H' ∧ H' r = some (.lst [.int c']) ∧ H' l = some (.lst ys) ∧ IsPs K H' es ys ∧ ys.length = j ∧ (∀ e ∈ es,FV k e) ∧ ∃ v1,σ = [v1,some (.ref r),some x])
    ⟨[],_,BL.trans (But.same (same_new hln _)),(by rw [upd_ne nlr]; exact rL),upd_same,.nil,rfl,(by intro e he; cases he),none,rfl⟩ ?_ ?_
   ·rintro j ys σ H1 N hj ⟨es,c',b1,e1,e2,hp,hle,gv,v1,rfl⟩ next
    have hd1 := hd.but hr0 b1
    refine ⟨_,rfl,_,rfl,_,_,_,hd1,rfl,rfl,fun v5 hv5 => ?_⟩
    refine ⟨r,c',a',c'',k,v5,by lia,rfl,e1,hv5,g,fun v e c2 H2 b2 e3 hv2 g2 => ?_⟩
    have f2 := b2 _ _ nlr.symm e2
    have b5 : But l H2 (upd H2 l (.lst (ys ++ [v]))) := But.put
    refine ⟨f2,small1000 (by lia),next _ _ _ ⟨es ++ [e],c2,fun x o nx ex => ?_,?_,upd_same,?_,?_,fun e' he => ?_,_,rfl⟩⟩
    ·rw [upd_ne (ne_of_none ex lH)]
     exact b2 x o nx (b1 x o nx ex)
    ·rw [upd_ne nlr]
     exact e3
    ·exact ((hp.but e1 b2).but f2 b5).append (.cons (hv2.but f2 b5) .nil)
    ·rw [List.length_append,hle]; rfl
    ·rcases List.mem_append.mp he with h1 | h1
     ·exact gv e' h1
     ·obtain rfl := List.mem_singleton.mp h1
      exact g2
   ·rintro ys σ H1 ⟨es,c',b1,e1,e2,hp,hle,gv,v1,rfl⟩
    refine ⟨l,ys,_,rfl,SqL.of e2,hp,fun v2 H2 g2 hv2 => ?_⟩
    refine ⟨[.str "list",.tup es],.cons .str (.cons hv2 .nil),(by show 2 ≤ sizeLine; decide),fun v H3 g3 hv => ?_⟩
    refine q v _ c' H3 ((b1.trans (But.same g2)).trans (But.same g3)) (g3 _ _ (g2 _ _ e1)) hv (.list gv ?_)
    rw [hp.length,hle]
    lia
  ·have m1 : c % (i + 1) ≤ i := by lia
   generalize c % (i + 1) = mst at d0 m1 ⊢
   refine ⟨_,rfl,?_⟩
   refine ⟨_,rfl,by lia,by lia,fun l hln => ?_⟩
   have nlr : r ≠ l := ne_of_none rL hln
   have lH : H l = none := by
    cases e' : H l with
    | none => rfl
    | some o => rw [BL l o nlr.symm e'] at hln; cases hln
   refine comp_rangeR (lo := 0) (n := mst.toNat) (fun j ys σ H' => ∃ (es : List Dt) (c' : Int),But r H H' ∧ H' r = some (.lst [.int c']) ∧ H' l = some (.lst ys) ∧ IsPs K H' es ys ∧ ys.length = j ∧ (∀ e ∈ es,FV k e) ∧ ∃ v1,σ = [v1,some (.ref r),some x])
    ⟨[],_,BL.trans (But.same (same_new hln _)),(by rw [upd_ne nlr]; exact rL),upd_same,.nil,rfl,(by intro e he; cases he),none,rfl⟩ ?_ ?_
   ·rintro j ys σ H1 N hj ⟨es,c',b1,e1,e2,hp,hle,gv,v1,rfl⟩ next
    have hd1 := hd.but hr0 b1
    refine ⟨_,rfl,_,rfl,_,_,_,hd1,rfl,rfl,fun v5 hv5 => ?_⟩
    refine ⟨r,c',a',c'',k,v5,by lia,rfl,e1,hv5,g,fun v e c2 H2 b2 e3 hv2 g2 => ?_⟩
    have f2 := b2 _ _ nlr.symm e2
    have b5 : But l H2 (upd H2 l (.lst (ys ++ [v]))) := But.put
    refine ⟨f2,small1000 (by lia),next _ _ _ ⟨es ++ [e],c2,fun x o nx ex => ?_,?_,upd_same,?_,?_,fun e' he => ?_,_,rfl⟩⟩
    ·rw [upd_ne (ne_of_none ex lH)]
     exact b2 x o nx (b1 x o nx ex)
    ·rw [upd_ne nlr]
     exact e3
    ·exact ((hp.but e1 b2).but f2 b5).append (.cons (hv2.but f2 b5) .nil)
    ·rw [List.length_append,hle]; rfl
    ·rcases List.mem_append.mp he with h1 | h1
     ·exact gv e' h1
     ·obtain rfl := List.mem_singleton.mp h1
      exact g2
   ·rintro ys σ H1 ⟨es,c',b1,e1,e2,hp,hle,gv,v1,rfl⟩
    refine ⟨l,ys,_,rfl,SqL.of e2,hp,fun v2 H2 g2 hv2 => ?_⟩
    refine ⟨[.str "list",.tup es],.cons .str (.cons hv2 .nil),(by show 2 ≤ sizeLine; decide),fun v H3 g3 hv => ?_⟩
    refine q v _ c' H3 ((b1.trans (But.same g2)).trans (But.same g3)) (g3 _ _ (g2 _ _ e1)) hv (.list gv ?_)
    rw [hp.length,hle]
    lia
 | @rcd gs g asc nm hl =>
  refine ⟨_,rfl,_,_,_,hd,rfl,rfl,fun v hv => ?_⟩
  obtain rfl := isStrV hv
  refine ⟨_,rfl,rfl,_,rfl,iteN (strNe (by decide)) ?_⟩
  refine ⟨_,rfl,rfl,_,rfl,iteN (strNe (by decide)) ?_⟩
  refine ⟨_,rfl,rfl,_,rfl,iteN (strNe (by decide)) ?_⟩
  refine ⟨_,rfl,rfl,_,rfl,iteN (strNe (by decide)) ?_⟩
  refine ⟨_,rfl,rfl,_,rfl,iteY ?_⟩
  obtain ⟨fs,efs⟩ : ∃ fs : List (Str × Dt),fs = gs.map nk := ⟨_,rfl⟩
  have ep : gs.map prG = fs.map prD := by rw [efs,List.map_map]; rfl
  rw [ep] at hd q
  have gk : ∀ f ∈ fs,∃ a ct,a ≤ n ∧ FK a ct f.2 := fun f hf => by
   rw [efs] at hf
   obtain ⟨x,hx,rfl⟩ := List.mem_map.mp hf
   have := le_max (List.mem_map_of_mem (f := fun g : G4 => g.2.2.1) hx)
   exact ⟨_,_,by lia,g x hx⟩
  have hl8 : fs.length ≤ 8 := by rw [efs,List.length_map]; exact hl
  refine ⟨_,rfl,_,_,_,hd,rfl,rfl,fun v hv => ?_⟩
  obtain ⟨aa,xs,rfl,ha,pa,ra⟩ := hv.unref
  have el := ra.length
  rw [List.length_map] at el
  have nar : aa ≠ r := by
   obtain ⟨o,u,e,_⟩ := pa
   exact ne_of e hr0 (by intro c; cases c)
  refine ⟨aa,rfl,⟨xs,ha⟩,fun l hln => ?_⟩
  have nlr : r ≠ l := ne_of_none hr0 hln
  refine comp_tupR (K := K) (xs := xs) (fun i ys σ H' => ∃ (gs : List (Str × Dt)) (c' : Int),But r H H' ∧ H' r = some (.lst [.int c']) ∧ H' l = some (.lst ys) ∧ IsPs K H' (gs.map prD) ys ∧ gs.map (·.1) = (fs.take i).map (·.1) ∧ (∀ (i : Nat) (f g : Str × Dt),fs[i]? = some f → gs[i]? = some g → FV f.2 g.2) ∧ ∃ v1 v2,σ = [v1,v2,some (.ref r)])
   ⟨[],c,But.same (same_new hln _),(by rw [upd_ne nlr]; exact hr0),upd_same,.nil,rfl,(by intro i f g _ e; simp at e),none,none,rfl⟩ (fun i ys σ H' _ p => by
    obtain ⟨_,_,b,_⟩ := p
    exact b.tup nar ha) ?_ ?_
  ·rintro i u ys σ H1 N hu ⟨gs',c',b1,e1,e2,hp,en,gv,v1,v2,rfl⟩ next
   have hi : i < fs.length := by
    rw [el]
    exact (List.getElem?_eq_some_iff.mp hu).1
   obtain ⟨e,he,hx⟩ := ra.get' hu
   rw [List.getElem?_map] at he
   obtain ⟨⟨w',d'⟩,hf,rfl⟩ := Option.map_eq_some_iff.mp he
   have lg : gs'.length = i := by
    have := congrArg List.length en
    simp only [List.length_map,List.length_take] at this
    lia
   have ly : ys.length = i := by rw [← hp.length,List.length_map,lg]
   obtain ⟨b,zs,rfl,hb,pb,rb⟩ := hx.unref
   have nbr : b ≠ r := by
    obtain ⟨o,u,e,_⟩ := pb
    exact ne_of e hr0 (by intro c; cases c)
   cases rb with
   | cons r1 rb =>
    cases rb with
    | @cons _ _ y2 _ r2 rb =>
     cases rb
     obtain rfl := isStrV r1
     obtain ⟨a9,ct9,ha9,fk9⟩ := gk _ (List.mem_of_getElem? hf)
     refine ⟨b,_,rfl,b1.tup nbr hb,rfl,_,_,rfl,_,_,rfl,rfl,?_⟩
     refine ⟨_,rfl,_,rfl,_,rfl,r,c',a9,ct9,d',y2,ha9,rfl,e1,r2.but hr0 b1,fk9,fun v e c2 H2 b2 e3 hv2 g2 => ?_⟩
     refine ⟨[.str w',e],.cons .str (.cons hv2 .nil),(by show 2 ≤ sizeLine; decide),fun v4 H4 g4 hv4 => ?_⟩
     have f2 := b2 _ _ nlr.symm e2
     have f4 := g4 _ _ f2
     have b5 : But l H4 (upd H4 l (.lst (ys ++ [v4]))) := But.put
     refine ⟨f4,small1000 (by lia),next _ _ _ ⟨gs' ++ [(w',e)],c2,fun x o nx ex => ?_,?_,upd_same,?_,?_,fun j f g hjf hjg => ?_,_,_,rfl⟩⟩
     ·rw [upd_ne (ne_of_none ex hln)]
      exact g4 _ _ (b2 x o nx (b1 x o nx ex))
     ·rw [upd_ne nlr]
      exact g4 _ _ e3
     ·rw [List.map_append]
      exact (((hp.but e1 b2).same g4).but f4 b5).append (.cons (hv4.but f4 b5) .nil)
     ·rw [List.map_append,en,List.take_add_one,hf,List.map_append]
      rfl
     ·by_cases hj : j < gs'.length
      ·rw [List.getElem?_append_left hj] at hjg
       exact gv j f g hjf hjg
      ·rw [List.getElem?_append_right (by lia)] at hjg
       have hj2 : j = i := by
        have := (List.getElem?_eq_some_iff.mp hjg).1
        simp only [List.length_cons,List.length_nil] at this
        lia
       subst hj2
       rw [lg,Nat.sub_self] at hjg
       obtain rfl : (w',e) = g := by simpa using hjg
       rw [hf] at hjf
       obtain rfl := Option.some.inj hjf
       exact g2
  ·rintro ys σ H1 ⟨gs',c',b1,e1,e2,hp,en,gv,v1,v2,rfl⟩
   refine ⟨l,ys,_,rfl,SqL.of e2,hp,fun v2 H2 g2 hv2 => ?_⟩
   refine ⟨[.str "record",.tup (List.map prD gs')],.cons .str (.cons hv2 .nil),(by show 2 ≤ sizeLine; decide),fun v H3 g3 hv => ?_⟩
   refine q v _ c' H3 ((b1.trans (But.same g2)).trans (But.same g3)) (g3 _ _ (g2 _ _ e1)) hv (.rcd ?_ gv)
   rw [en,← el,List.take_length]
 | @rows a' c'' z l i g kl b1 b2 =>
  refine ⟨_,rfl,_,_,_,hd,rfl,rfl,fun v hv => ?_⟩
  obtain rfl := isStrV hv
  refine ⟨_,rfl,rfl,_,rfl,iteN (strNe (by decide)) ?_⟩
  refine ⟨_,rfl,rfl,_,rfl,iteN (strNe (by decide)) ?_⟩
  refine ⟨_,rfl,rfl,_,rfl,iteN (strNe (by decide)) ?_⟩
  refine ⟨_,rfl,rfl,_,rfl,iteN (strNe (by decide)) ?_⟩
  refine ⟨_,rfl,rfl,_,rfl,iteN (strNe (by decide)) ?_⟩
  obtain ⟨gs,rfl,fg,asc,hl,lt⟩ := fk_rcd g l rfl
  obtain ⟨w',rr,hm',hw⟩ := kl
  obtain ⟨f0,hf0,ef0⟩ := List.mem_map.mp hm'
  obtain ⟨g0,hg0,rfl⟩ := List.mem_map.mp hf0
  have ez : g0.1 = z ∧ g0.2.1 = .tup (.str w' :: rr) := by simpa [prD] using ef0
  obtain ⟨j0,hj0⟩ := List.mem_iff_getElem?.mp hf0
  have lk : lookS (gs.map nk) z = some g0.2.1 := look_at' (lt_nodup asc) (by rw [hj0,← ez.1])
  refine ⟨_,rfl,_,rfl,r,c,i,z,gs.map nk,g0.2.1,x,rfl,hr0,hd,fun f hf => ?_,asc,by rw [List.length_map]; exact hl,lk,key_fk (fg g0 hg0) w' rr ez.2 hw,b1,b2,fun v vs' c' H' b e hv fv => q v _ c' H' b e hv fv⟩
  obtain ⟨x',hx',rfl⟩ := List.mem_map.mp hf
  have := lt x' hx'
  exact ⟨_,_,by lia,fg x' hx'⟩
theorem vals_all (T : Tx K mg) {f fk : Addr} {fd fdk : FuncData} (V : Gn K mg "_law_value" s_law_value ["row","kind"] f fd) (R : Gn K mg "_law_row_values" s_law_row_values ["row","kind"] fk fdk) : FnOk P w K mg base CX0 13 f fd ["row","kind"] (svalue K 5) := by
 have v0 : FnOk P w K mg base CX0 (2 * 0 + 3) f fd ["row","kind"] (svalue K 0) := fn_none fun vs H Q E z => by
  obtain ⟨_,_,a,_,_,_,e,_,_,_,g,_⟩ := z
  have := g.pos
  lia
 have p0 := ok_law_row_values T 0 R V v0
 have v1 := ok_law_value T 0 V R v0 p0
 have p1 := ok_law_row_values T 1 R V v1
 have v2 := ok_law_value T 1 V R v1 p1
 have p2 := ok_law_row_values T 2 R V v2
 have v3 := ok_law_value T 2 V R v2 p2
 have p3 := ok_law_row_values T 3 R V v3
 have v4 := ok_law_value T 3 V R v3 p3
 have p4 := ok_law_row_values T 4 R V v4
 exact ok_law_value T 4 V R v4 p4
noncomputable def sp_field_of (K : PySem.W.Frag) : Sp := fun vs H Q _ => ∃ (gs : List (Str × Dt)) (z : Str) (e : Dt) (x : V),vs = [x,.str z] ∧ IsP K H (.tup [.str "record",.tup (gs.map prD)]) x ∧ lookS gs z = some e ∧ ∀ v,IsP K H e v → Q v H
theorem look_here {z : Str} {d : Dt} : ∀ {fs : List (Str × Dt)} {i : Nat},fs[i]? = some (z,d) → (∀ j f,j < i → fs[j]? = some f → f.1 ≠ z) → lookS fs z = some d
 | [],i,h,_ => by simp at h
 | f :: fs,0,h,_ => by
  obtain rfl : f = (z,d) := by simpa using h
  simp [lookS]
 | f :: fs,i + 1,h,pre => by
  have hz : ¬ f.1 = z := pre 0 f (Nat.succ_pos _) rfl
  have h2 : fs[i]? = some (z,d) := by simpa using h
  have e : lookS (f :: fs) z = lookS fs z := by simp [lookS,hz]
  rw [e]
  exact look_here h2 fun j g hj hg => pre (j + 1) g (Nat.succ_lt_succ hj) (by simpa using hg)
theorem look_no {z : Str} : ∀ {fs : List (Str × Dt)},(∀ f ∈ fs,f.1 ≠ z) → lookS fs z = none
 | [],_ => by simp [lookS]
 | f :: fs,h => by
  have hz : ¬ f.1 = z := h f List.mem_cons_self
  have e : lookS (f :: fs) z = lookS fs z := by simp [lookS,hz]
  rw [e]
  exact look_no fun g hg => h g (List.mem_cons_of_mem _ hg)
theorem ok_field_of (T : Tx K mg) {f : Addr} {fd : FuncData} (F : Gn K mg "field_of" s_field_of ["record","name"] f fd) : FnOk P w K mg base CX0 1 f fd ["record","name"] (sp_field_of K) := by
 refine F.F.ok sc_field_of (fun vs H Q E h => ?_) (fun cdv A outer s H vs Q E hr h => ?_)
 ·obtain ⟨gs,z,e,x,rfl,_⟩ := h
  rfl
 obtain ⟨gs,z,e0,x,rfl,hd,lk,q⟩ := h
 refine ⟨_,(@pss_cons _ _ _ _ _ (ps_for PassesOwn.never rfl (pi_tupN (K := K) rfl (@pe_ix _ _ _ _ _ _ _ (ix_tupPN (K := K) rfl) (pv 0) pe_int (fun _ _ => rfl))) (pg_tup rfl (pgs_cons (pg_name (i := 2) sc_field_of.nd rfl (Or.inl rfl)) (pgs_cons (pg_name (i := 3) sc_field_of.nd rfl (Or.inl rfl)) pgs_nil)))
    (@pss_one _ _ _ (@ps_if _ _ _ _ _ _ _ _ (pt_cmpR op_eq (pv 2) (pv 1) (nomark _)) (@pss_one _ _ _ (@ps_ret _ _ _ _ (pv 3))) pss_nil))) (@pss_one _ _ _ (@ps_ret _ _ _ _ pe_non))),?_⟩
 refine ⟨_,rfl,_,_,_,hd,rfl,rfl,fun v hv => ?_⟩
 obtain ⟨a,xs,rfl,ha,pa,ra⟩ := hv.unref
 have el := ra.length
 rw [List.length_map] at el
 refine ⟨a,rfl,⟨xs,ha⟩,for_tup (xs := xs) (fun i σ H' => H' = H ∧ (∀ j f,j < i → gs[j]? = some f → f.1 ≠ z) ∧ ∃ v1 v2,σ = [some x,some (.str z),v1,v2]) ⟨rfl,fun j f hj => absurd hj (Nat.not_lt_zero _),_,_,rfl⟩ (fun i σ H' _ p => p.1 ▸ ha) ?_ ?_⟩
 ·rintro i y σ H' hy ⟨rfl,pre,v1,v2,rfl⟩
  obtain ⟨e,he,hp⟩ := ra.get' hy
  rw [List.getElem?_map] at he
  obtain ⟨⟨w,e'⟩,hf,rfl⟩ := Option.map_eq_some_iff.mp he
  obtain ⟨b,ys,rfl,hb,pb,rb⟩ := hp.unref
  cases rb with
  | cons r1 rb =>
   cases rb with
   | @cons _ _ y2 _ r2 rb =>
    cases rb
    obtain rfl := isStrV r1
    refine ⟨b,_,rfl,hb,rfl,_,_,rfl,_,_,rfl,rfl,?_⟩
    refine ⟨_,rfl,_,rfl,rfl,_,rfl,?_⟩
    by_cases hz : w = z
    ·subst hz
     rw [look_here hf pre] at lk
     obtain rfl := Option.some.inj lk
     exact iteY ⟨_,rfl,q _ r2⟩
    ·refine iteN (strNe hz) ⟨rfl,fun j f hj hjf => ?_,_,_,rfl⟩
     rcases Nat.lt_succ_iff_lt_or_eq.mp hj with h1 | h1
     ·exact pre j f h1 hjf
     ·subst h1
      rw [hf] at hjf
      obtain rfl := Option.some.inj hjf
      exact hz
 ·rintro σ H' ⟨rfl,pre,v1,v2,rfl⟩
  rw [look_no (fun f hf => by
   obtain ⟨j,hj,e⟩ := List.mem_iff_getElem.mp hf
   exact pre j f (by lia) (by rw [List.getElem?_eq_getElem hj,e]))] at lk
  cases lk
theorem ins_perm {α : Type} (l : List α) (n : Nat) (y : α) : (l.take n ++ y :: l.drop n).Perm (y :: l) := by
 refine List.perm_middle.trans ?_
 rw [List.take_append_drop]
noncomputable def sp_law_pool (K : PySem.W.Frag) : Sp := fun vs H Q _ => ∃ (r : Addr) (c : Int),vs = [.ref r] ∧ H r = some (.lst [.int c]) ∧ ∀ (p : Addr) (c' : Int) (H' : Hp) (ss : List Str),But r H H' → H p = none → H' r = some (.lst [.int c']) → H' p = some (.lst (ss.map V.str)) → ss.length = 8 → ss.Nodup → Q (.ref p) H'
theorem ok_law_pool (T : Tx K mg) {f : Addr} {fd : FuncData} (F : Gn K mg "_law_pool" s_law_pool ["row"] f fd) : FnOk P w K mg base CX0 3 f fd ["row"] (sp_law_pool K) := by
 obtain ⟨f_law_names,fd_law_names,D_law_names⟩ := T.law_names
 have G_law_names := ok_law_names (P := P) (w := w) (base := base) T D_law_names
 obtain ⟨f_law_digit,fd_law_digit,D_law_digit⟩ := T.law_digit
 have G_law_digit := ok_law_digit (P := P) (w := w) (base := base) T D_law_digit
 refine F.F.ok sc_law_pool (fun vs H Q E h => ?_) (fun cdv A outer s H vs Q E hr h => ?_)
 ·obtain ⟨r,c,rfl,_⟩ := h
  rfl
 obtain ⟨r,c,rfl,hr0,q⟩ := h
 refine ⟨_,(@pss_cons _ _ _ _ _ (@ps_set _ _ 1 _ _ _ _ sc_law_pool.nd rfl (Or.inl rfl) (pe_call G_law_names (hr.mono (by first | decide | lia)) rfl D_law_names.m D_law_names.F.kp D_law_names.b .nil pass0 (@pa_cons _ _ _ _ _ (pv 0) (@pa_cons _ _ _ _ _ pe_int pa_nil (by rfl)) (by rfl))) (by rfl) (by first | exact .inl rfl | exact .inr rfl | assumption)) (@pss_cons _ _ _ _ _ (@ps_set _ _ 2 _ _ _ _ sc_law_pool.nd rfl (Or.inl rfl) (@pe_lst _ _ _ _ pa_nil) (by rfl) (by first | exact .inl rfl | exact .inr rfl | assumption)) (@pss_cons _ _ _ _ _ (ps_for PassesOwn.never rfl (pi_listN (K := K) rfl (pv 1)) (pg_name (i := 3) sc_law_pool.nd rfl (Or.inl rfl))
    (@pss_one _ _ _ (@ps_expr _ _ _ _ (pe_bm PySem.F.plainAttrs_list PySem.F.slot_list_insert PySem.F.type_list_insert mt_insert (pv 2) (@pa_cons _ _ _ _ _ (pe_call G_law_digit (hr.mono (by first | decide | lia)) rfl D_law_digit.m D_law_digit.F.kp D_law_digit.b .nil pass0 (@pa_cons _ _ _ _ _ (pv 0) (@pa_cons _ _ _ _ _ (@pe_op _ _ _ _ _ _ _ _ op_add (pe_callB (call_len_seqN (K := K) rfl) rfl T.z_len PySem.boot_len (@pa_cons _ _ _ _ _ (pv 2) pa_nil (by rfl))) pe_int) pa_nil (by rfl)) (by rfl))) (@pa_cons _ _ _ _ _ (pv 3) pa_nil (by rfl)) (by rfl))) (by rfl)))) (@pss_one _ _ _ (@ps_ret _ _ _ _ (pv 2)))))),?_⟩
 refine ⟨_,rfl,r,c,8,rfl,hr0,by decide,fun pn ss c2 H2 b2 hpn r2 n2 nam => ?_⟩
 have nrn : r ≠ pn := ne_of_none hr0 hpn
 refine ⟨(by show 0 ≤ sizeLine; decide),fun pf hpf => ?_⟩
 have nrf : r ≠ pf := ne_of_none r2 hpf
 have nfn : pf ≠ pn := (ne_of_none n2 hpf).symm
 have hfH : H pf = none := by
  cases e : H pf with
  | none => rfl
  | some o => rw [b2 _ _ nrf.symm e] at hpf; cases hpf
 have lss : ss.length = 8 := nam.len
 refine ⟨_,rfl,pn,rfl,⟨_,SqL.of (by rw [upd_ne nfn.symm]; exact n2)⟩,for_list (xs := ss.map V.str) (fun i σ H' => ∃ (zs : List Str) (c' : Int) (v3 : Option V),But r H H' ∧ H' r = some (.lst [.int c']) ∧ H' pf = some (.lst (zs.map V.str)) ∧ H' pn = some (.lst (ss.map V.str)) ∧ zs.Perm (ss.take i) ∧ σ = [some (.ref r),some (.ref pn),some (.ref pf),v3])
  ⟨[],c2,none,b2.trans (But.same (same_new hpf _)),(by rw [upd_ne nrf]; exact r2),upd_same,(by rw [upd_ne nfn.symm]; exact n2),List.Perm.refl _,rfl⟩ (fun i σ H' _ pv => by
   obtain ⟨_,_,_,_,_,_,e,_⟩ := pv
   exact SqL.of e) ?_ ?_⟩
 ·rintro i u σ H4 hu ⟨zs,c4,v3,b4,r4,f4,n4,pm,rfl⟩
  rw [List.getElem?_map] at hu
  obtain ⟨z,hz,rfl⟩ := Option.map_eq_some_iff.mp hu
  have li := (List.getElem?_eq_some_iff.mp hz).1
  have lz : zs.length = i := by rw [pm.length_eq,List.length_take]; lia
  have lm : (0 : Int) < (((zs.map V.str).length : Nat) : Int) + 1 := by lia
  obtain ⟨d0,d1⟩ := mod_lt c4 lm
  have lm' : (((zs.map V.str).length : Nat) : Int) = i := by rw [List.length_map,lz]
  refine ⟨_,rfl,.inl ⟨rfl,_,SqL.of f4⟩,_,rfl,_,rfl,pf,_,rfl,.inl (SqL.of f4),_,_,rfl,rfl,r,c4,_,rfl,r4,lm,(by lia),_,rfl,pf,zs.map V.str,_,_,rfl,rfl,(by rw [upd_ne nrf.symm]; exact f4),d0,(by lia),(by lia),?_⟩
  generalize c4 % ((((zs.map V.str).length : Nat) : Int) + 1) = n at *
  refine ⟨zs.take n.toNat ++ z :: zs.drop n.toNat,c4 / ((((zs.map V.str).length : Nat) : Int) + 1),_,?_,?_,?_,?_,?_,rfl⟩
  ·intro b o nb e
   have nbf : b ≠ pf := fun z => by rw [z,hfH] at e; cases e
   rw [upd_ne nbf,upd_ne nb]
   exact b4 b o nb e
  ·rw [upd_ne nrf]; exact upd_same
  ·rw [upd_same,List.map_append,List.map_cons,List.map_take,List.map_drop]
  ·rw [upd_ne nfn.symm,upd_ne nrn.symm]; exact n4
  ·refine (ins_perm _ _ _).trans ?_
   rw [List.take_add_one,hz]
   exact (List.Perm.cons _ pm).trans (List.perm_append_comm (l₁ := [z]))
 ·rintro σ H4 ⟨zs,c4,v3,b4,r4,f4,n4,pm,rfl⟩
  rw [List.length_map,List.take_length] at pm
  exact ⟨_,rfl,q pf c4 H4 zs b4 hfH r4 f4 (pm.length_eq.trans lss) (pm.nodup_iff.mpr (lt_nodup nam.asc))⟩
noncomputable abbrev fl (ss : List Str) (f : Str → Dt) : List (Str × Dt) := ss.map fun z => (z,f z)
noncomputable abbrev recF (fs : List (Str × Dt)) : Dt := .tup [.str "record",.tup (fs.map prD)]
theorem fl_names (ss : List Str) (f : Str → Dt) : (fl ss f).map (·.1) = ss := by rw [List.map_map]; exact List.map_id _
theorem fl_next {ss : List Str} {f : Str → Dt} {j : Nat} {z : Str} (h : ss[j]? = some z) : (fl (ss.take (j + 1)) f).map prD = (fl (ss.take j) f).map prD ++ [.tup [.str z,f z]] := by
 rw [List.take_add_one,h]; simp
theorem fl_look (z : Str) (f : Str → Dt) : ∀ ss : List Str,lookS (fl ss f) z = if z ∈ ss then some (f z) else none
 | [] => by simp [lookS]
 | y :: ss => by
  have ih := fl_look z f ss
  by_cases e : y = z
  ·subst e
   simp [lookS,fl]
  ·have e2 : lookS (fl (y :: ss) f) z = lookS (fl ss f) z := by simp [lookS,fl,e]
   rw [e2,ih]
   have : (z ∈ y :: ss) ↔ z ∈ ss := by
    rw [List.mem_cons]
    exact ⟨fun h => h.resolve_left fun q => e q.symm,.inr⟩
   simp only [this]
theorem look_fst {z : Str} {fs : List (Str × Dt)} (h : z ∈ fs.map (·.1)) : ∃ d,lookS fs z = some d := by
 induction fs with
 | nil => simp at h
 | cons g fs ih =>
  by_cases e : g.1 = z
  ·exact ⟨g.2,by simp [lookS,e]⟩
  ·have e2 : lookS (g :: fs) z = lookS fs z := by simp [lookS,e]
   rw [e2]
   refine ih ?_
   rcases List.mem_cons.mp h with q | q
   ·exact absurd q.symm e
   ·exact q
theorem dep_le : ∀ {l : List Dt} {B : Nat},(∀ x ∈ l,x.dep ≤ B) → depS l ≤ B
 | [],_,_ => Nat.zero_le _
 | d :: l,B,h => by
  have h1 := h d List.mem_cons_self
  have h2 := dep_le (l := l) (B := B) fun x hx => h x (List.mem_cons_of_mem _ hx)
  simp only [depS]
  lia
theorem rec_dep {fs : List (Str × Dt)} {B : Nat} (h : ∀ g ∈ fs,g.2.dep ≤ B) : (recF fs).dep ≤ B + 3 := by
 have : depS (fs.map prD) ≤ B + 1 := dep_le fun x hx => by
  obtain ⟨g',hg',rfl⟩ := List.mem_map.mp hx
  have := h g' hg'
  simp only [prD,Dt.dep,depS]
  lia
 simp only [Dt.dep,depS]
 lia
theorem in_dec (z : Str) : ∀ ws : List Str,inV (V.str z) (ws.map V.str) = decide (z ∈ ws)
 | [] => by simp [inV]
 | w :: ws => by
  have ih := in_dec z ws
  have e : inV (V.str z) ((w :: ws).map V.str) = (eqV (V.str w) (V.str z) || inV (V.str z) (ws.map V.str)) := rfl
  have e2 : eqV (V.str w) (V.str z) = decide (w = z) := rfl
  rw [e,ih,e2,Bool.eq_iff_iff]
  simp only [Bool.or_eq_true,decide_eq_true_eq,List.mem_cons]
  exact ⟨fun h => h.imp Eq.symm id,fun h => h.imp Eq.symm id⟩
theorem all_flat (ws : List Str) : (ws.map V.str).all flatV = true := by rw [List.all_map]; exact List.all_eq_true.mpr fun _ _ => rfl
theorem asc_ext {a b : List Str} (ha : a.Pairwise ltS) (hb : b.Pairwise ltS) (h : ∀ z,z ∈ a ↔ z ∈ b) : a = b :=
 asc_perm ha hb ((List.perm_ext_iff_of_nodup (lt_nodup ha) (lt_nodup hb)).mpr h)
noncomputable def sp_record_of (K : PySem.W.Frag) : Sp := fun vs H Q _ => ∃ (p : Addr) (ns : List Str) (f : Str → Dt),vs = [.ref p] ∧ DicN K H p ns f ∧ ns.Nodup ∧ ns.length ≤ 60 ∧ ∀ v H' ss,Same H H' → ss.Perm ns → ss.Pairwise ltS → IsP K H' (recF (fl ss f)) v → Q v H'
theorem ok_record_of (T : Tx K mg) {f : Addr} {fd : FuncData} (F : Gn K mg "record_of" s_record_of ["fields"] f fd) : FnOk P w K mg base CX0 1 f fd ["fields"] (sp_record_of K) := by
 refine F.F.ok sc_record_of (fun vs H Q E h => ?_) (fun cdv A outer s H vs Q E hr h => ?_)
 ·obtain ⟨p,ns,f,rfl,_⟩ := h
  rfl
 obtain ⟨p,ns,f,rfl,⟨kvs,ep,ek,kv⟩,nd,l60,q⟩ := h
 refine ⟨_,(@pss_one _ _ _ (@ps_ret _ _ _ _ (@pe_tupPK _ K _ _ _ _ rfl (@pa_cons _ _ _ _ _ pe_str (@pa_cons _ _ _ _ _ (pe_callTy (call_tuplePN (K := K) rfl) rfl T.z_tuple boot_tuple (@pa_cons _ _ _ _ _ (pe_comp rfl (csR (sc := defScope s_record_of) (NL := ["name"]) (N := ["fields"]) (ρ := [0]) (N' := ["name","fields"]) rfl rfl rfl (by decide +kernel) (by decide +kernel) (by decide +kernel) rfl (by decide +kernel)) (pi_listN (K := K) rfl (pe_callB (call_sortDR rfl) rfl T.z_sorted boot_sorted (@pa_cons _ _ _ _ _ (pv 0) pa_nil (by rfl)))) (fun _ _ _ _ => (pg_name (i := 0) (show List.Nodup (α := Str) ["name","fields"] by decide +kernel) rfl (Or.inl rfl))) (fun _ _ _ _ => (pe_tupPK (K := K) rfl (@pa_cons _ _ _ _ _ (pv 0) (@pa_cons _ _ _ _ _ (pe_dget (u1 hr.units) (pv 1) (pv 0) (fun _ _ => rfl)) pa_nil (by rfl)) (by rfl))))) pa_nil (by rfl))) pa_nil (by rfl)) (by rfl))))),?_⟩
 refine ⟨_,rfl,p,kvs,ns,rfl,.inl ep,ek,by lia,fun a ss ha pm srt => ?_⟩
 have g1 := same_new ha (.lst (ss.map V.str))
 have e1 : (upd H a (.lst (ss.map V.str))) a = some (.lst (ss.map V.str)) := upd_same
 generalize upd H a (.lst (ss.map V.str)) = H1 at g1 e1 ⊢
 have ls : ss.length ≤ 60 := by rw [pm.length_eq]; exact l60
 refine ⟨a,rfl,⟨_,SqL.of e1⟩,fun l hl => ?_⟩
 refine comp_listR (K := K) (xs := ss.map V.str) (fun j ys σ H' => Same H1 H' ∧ H' l = some (.lst ys) ∧ IsPs K H' ((fl (ss.take j) f).map prD) ys ∧ ∃ v1,σ = [v1,some (.ref p)])
  ⟨same_new hl _,upd_same,.nil,none,rfl⟩ (fun j ys σ H' _ pv => SqL.of (pv.1 _ _ e1)) ?_ ?_
 ·rintro j u ys σ H2 N hu ⟨s2,e2,d2,v1,rfl⟩ next
  rw [List.getElem?_map] at hu
  obtain ⟨z,hz,rfl⟩ := Option.map_eq_some_iff.mp hu
  obtain ⟨v,hv1,hv2⟩ := kv z (pm.mem_iff.mp (List.mem_of_getElem? hz))
  have hv3 := hv2.same (g1.trans s2)
  have ly : ys.length < sizeLine := by
   rw [← d2.length,List.length_map,List.length_map]
   exact small1000 (by have := List.length_take_le' j ss; lia)
  refine ⟨_,rfl,_,rfl,_,rfl,p,v,rfl,.inl ⟨kvs,Sum.inr z,.inl (s2 _ _ (g1 _ _ ep)),rfl,hv1.symm⟩,?_⟩
  refine ⟨[.str z,f z],.cons .str (.cons hv3 .nil),(by show 2 ≤ sizeLine; decide),fun vt H3 g3 hvt => ?_⟩
  have g4 : Same H2 (upd H3 l (.lst (ys ++ [vt]))) ∨ True := .inr trivial
  refine ⟨g3 _ _ e2,ly,next _ _ _ ⟨same_upd hl (s2.trans g3),upd_same,?_,_,rfl⟩⟩
  rw [fl_next hz]
  exact IsPs.but (g3 _ _ e2) But.put ((d2.same g3).append (.cons hvt .nil))
 ·rintro ys σ H2 ⟨s2,e2,d2,v1,rfl⟩
  rw [List.length_map,List.take_length] at d2
  refine ⟨l,ys,_,rfl,SqL.of e2,d2,fun vt H3 g3 hvt => ?_⟩
  refine ⟨[.str "record",.tup ((fl ss f).map prD)],.cons .str (.cons hvt .nil),(by show 2 ≤ sizeLine; decide),fun vr H4 g4 hvr => ?_⟩
  exact q vr H4 ss (((g1.trans s2).trans g3).trans g4) pm (sorted_pw srt (pm.nodup_iff.mpr nd)) hvr
theorem dicN_put {K : PySem.W.Frag} {H : Hp} {p : Addr} {ns : List Str} {f : Str → Dt} {z : Str} {d : Dt} {v : V} {kvs : List (Key × V)} (ep : H p = some (.dK kvs)) (ek : kvs.map (·.1) = ns.map (Sum.inr : Str → Key)) (kv : ∀ z ∈ ns,∃ v,valV kvs (Sum.inr z : Key) = some v ∧ IsP K H (f z) v) (hd : IsP K H d v) :
  DicN K (upd H p (.dK (putK kvs (Sum.inr z : Key) v))) p (if z ∈ ns then ns else ns ++ [z]) (fun y => if y = z then d else f y) := by
 refine ⟨_,upd_same,putK_keys kvs ns z v ek,fun y hy => ?_⟩
 show ∃ u,valV (putK kvs (Sum.inr z : Key) v) (Sum.inr y) = some u ∧ IsP K _ (if y = z then d else f y) u
 rw [valV_put]
 by_cases e : y = z
 ·subst e
  rw [if_pos rfl,if_pos rfl]
  exact ⟨v,rfl,isP_butD ep But.put hd⟩
 ·rw [if_neg (fun q => e (Sum.inr.inj q)),if_neg e]
  have hn : y ∈ ns := by
   split at hy
   ·exact hy
   ·rcases List.mem_append.mp hy with h | h
    ·exact h
    ·exact absurd (List.mem_singleton.mp h) e
  obtain ⟨u,h1,h2⟩ := kv y hn
  exact ⟨u,h1,isP_butD ep But.put h2⟩
noncomputable def sp_with_fields (K : PySem.W.Frag) : Sp := fun vs H Q _ => ∃ (t : Bool) (fs : List (Str × Dt)) (ns : List Str) (f : Str → Dt) (x : V) (a b : Addr) (xs : List V),vs = [x,.ref a,.ref b] ∧ IsP K H (recF fs) x ∧ (fs.map (·.1)).Nodup ∧ fs.length ≤ 8 ∧ ns.length ≤ 8 ∧
 SqE t K H a (ns.map V.str) ∧ SqE t K H b xs ∧ IsPs K H (ns.map f) xs ∧ ∀ v H' ss,Same H H' → ss.Pairwise ltS → (∀ z,z ∈ ss ↔ z ∈ fs.map (·.1) ∨ z ∈ ns) → IsP K H' (recF (fl ss fun z => if z ∈ ns then f z else (lookS fs z).getD .non)) v → Q v H'
theorem dicN_congr {K : PySem.W.Frag} {H : Hp} {p : Addr} {ns : List Str} {f g : Str → Dt} (h : DicN K H p ns f) (e : ∀ z ∈ ns,f z = g z) : DicN K H p ns g := by
 obtain ⟨kvs,a,b,c⟩ := h
 exact ⟨kvs,a,b,fun z hz => by rw [← e z hz]; exact c z hz⟩
theorem ok_with_fields (T : Tx K mg) {f : Addr} {fd : FuncData} (F : Gn K mg "with_fields" s_with_fields ["record","names","values"] f fd) : FnOk P w K mg base CX0 2 f fd ["record","names","values"] (sp_with_fields K) := by
 obtain ⟨f_record_of,fd_record_of,D_record_of⟩ := T.record_of
 have G_record_of := ok_record_of (P := P) (w := w) (base := base) T D_record_of
 refine F.F.ok sc_with_fields (fun vs H Q E h => ?_) (fun cdv A outer s H vs Q E hr h => ?_)
 ·obtain ⟨t,fs,ns,f,x,a,b,xs,rfl,_⟩ := h
  rfl
 obtain ⟨t,fs,ns,f,x,a,b,xs,rfl,hd,nd,l8,n8,ha,hb,dx,q⟩ := h
 refine ⟨_,(@pss_cons _ _ _ _ _ (@ps_set _ _ 3 _ _ _ _ sc_with_fields.nd rfl (Or.inl rfl) (pe_callTy (call_dictFN (K := K) rfl rfl) rfl T.z_dict boot_dict (@pa_cons _ _ _ _ _ (@pe_ix _ _ _ _ _ _ _ (ix_tupPN (K := K) rfl) (pv 0) pe_int (fun _ _ => rfl)) pa_nil (by rfl))) (by rfl) (by first | exact .inl rfl | exact .inr rfl | assumption)) (@pss_cons _ _ _ _ _ (ps_for PassesOwn.never rfl (pi_zipE rfl T.z_zip (@pa_cons _ _ _ _ _ (pv 1) (@pa_cons _ _ _ _ _ (pv 2) pa_nil (by rfl)) (by rfl))) (pg_tup rfl (pgs_cons (pg_name (i := 4) sc_with_fields.nd rfl (Or.inl rfl)) (pgs_cons (pg_name (i := 5) sc_with_fields.nd rfl (Or.inl rfl)) pgs_nil)))
    (@pss_one _ _ _ (ps_dput (u1 hr.units) (pv 3) (pv 4) (pv 5) rfl))) (@pss_one _ _ _ (@ps_ret _ _ _ _ (pe_call G_record_of (hr.mono (by first | decide | lia)) rfl D_record_of.m D_record_of.F.kp D_record_of.b .nil pass0 (@pa_cons _ _ _ _ _ (pv 3) pa_nil (by rfl))))))),?_⟩
 refine ⟨_,rfl,_,_,_,hd,rfl,rfl,fun v1 hv1 => ?_⟩
 refine ⟨v1,fs,rfl,hv1,nd,by lia,fun p H1 hpn g1 dq => ?_⟩
 obtain ⟨kvs,ep,ek,kval⟩ := dq
 have dn : DicN K H1 p (fs.map (·.1)) (fun z => (lookS fs z).getD .non) := ⟨kvs,ep,by rw [ek,List.map_map]; rfl,fun z hz => by
  obtain ⟨d,hd⟩ := look_fst hz
  obtain ⟨v,h1,h2⟩ := (kval z).2 d hd
  exact ⟨v,h1,by show IsP K H1 ((lookS fs z).getD .non) v; rw [hd]; exact h2⟩⟩
 have lx : xs.length = ns.length := by rw [← dx.length,List.length_map]
 have lmin : min (ns.map V.str).length xs.length = ns.length := by rw [List.length_map,lx,Nat.min_self]
 refine ⟨t,_,rfl,_,rfl,a,b,rfl,⟨_,ha.same g1⟩,⟨_,hb.same g1⟩,for_zipE (S := SqE t K) (xs := ns.map V.str) (ys := xs) (fun i σ H' => ∃ (l : List Str) (v4 v5 : Option V),Same H H' ∧ SqE t K H' a (ns.map V.str) ∧ SqE t K H' b xs ∧ IsPs K H' (ns.map f) xs ∧ l.Nodup ∧ l.length ≤ fs.length + i ∧ (∀ z,z ∈ l ↔ z ∈ fs.map (·.1) ∨ z ∈ ns.take i) ∧ DicN K H' p l (fun z => if z ∈ ns.take i then f z else (lookS fs z).getD .non) ∧ i ≤ ns.length ∧ σ = [some x,some (.ref a),some (.ref b),some (.ref p),v4,v5])
  ⟨_,none,none,g1,ha.same g1,hb.same g1,dx.same g1,nd,by rw [List.length_map]; lia,fun z => by simp,dicN_congr dn fun z _ => by simp,Nat.zero_le _,rfl⟩ (fun i σ H' pv => by
   obtain ⟨_,_,_,_,h1,h2,_⟩ := pv
   exact ⟨h1,h2⟩) ?_ ?_⟩
 ·rintro i u y T σ H2 hu hy hT ⟨l,v4,v5,s2,a2,b2,d2,nl,ll,ml,⟨kvs2,ep2,ek2,kv2⟩,li,rfl⟩
  rw [List.getElem?_map] at hu
  obtain ⟨z,hz,rfl⟩ := Option.map_eq_some_iff.mp hu
  obtain ⟨d,hdz,hpd⟩ := d2.get' hy
  rw [List.getElem?_map,hz] at hdz
  obtain rfl : f z = d := Option.some.inj hdz
  have gT := same_new hT (.tup [V.str z,y])
  have eT : (upd H2 T (.tup [V.str z,y])) T = some (.tup [V.str z,y]) := upd_same
  generalize upd H2 T (.tup [V.str z,y]) = H3 at gT eT ⊢
  have hi := (List.getElem?_eq_some_iff.mp hz).1
  have lk : kvs2.length = l.length := by have := congrArg List.length ek2; simpa using this
  refine ⟨T,_,rfl,.inl (.inl eT),rfl,_,_,rfl,_,_,rfl,rfl,?_⟩
  refine ⟨_,rfl,_,rfl,_,rfl,p,_,rfl,.inl ⟨kvs2,Sum.inr z,gT _ _ ep2,rfl,small1000 (by lia),rfl⟩,?_⟩
  have ep3 := gT _ _ ep2
  have B : But p H3 (upd H3 p (.dK (putK kvs2 (Sum.inr z : Key) y))) := But.put
  have dn3 := dicN_put (z := z) ep3 ek2 (fun z hz => by obtain ⟨v,h1,h2⟩ := kv2 z hz; exact ⟨v,h1,h2.same gT⟩) (hpd.same gT)
  have tk : ns.take (i + 1) = ns.take i ++ [z] := by rw [List.take_add_one,hz]; rfl
  refine ⟨_,_,_,fun c o ec => B c o (ne_of_none ec hpn) (gT _ _ (s2 _ _ ec)),(a2.same gT).butD ep3 B,(b2.same gT).butD ep3 B,isPs_butD ep3 B (d2.same gT),?_,?_,?_,dicN_congr dn3 ?_,hi,rfl⟩
  ·split
   ·exact nl
   ·exact List.nodup_append.mpr ⟨nl,(by simp),fun c hc d hd => by
     obtain rfl := List.mem_singleton.mp hd
     intro e
     subst e
     contradiction⟩
  ·split
   ·lia
   ·rw [List.length_append,List.length_singleton]; lia
  ·intro y
   rw [tk,List.mem_append,List.mem_singleton]
   have := ml y
   split
   ·rename_i hzl
    rw [this]
    constructor
    ·rintro (h | h)
     ·exact .inl h
     ·exact .inr (.inl h)
    ·rintro (h | h | h)
     ·exact .inl h
     ·exact .inr h
     ·subst h
      exact (ml y).mp hzl
   ·rw [List.mem_append,this,List.mem_singleton,or_assoc]
  ·intro y _
   rw [tk]
   by_cases e : y = z
   ·subst e
    simp
   ·simp [e]
 ·rintro σ H2 ⟨l,v4,v5,s2,a2,b2,d2,nl,ll,ml,dn2,li,rfl⟩
  rw [lmin] at ml dn2 ll
  rw [List.take_length] at ml dn2
  refine ⟨_,rfl,p,l,_,rfl,dn2,nl,by lia,fun v H3 ss g3 pm asc hv => ?_⟩
  exact q v H3 ss (s2.trans g3) asc (fun z => by rw [pm.mem_iff]; exact ml z) hv
theorem filter_next {gs : List (Str × Dt)} {p : Str × Dt → Bool} {j : Nat} {g : Str × Dt} (h : gs[j]? = some g) : (gs.take (j + 1)).filter p = (gs.take j).filter p ++ (if p g = true then [g] else []) := by
 rw [List.take_add_one,h,List.filter_append]
 congr 1
 by_cases e : p g = true
 ·simp [e]
 ·simp [e]
noncomputable def sp_without_fields (K : PySem.W.Frag) : Sp := fun vs H Q _ => ∃ (gs : List (Str × Dt)) (ns : List Str) (x : V) (a : Addr),vs = [x,.ref a] ∧ IsP K H (recF gs) x ∧ gs.length ≤ 8 ∧ (SqL K H a (ns.map V.str) ∨ SqT K H a (ns.map V.str)) ∧ ∀ v H',Same H H' → IsP K H' (recF (gs.filter fun g => !decide (g.1 ∈ ns))) v → Q v H'
theorem ok_without_fields (T : Tx K mg) {f : Addr} {fd : FuncData} (F : Gn K mg "without_fields" s_without_fields ["record","names"] f fd) : FnOk P w K mg base CX0 1 f fd ["record","names"] (sp_without_fields K) := by
 refine F.F.ok sc_without_fields (fun vs H Q E h => ?_) (fun cdv A outer s H vs Q E hr h => ?_)
 ·obtain ⟨gs,ns,x,a,rfl,_⟩ := h
  rfl
 obtain ⟨gs,ns,x,a,rfl,hd,l8,ha,q⟩ := h
 refine ⟨_,(@pss_one _ _ _ (@ps_ret _ _ _ _ (@pe_tupPK _ K _ _ _ _ rfl (@pa_cons _ _ _ _ _ pe_str (@pa_cons _ _ _ _ _ (pe_callTy (call_tuplePN (K := K) rfl) rfl T.z_tuple boot_tuple (@pa_cons _ _ _ _ _ (pe_compIf rfl (csR (sc := defScope s_without_fields) (NL := ["pair"]) (N := ["record","names"]) (ρ := [1]) (N' := ["pair","names"]) rfl rfl rfl (by decide +kernel) (by decide +kernel) (by decide +kernel) rfl (by decide +kernel)) (pi_tupN (K := K) rfl (@pe_ix _ _ _ _ _ _ _ (ix_tupPN (K := K) rfl) (pv 0) pe_int (fun _ _ => rfl))) (fun _ _ _ _ => (pg_name (i := 0) (show List.Nodup (α := Str) ["pair","names"] by decide +kernel) rfl (Or.inl rfl))) (fun _ _ _ _ => (pt_cmpR (op_notIn_seqK (K := K) rfl) (@pe_ix _ _ _ _ _ _ _ (ix_tupPN (K := K) rfl) (pv 0) pe_int (fun _ _ => rfl)) (pv 1) rfl)) (fun _ _ _ _ => (pv 0))) pa_nil (by rfl))) pa_nil (by rfl)) (by rfl))))),?_⟩
 refine ⟨_,rfl,_,_,_,hd,rfl,rfl,fun v1 hv1 => ?_⟩
 obtain ⟨b,xs,rfl,hb,pb,rb⟩ := hv1.unref
 have el := rb.length
 rw [List.length_map] at el
 refine ⟨b,rfl,⟨xs,hb⟩,fun l hl => ?_⟩
 refine comp_tupR (K := K) (xs := xs) (fun j ys σ H' => Same H H' ∧ H' l = some (.lst ys) ∧ IsPs K H' (((gs.take j).filter fun g => !decide (g.1 ∈ ns)).map prD) ys ∧ ∃ v1,σ = [v1,some (.ref a)])
  ⟨same_new hl _,upd_same,.nil,none,rfl⟩ (fun j ys σ H' _ pv => pv.1.tup hb) ?_ ?_
 ·rintro j u ys σ H2 N hu ⟨s2,e2,d2,v1,rfl⟩ next
  obtain ⟨e,he,hp⟩ := rb.get' hu
  rw [List.getElem?_map] at he
  obtain ⟨⟨z,d⟩,hf,rfl⟩ := Option.map_eq_some_iff.mp he
  have hp2 := hp.same s2
  have ha2 : SqL K H2 a (ns.map V.str) ∨ SqT K H2 a (ns.map V.str) := ha.imp s2.seq s2.tup
  have ly : ys.length < sizeLine := by
   rw [← d2.length,List.length_map]
   exact small1000 (by have := List.length_filter_le (fun g : Str × Dt => !decide (g.1 ∈ ns)) (gs.take j); have := List.length_take_le' j gs; lia)
  refine ⟨_,rfl,_,_,_,hp2,rfl,rfl,fun vz hvz => ?_⟩
  obtain rfl := isStrV hvz
  refine ⟨_,rfl,a,_,rfl,ha2,rfl,all_flat _,_,rfl,?_⟩
  rw [in_dec]
  refine ite2 (fun c => ?_) (fun c => ?_)
  ·refine ⟨_,rfl,e2,ly,next _ _ _ ⟨same_upd hl s2,upd_same,?_,_,rfl⟩⟩
   rw [filter_next hf]
   have c' : (!decide ((z,d).1 ∈ ns)) = true := c
   rw [if_pos c',List.map_append]
   exact IsPs.but e2 But.put (d2.append (.cons hp2 .nil))
  ·refine next _ _ _ ⟨s2,e2,?_,_,rfl⟩
   rw [filter_next hf]
   have c' : ¬ (!decide ((z,d).1 ∈ ns)) = true := c
   rw [if_neg c',List.append_nil]
   exact d2
 ·rintro ys σ H2 ⟨s2,e2,d2,v1,rfl⟩
  rw [← el,List.take_length] at d2
  refine ⟨l,ys,_,rfl,SqL.of e2,d2,fun vt H3 g3 hvt => ?_⟩
  refine ⟨[.str "record",.tup ((gs.filter fun g => !decide (g.1 ∈ ns)).map prD)],.cons .str (.cons hvt .nil),(by show 2 ≤ sizeLine; decide),fun vr H4 g4 hvr => ?_⟩
  exact q vr H4 ((s2.trans g3).trans g4) hvr
theorem fv_num {d e : Dt} (h : FV d e) : ∀ i j : Int,d = .tup [.str "number",.int i,.int j] → ∃ x,e = .int x ∧ i ≤ x ∧ x ≤ j := by
 cases h with
 | number h1 h2 =>
  intro i j e
  simp at e
  obtain ⟨rfl,rfl⟩ := e
  exact ⟨_,rfl,h1,h2⟩
 | _ =>
  intro i j e
  simp at e <;> first | exact absurd e.1 (by decide) | exact absurd e (by decide)
theorem fv_text {d e : Dt} (h : FV d e) : ∀ i : Int,d = .tup [.str "text",.int i] → ∃ z,e = .str z ∧ (z.length : Int) ≤ i ∧ okT z := by
 cases h with
 | text h1 h2 =>
  intro i e
  simp at e
  obtain rfl := e
  exact ⟨_,rfl,h1,h2⟩
 | _ =>
  intro i e
  simp at e <;> first | exact absurd e.1 (by decide) | exact absurd e (by decide)
theorem strs_inj : ∀ {ws vs : List Str},ws.map Dt.str = vs.map Dt.str → ws = vs
 | [],[],_ => rfl
 | [],_ :: _,h => by simp at h
 | _ :: _,[],h => by simp at h
 | a :: ws,b :: vs,h => by
  have h' := List.cons.inj (show Dt.str a :: ws.map Dt.str = Dt.str b :: vs.map Dt.str from h)
  rw [Dt.str.inj h'.1,strs_inj h'.2]
theorem fv_choice {d e : Dt} (h : FV d e) : ∀ ws : List Str,d = .tup [.str "choice",.tup (ws.map Dt.str)] → ∃ z,e = .str z ∧ z ∈ ws := by
 cases h with
 | @choice ws' z hz =>
  intro ws e
  have e' : ws'.map Dt.str = ws.map Dt.str := by simpa using e
  obtain rfl := strs_inj e'
  exact ⟨_,rfl,hz⟩
 | _ =>
  intro ws e
  simp at e <;> first | exact absurd e.1 (by decide) | exact absurd e (by decide)
theorem fv_list {d e : Dt} (h : FV d e) : ∀ (k : Dt) (i : Int),d = .tup [.str "list",k,.int i] → ∃ vs,e = .tup [.str "list",.tup vs] ∧ (∀ v ∈ vs,FV k v) ∧ (vs.length : Int) ≤ i := by
 cases h with
 | list h1 h2 =>
  intro k i e
  simp at e
  obtain ⟨rfl,rfl⟩ := e
  exact ⟨_,rfl,h1,h2⟩
 | _ =>
  intro k i e
  simp at e <;> first | exact absurd e.1 (by decide) | exact absurd e (by decide)
theorem fv_rows {d e : Dt} (h : FV d e) : ∀ (k : Dt) (z : Str) (i : Int),d = .tup [.str "rows",.str z,k,.int i] → ∃ vs,e = .tup [.str "rows",.tup vs] ∧ (∀ v ∈ vs,FV k v) ∧ (vs.length : Int) ≤ i ∧ Asc (vs.map fun v => keyD v z) := by
 cases h with
 | rows h1 h2 h3 =>
  intro k z i e
  simp at e
  obtain ⟨rfl,rfl,rfl⟩ := e
  exact ⟨_,rfl,h1,h2,h3⟩
 | _ =>
  intro k z i e
  simp at e <;> first | exact absurd e.1 (by decide) | exact absurd e (by decide)
theorem prD_inj : ∀ {fs gs : List (Str × Dt)},fs.map prD = gs.map prD → fs = gs
 | [],[],_ => rfl
 | [],g :: gs,h => by simp at h
 | f :: fs,[],h => by simp at h
 | (a,b) :: fs,(c,d) :: gs,h => by
  have h' := List.cons.inj (show prD (a,b) :: fs.map prD = prD (c,d) :: gs.map prD from h)
  have h1 := h'.1
  simp only [prD,Dt.tup.injEq,List.cons.injEq,Dt.str.injEq,and_true] at h1
  rw [prD_inj h'.2,h1.1,h1.2]
theorem fv_rcd {d e : Dt} (h : FV d e) : ∀ fs : List (Str × Dt),d = .tup [.str "record",.tup (fs.map prD)] → ∃ gs : List (Str × Dt),e = .tup [.str "record",.tup (gs.map prD)] ∧ gs.map (·.1) = fs.map (·.1) ∧ ∀ (i : Nat) (f g : Str × Dt),fs[i]? = some f → gs[i]? = some g → FV f.2 g.2 := by
 cases h with
 | @rcd fs' gs en gv =>
  intro fs e
  have e' : fs'.map prD = fs.map prD := by simpa using e
  obtain rfl := prD_inj e'
  exact ⟨gs,rfl,en,gv⟩
 | _ =>
  intro fs e
  simp at e <;> first | exact absurd e.1 (by decide) | exact absurd e (by decide)
theorem fv_dep : ∀ (n a ct : Nat) (d e : Dt),a ≤ n → FK a ct d → FV d e → e.dep ≤ 3 * n := by
 intro n
 induction n with
 | zero =>
  intro a ct d e h g
  have := g.pos
  lia
 | succ n ih =>
  intro a ct d e h g gv
  cases g with
  | number i j b1 b2 b3 =>
   obtain ⟨v0,rfl,_,_⟩ := fv_num gv i j rfl
   exact Nat.zero_le _
  | text i b1 b2 =>
   obtain ⟨z,rfl,_,_⟩ := fv_text gv i rfl
   exact Nat.zero_le _
  | choice ws hw =>
   obtain ⟨z,rfl,_⟩ := fv_choice gv ws rfl
   exact Nat.zero_le _
  | @list a' c' k i g b1 b2 =>
   obtain ⟨vs,rfl,l1,l2⟩ := fv_list gv k i rfl
   have := dep_le (B := 3 * n) fun v h => ih _ _ _ _ (by lia) g (l1 v h)
   simp only [Dt.dep,depS]
   lia
  | @rows a' c' z l i g kl b1 b2 =>
   obtain ⟨vs,rfl,l1,l2,_⟩ := fv_rows gv _ z i rfl
   have := dep_le (B := 3 * n) fun v h => ih _ _ _ _ (by lia) g (l1 v h)
   simp only [Dt.dep,depS]
   lia
  | @rcd gs g asc nm hl =>
   obtain ⟨fs,efs⟩ : ∃ fs : List (Str × Dt),fs = gs.map nk := ⟨_,rfl⟩
   have ep : gs.map prG = fs.map prD := by rw [efs,List.map_map]; rfl
   rw [ep] at gv
   obtain ⟨gs',rfl,en,gg⟩ := fv_rcd gv fs rfl
   have lgs : gs'.length = fs.length := by have := congrArg List.length en; simpa using this
   have hv : ∀ g' ∈ gs',g'.2.dep ≤ 3 * n := fun g' hg' => by
    obtain ⟨i,hi⟩ := List.mem_iff_getElem?.mp hg'
    have hi8 : i < fs.length := by rw [← lgs]; exact (List.getElem?_eq_some_iff.mp hi).1
    obtain ⟨f,hf⟩ : ∃ f,fs[i]? = some f := ⟨_,List.getElem?_eq_getElem hi8⟩
    have hm := List.mem_of_getElem? hf
    rw [efs] at hm
    obtain ⟨x',hx',rfl⟩ := List.mem_map.mp hm
    have := le_max (List.mem_map_of_mem (f := fun g : G4 => g.2.2.1) hx')
    exact ih _ _ _ _ (by lia) (g x' hx') (gg i _ g' hf hi)
   have := rec_dep hv
   lia
theorem cut_from (xs : List V) (m : Int) (h0 : 0 ≤ m) : L2.cutV xs (some m) none = xs.drop m.toNat := by
 have e1 : HT.sIx xs.length xs.length none = xs.length := HT.sIx_none _ _
 have e2 : HT.sIx xs.length 0 (some m) = min m.toNat xs.length := by
  have := HT.sIx_nat xs.length 0 m.toNat
  rw [show ((m.toNat : Nat) : Int) = m by lia] at this
  exact this
 unfold L2.cutV
 rw [e1,e2,List.take_of_length_le (by rw [List.length_drop]; lia)]
 rcases Nat.le_total m.toNat xs.length with h | h
 ·rw [Nat.min_eq_left h]
 ·rw [Nat.min_eq_right h,List.drop_length,List.drop_eq_nil_of_le h]
theorem strs_of {K : PySem.W.Frag} {H : Hp} : ∀ {ws : List Str} {xs : List V},IsPs K H (ws.map Dt.str) xs → xs = ws.map V.str
 | [],_,.nil => rfl
 | w :: ws,_,.cons h r => by rw [isStrV h,strs_of r]; rfl
noncomputable def oth (f : Str → Dt) (z : Str) : Dt := .tup [.str "list",.tup [f z,.int 3]]
structure Drawn6 (ss ow sm : List Str) (f : Str → Dt) : Prop where
 own : ∃ n,ow = ss.take n
 some : ∃ m n,sm = (ss.drop m).take n
 nd : ss.Nodup
 len : ss.length = 8
 dep : ∀ z,(f z).dep ≤ 9
section
variable {ss ow sm : List Str} {f : Str → Dt}
theorem Drawn6.ow_sub (h : Drawn6 ss ow sm f) {z : Str} (hz : z ∈ ow) : z ∈ ss := by
 obtain ⟨n,rfl⟩ := h.own
 exact List.mem_of_mem_take hz
theorem Drawn6.sm_sub (h : Drawn6 ss ow sm f) {z : Str} (hz : z ∈ sm) : z ∈ ss := by
 obtain ⟨m,n,rfl⟩ := h.some
 exact List.mem_of_mem_drop (List.mem_of_mem_take hz)
theorem Drawn6.ow_nd (h : Drawn6 ss ow sm f) : ow.Nodup := by
 obtain ⟨n,rfl⟩ := h.own
 exact (List.take_sublist _ _).nodup h.nd
theorem Drawn6.ow_len (h : Drawn6 ss ow sm f) : ow.length ≤ 8 := by
 obtain ⟨n,rfl⟩ := h.own
 have := h.len
 rw [List.length_take]
 lia
theorem Drawn6.sm_len (h : Drawn6 ss ow sm f) : sm.length ≤ 8 := by
 obtain ⟨m,n,rfl⟩ := h.some
 have := h.len
 rw [List.length_take,List.length_drop]
 lia
end
theorem fl_congr {ss : List Str} {f g : Str → Dt} (h : ∀ z ∈ ss,f z = g z) : fl ss f = fl ss g := List.map_congr_left fun z hz => by rw [h z hz]
theorem fl_filter (p : Str → Bool) (f : Str → Dt) : ∀ ss : List Str,(fl ss f).filter (fun g => p g.1) = fl (ss.filter p) f
 | [] => rfl
 | z :: ss => by
  have ih := fl_filter p f ss
  show (((z,f z) :: fl ss f).filter fun g => p g.1) = _
  by_cases e : p z = true
  ·rw [List.filter_cons_of_pos (by exact e),ih,List.filter_cons_of_pos e]; rfl
  ·rw [List.filter_cons_of_neg (by exact e),ih,List.filter_cons_of_neg e]
theorem fl_dep {ss : List Str} {f : Str → Dt} {B : Nat} (h : ∀ z,(f z).dep ≤ B) : (recF (fl ss f)).dep ≤ B + 3 := rec_dep fun g hg => by
 obtain ⟨z,_,rfl⟩ := List.mem_map.mp hg
 exact h z
theorem neD_same {d e : Dt} (h : d = e) : (!eqD d e) = false := by rw [h,eqD_refl]; rfl
theorem first_at {z : Str} : ∀ {l : List Str},z ∈ l → ∃ j : Nat,l[j]? = some z ∧ ∀ m,m < j → l[m]? ≠ some z
 | y :: l,h => by
  by_cases e : y = z
  ·exact ⟨0,by rw [e]; rfl,fun m hm => absurd hm (Nat.not_lt_zero _)⟩
  ·rcases List.mem_cons.mp h with q | q
   ·exact absurd q.symm e
   ·obtain ⟨j,h1,h2⟩ := first_at q
    refine ⟨j + 1,by simpa using h1,fun m hm => ?_⟩
    cases m with
    | zero => intro c; exact e (by simpa using c)
    | succ m => intro c; exact h2 m (by lia) (by simpa using c)
theorem ok_law (T : Tx K mg) {f : Addr} {fd : FuncData} (F : Gn K mg "law" s_law ["script"] f fd) : FnOk P w K mg base CX0 depth f fd ["script"] (sp_law K) := by
 obtain ⟨f_law_own,fd_law_own,D_law_own⟩ := T.law_own
 have G_law_own := ok_law_own (P := P) (w := w) (base := base) T D_law_own
 obtain ⟨f_law_pool,fd_law_pool,D_law_pool⟩ := T.law_pool
 have G_law_pool := ok_law_pool (P := P) (w := w) (base := base) T D_law_pool
 obtain ⟨f_law_digit,fd_law_digit,D_law_digit⟩ := T.law_digit
 have G_law_digit := ok_law_digit (P := P) (w := w) (base := base) T D_law_digit
 obtain ⟨f_law_kind,fd_law_kind,D_law_kind⟩ := T.law_kind
 obtain ⟨f1,d1,D1⟩ := T.law_record_kind
 obtain ⟨f2,d2,D2⟩ := T.law_rows_kind
 have G_law_kind := kinds_all (P := P) (w := w) (base := base) T D_law_kind D1 D2 3
 obtain ⟨f_law_value,fd_law_value,D_law_value⟩ := T.law_value
 obtain ⟨f3,d3,D3⟩ := T.law_row_values
 have G_law_value := vals_all (P := P) (w := w) (base := base) T D_law_value D3
 obtain ⟨f_field_of,fd_field_of,D_field_of⟩ := T.field_of
 have G_field_of := ok_field_of (P := P) (w := w) (base := base) T D_field_of
 obtain ⟨f_with_fields,fd_with_fields,D_with_fields⟩ := T.with_fields
 have G_with_fields := ok_with_fields (P := P) (w := w) (base := base) T D_with_fields
 obtain ⟨f_without_fields,fd_without_fields,D_without_fields⟩ := T.without_fields
 have G_without_fields := ok_without_fields (P := P) (w := w) (base := base) T D_without_fields
 refine F.F.ok sc_law (fun vs H Q E h => ?_) (fun cdv A outer s H vs Q E hr h => ?_)
 ·obtain ⟨a,ns,rfl,_⟩ := h
  rfl
 obtain ⟨a,ns,rfl,hs,h63,q⟩ := h
 refine ⟨_,(@pss_cons _ _ _ _ _ (ps_for PassesOwn.never rfl (pi_range1 rfl T.z_range (@pa_cons _ _ _ _ _ (pe_callB (call_min2 rfl) rfl T.z_min boot_min (@pa_cons _ _ _ _ _ pe_int (@pa_cons _ _ _ _ _ (@pe_op _ _ _ _ _ _ _ _ op_add pe_int (pe_callB (call_len_seqN (K := K) rfl) rfl T.z_len PySem.boot_len (@pa_cons _ _ _ _ _ (pv 0) pa_nil (by rfl)))) pa_nil (by rfl)) (by rfl))) pa_nil (by rfl))) (pg_name (i := 1) sc_law.nd rfl (Or.inl rfl))
    (@pss_cons _ _ _ _ _ (@ps_set _ _ 2 _ _ _ _ sc_law.nd rfl (Or.inl rfl) (pe_call G_law_own (hr.mono (by first | decide | lia)) rfl D_law_own.m D_law_own.F.kp D_law_own.b .nil pass0 (@pa_cons _ _ _ _ _ (pv 0) (@pa_cons _ _ _ _ _ (pv 1) pa_nil (by rfl)) (by rfl))) (by rfl) (by first | exact .inl rfl | exact .inr rfl | assumption)) (@pss_cons _ _ _ _ _ (@ps_set _ _ 3 _ _ _ _ sc_law.nd rfl (Or.inl rfl) (pe_call G_law_pool (hr.mono (by first | decide | lia)) rfl D_law_pool.m D_law_pool.F.kp D_law_pool.b .nil pass0 (@pa_cons _ _ _ _ _ (pv 2) pa_nil (by rfl))) (by rfl) (by first | exact .inl rfl | exact .inr rfl | assumption)) (@pss_cons _ _ _ _ _ (@ps_set _ _ 4 _ _ _ _ sc_law.nd rfl (Or.inl rfl) (pe_slice (sl_listN (K := K) rfl) (pv 3) po_none (po_some (pe_call G_law_digit (hr.mono (by first | decide | lia)) rfl D_law_digit.m D_law_digit.F.kp D_law_digit.b .nil pass0 (@pa_cons _ _ _ _ _ (pv 2) (@pa_cons _ _ _ _ _ pe_int pa_nil (by rfl)) (by rfl))))) (by rfl) (by first | exact .inl rfl | exact .inr rfl | assumption)) (@pss_cons _ _ _ _ _ (@ps_set _ _ 5 _ _ _ _ sc_law.nd rfl (Or.inr rfl) (pe_slice (sl_listN (K := K) rfl) (pe_slice (sl_listN (K := K) rfl) (pv 3) (po_some (pe_call G_law_digit (hr.mono (by first | decide | lia)) rfl D_law_digit.m D_law_digit.F.kp D_law_digit.b .nil pass0 (@pa_cons _ _ _ _ _ (pv 2) (@pa_cons _ _ _ _ _ pe_int pa_nil (by rfl)) (by rfl)))) po_none) po_none (po_some (pe_call G_law_digit (hr.mono (by first | decide | lia)) rfl D_law_digit.m D_law_digit.F.kp D_law_digit.b .nil pass0 (@pa_cons _ _ _ _ _ (pv 2) (@pa_cons _ _ _ _ _ pe_int pa_nil (by rfl)) (by rfl))))) (by rfl) (by first | exact .inl rfl | exact .inr rfl | assumption)) (@pss_cons _ _ _ _ _ (@ps_set _ _ 6 _ _ _ _ sc_law.nd rfl (Or.inr rfl) pe_dnewK (by rfl) (by first | exact .inl rfl | exact .inr rfl | assumption)) (@pss_cons _ _ _ _ _ (ps_for PassesOwn.never rfl (pi_listN (K := K) rfl (pv 3)) (pg_name (i := 7) sc_law.nd rfl (Or.inl rfl))
    (@pss_one _ _ _ (ps_dput (u1 hr.units) (pv 6) (pv 7) (pe_call G_law_value (hr.mono (by first | decide | lia)) rfl D_law_value.m D_law_value.F.kp D_law_value.b .nil pass0 (@pa_cons _ _ _ _ _ (pv 2) (@pa_cons _ _ _ _ _ (pe_call G_law_kind (hr.mono (by first | decide | lia)) rfl D_law_kind.m D_law_kind.F.kp D_law_kind.b .nil pass0 (@pa_cons _ _ _ _ _ (pv 2) (@pa_cons _ _ _ _ _ pe_int (@pa_cons _ _ _ _ _ (@pe_lst _ _ _ _ (@pa_cons _ _ _ _ _ pe_int pa_nil (by rfl))) pa_nil (by rfl)) (by rfl)) (by rfl))) pa_nil (by rfl)) (by rfl))) rfl))) (@pss_cons _ _ _ _ _ (@ps_set _ _ 8 _ _ _ _ sc_law.nd rfl (Or.inl rfl) (@pe_tupPK _ K _ _ _ _ rfl (@pa_cons _ _ _ _ _ pe_str (@pa_cons _ _ _ _ _ (pe_callTy (call_tuplePN (K := K) rfl) rfl T.z_tuple boot_tuple (@pa_cons _ _ _ _ _ (pe_comp rfl (csR (sc := defScope s_law) (NL := ["name"]) (N := ["script","k","row","pool","own","some","values","name","record","others","handed","found","due","value","left","back"]) (ρ := [6]) (N' := ["name","values"]) rfl rfl rfl (by decide +kernel) (by decide +kernel) (by decide +kernel) rfl (by decide +kernel)) (pi_listN (K := K) rfl (pe_callB (call_sortSN (K := K) rfl) rfl T.z_sorted boot_sorted (@pa_cons _ _ _ _ _ (pv 4) pa_nil (by rfl)))) (fun _ _ _ _ => (pg_name (i := 0) (show List.Nodup (α := Str) ["name","values"] by decide +kernel) rfl (Or.inl rfl))) (fun _ _ _ _ => (pe_tupPK (K := K) rfl (@pa_cons _ _ _ _ _ (pv 0) (@pa_cons _ _ _ _ _ (pe_dget (u1 hr.units) (pv 1) (pv 0) (fun _ _ => rfl)) pa_nil (by rfl)) (by rfl))))) pa_nil (by rfl))) pa_nil (by rfl)) (by rfl))) (by rfl) (by first | exact .inl rfl | exact .inr rfl | assumption)) (@pss_cons _ _ _ _ _ (ps_for PassesOwn.never rfl (pi_listN (K := K) rfl (pv 4)) (pg_name (i := 7) sc_law.nd rfl (Or.inl rfl))
    (@pss_one _ _ _ (@ps_if _ _ _ _ _ _ _ _ (pt_cmpR (op_neDN (K := K) rfl hr.units) (pe_call G_field_of (hr.mono (by first | decide | lia)) rfl D_field_of.m D_field_of.F.kp D_field_of.b .nil pass0 (@pa_cons _ _ _ _ _ (pv 8) (@pa_cons _ _ _ _ _ (pv 7) pa_nil (by rfl)) (by rfl))) (pe_dget (u1 hr.units) (pv 6) (pv 7) (fun _ _ => rfl)) (nomark _)) (@pss_one _ _ _ (@ps_ret _ _ _ _ pe_bl)) pss_nil))) (@pss_cons _ _ _ _ _ (ps_setC (j := 9) sc_law.nd rfl (Or.inl rfl) rfl (csR (sc := defScope s_law) (NL := ["name"]) (N := ["script","k","row","pool","own","some","values","name","record","others","handed","found","due","value","left","back"]) (ρ := [6]) (N' := ["name","values"]) rfl rfl rfl (by decide +kernel) (by decide +kernel) (by decide +kernel) rfl (by decide +kernel)) (pi_listN (K := K) rfl (pv 5)) (fun _ _ _ _ => (pg_name (i := 0) (show List.Nodup (α := Str) ["name","values"] by decide +kernel) rfl (Or.inl rfl))) (fun _ _ _ _ => (pe_tupPK (K := K) rfl (@pa_cons _ _ _ _ _ pe_str (@pa_cons _ _ _ _ _ (pe_tupPK (K := K) rfl (@pa_cons _ _ _ _ _ (pe_dget (u1 hr.units) (pv 1) (pv 0) (fun _ _ => rfl)) (@pa_cons _ _ _ _ _ pe_int pa_nil (by rfl)) (by rfl))) pa_nil (by rfl)) (by rfl))))) (@pss_cons _ _ _ _ _ (@ps_set _ _ 10 _ _ _ _ sc_law.nd rfl (Or.inl rfl) (pe_callTy (call_list_ofN (K := K) rfl) rfl T.z_list boot_list (@pa_cons _ _ _ _ _ (pv 5) pa_nil (by rfl))) (by rfl) (by first | exact .inl rfl | exact .inr rfl | assumption)) (@pss_cons _ _ _ _ _ (@ps_set _ _ 11 _ _ _ _ sc_law.nd rfl (Or.inl rfl) (pe_call G_with_fields (hr.mono (by first | decide | lia)) rfl D_with_fields.m D_with_fields.F.kp D_with_fields.b .nil pass0 (@pa_cons _ _ _ _ _ (pv 8) (@pa_cons _ _ _ _ _ (pv 10) (@pa_cons _ _ _ _ _ (pv 9) pa_nil (by rfl)) (by rfl)) (by rfl))) (by rfl) (by first | exact .inl rfl | exact .inr rfl | assumption)) (@pss_cons _ _ _ _ _ (@ps_set _ _ 12 _ _ _ _ sc_law.nd rfl (Or.inl rfl) (@pe_lst _ _ _ _ pa_nil) (by rfl) (by first | exact .inl rfl | exact .inr rfl | assumption)) (@pss_cons _ _ _ _ _ (ps_for PassesOwn.never rfl (pi_listN (K := K) rfl (pe_callB (call_sortT rfl) rfl T.z_sorted boot_sorted (@pa_cons _ _ _ _ _ (pe_callTy (call_setLN (K := K) (P := P) (w := w) rfl rfl rfl rfl) rfl T.z_set boot_set (@pa_cons _ _ _ _ _ (@pe_op _ _ _ _ _ _ _ _ op_cat (pv 4) (pv 5)) pa_nil (by rfl))) pa_nil (by rfl)))) (pg_name (i := 7) sc_law.nd rfl (Or.inl rfl))
    (@pss_cons _ _ _ _ _ (@ps_set _ _ 13 _ _ _ _ sc_law.nd rfl (Or.inl rfl) (pe_dget (u1 hr.units) (pv 6) (pv 7) (fun _ _ => rfl)) (by rfl) (by first | exact .inl rfl | exact .inr rfl | assumption)) (@pss_cons _ _ _ _ _ (@ps_if _ _ _ _ _ _ _ _ (pt_cmpR (op_in_seqK (K := K) rfl) (pv 7) (pv 5) rfl) (@pss_one _ _ _ (@ps_set _ _ 13 _ _ _ _ sc_law.nd rfl (Or.inl rfl) (@pe_ix _ _ _ _ _ _ _ (ix_listK (K := K) rfl) (pv 9) (pe_bm PySem.F.plainAttrs_list PySem.F.slot_list_index PySem.F.type_list_index mt_lindex (pv 5) (@pa_cons _ _ _ _ _ (pv 7) pa_nil (by rfl))) (fun _ _ => rfl)) (by rfl) (by first | exact .inl rfl | exact .inr rfl | assumption))) pss_nil) (@pss_one _ _ _ (@ps_expr _ _ _ _ (pe_bm PySem.F.plainAttrs_list PySem.F.slot_list_append PySem.F.type_list_append mt_append (pv 12) (@pa_cons _ _ _ _ _ (@pe_tupPK _ K _ _ _ _ rfl (@pa_cons _ _ _ _ _ (pv 7) (@pa_cons _ _ _ _ _ (pv 13) pa_nil (by rfl)) (by rfl))) pa_nil (by rfl))) (by rfl)))))) (@pss_cons _ _ _ _ _ (@ps_if _ _ _ _ _ _ _ _ (PW.pt (@pw_or _ _ _ _ _ _ _ (pt_cmpR (op_neDN (K := K) rfl hr.units) (pv 11) (@pe_tupPK _ K _ _ _ _ rfl (@pa_cons _ _ _ _ _ pe_str (@pa_cons _ _ _ _ _ (pe_callTy (call_tuplePN (K := K) rfl) rfl T.z_tuple boot_tuple (@pa_cons _ _ _ _ _ (pv 12) pa_nil (by rfl))) pa_nil (by rfl)) (by rfl))) (nomark _)) (@pw_or _ _ _ _ _ _ _ (pt_cmpR (op_neL hr.units) (pv 10) (pv 5) (nomark _)) (@pw_or1 _ _ _ _ (@pt_not _ _ _ _ (@pt_val _ _ _ (pe_callB (call_isiN' (K := K) rfl) rfl T.z_isinstance boot_isinstance (@pa_cons _ _ _ _ _ (@pe_ix _ _ _ _ _ _ _ (ix_tupPN (K := K) rfl) (pv 11) pe_int (fun _ _ => rfl)) (@pa_cons _ _ _ _ _ (pe_gty rfl T.z_tuple boot_tuple) pa_nil (by rfl)) (by rfl))) (by intro _; rfl))))))) (@pss_one _ _ _ (@ps_ret _ _ _ _ pe_bl)) pss_nil) (@pss_cons _ _ _ _ _ (@ps_set _ _ 14 _ _ _ _ sc_law.nd rfl (Or.inl rfl) (pe_call G_without_fields (hr.mono (by first | decide | lia)) rfl D_without_fields.m D_without_fields.F.kp D_without_fields.b .nil pass0 (@pa_cons _ _ _ _ _ (pv 8) (@pa_cons _ _ _ _ _ (pe_callTy (call_tuplePN (K := K) rfl) rfl T.z_tuple boot_tuple (@pa_cons _ _ _ _ _ (pv 5) pa_nil (by rfl))) pa_nil (by rfl)) (by rfl))) (by rfl) (by first | exact .inl rfl | exact .inr rfl | assumption)) (@pss_cons _ _ _ _ _ (@ps_if _ _ _ _ _ _ _ _ (pt_cmpR (op_neDN (K := K) rfl hr.units) (pv 14) (@pe_tupPK _ K _ _ _ _ rfl (@pa_cons _ _ _ _ _ pe_str (@pa_cons _ _ _ _ _ (pe_callTy (call_tuplePN (K := K) rfl) rfl T.z_tuple boot_tuple (@pa_cons _ _ _ _ _ (pe_compIf rfl (csR (sc := defScope s_law) (NL := ["pair"]) (N := ["script","k","row","pool","own","some","values","name","record","others","handed","found","due","value","left","back"]) (ρ := [5]) (N' := ["pair","some"]) rfl rfl rfl (by decide +kernel) (by decide +kernel) (by decide +kernel) rfl (by decide +kernel)) (pi_tupN (K := K) rfl (@pe_ix _ _ _ _ _ _ _ (ix_tupPN (K := K) rfl) (pv 8) pe_int (fun _ _ => rfl))) (fun _ _ _ _ => (pg_name (i := 0) (show List.Nodup (α := Str) ["pair","some"] by decide +kernel) rfl (Or.inl rfl))) (fun _ _ _ _ => (pt_cmpR (op_notIn_seqK (K := K) rfl) (@pe_ix _ _ _ _ _ _ _ (ix_tupPN (K := K) rfl) (pv 0) pe_int (fun _ _ => rfl)) (pv 1) rfl)) (fun _ _ _ _ => (pv 0))) pa_nil (by rfl))) pa_nil (by rfl)) (by rfl))) (nomark _)) (@pss_one _ _ _ (@ps_ret _ _ _ _ pe_bl)) pss_nil) (@pss_cons _ _ _ _ _ (ps_setCIf (j := 15) sc_law.nd rfl (Or.inl rfl) rfl (csR (sc := defScope s_law) (NL := ["name"]) (N := ["script","k","row","pool","own","some","values","name","record","others","handed","found","due","value","left","back"]) (ρ := [5]) (N' := ["name","some"]) rfl rfl rfl (by decide +kernel) (by decide +kernel) (by decide +kernel) rfl (by decide +kernel)) (pi_listN (K := K) rfl (pv 4)) (fun _ _ _ _ => (pg_name (i := 0) (show List.Nodup (α := Str) ["name","some"] by decide +kernel) rfl (Or.inl rfl))) (fun _ _ _ _ => (pt_cmpR (op_in_seqK (K := K) rfl) (pv 0) (pv 1) rfl)) (fun _ _ _ _ => (pv 0))) (@pss_cons _ _ _ _ _ (@ps_if _ _ _ _ _ _ _ _ (pt_cmpR (op_neDN (K := K) rfl hr.units) (pe_call G_with_fields (hr.mono (by first | decide | lia)) rfl D_with_fields.m D_with_fields.F.kp D_with_fields.b .nil pass0 (@pa_cons _ _ _ _ _ (pv 14) (@pa_cons _ _ _ _ _ (pe_callTy (call_tuplePN (K := K) rfl) rfl T.z_tuple boot_tuple (@pa_cons _ _ _ _ _ (pv 15) pa_nil (by rfl))) (@pa_cons _ _ _ _ _ (pe_callTy (call_tuplePN (K := K) rfl) rfl T.z_tuple boot_tuple (@pa_cons _ _ _ _ _ (pe_comp rfl (csR (sc := defScope s_law) (NL := ["name"]) (N := ["script","k","row","pool","own","some","values","name","record","others","handed","found","due","value","left","back"]) (ρ := [6]) (N' := ["name","values"]) rfl rfl rfl (by decide +kernel) (by decide +kernel) (by decide +kernel) rfl (by decide +kernel)) (pi_listN (K := K) rfl (pv 15)) (fun _ _ _ _ => (pg_name (i := 0) (show List.Nodup (α := Str) ["name","values"] by decide +kernel) rfl (Or.inl rfl))) (fun _ _ _ _ => (pe_dget (u1 hr.units) (pv 1) (pv 0) (fun _ _ => rfl)))) pa_nil (by rfl))) pa_nil (by rfl)) (by rfl)) (by rfl))) (pv 8) (nomark _)) (@pss_one _ _ _ (@ps_ret _ _ _ _ pe_bl)) pss_nil) (@pss_one _ _ _ (@ps_if _ _ _ _ _ _ _ _ (PW.pt (@pw_or _ _ _ _ _ _ _ (pt_cmpR (op_neDN (K := K) rfl hr.units) (pe_call G_with_fields (hr.mono (by first | decide | lia)) rfl D_with_fields.m D_with_fields.F.kp D_with_fields.b .nil pass0 (@pa_cons _ _ _ _ _ (pv 8) (@pa_cons _ _ _ _ _ (@pe_lst _ _ _ _ pa_nil) (@pa_cons _ _ _ _ _ (@pe_lst _ _ _ _ pa_nil) pa_nil (by rfl)) (by rfl)) (by rfl))) (pv 8) (nomark _)) (@pw_or1 _ _ _ _ (pt_cmpR (op_neDN (K := K) rfl hr.units) (pe_call G_without_fields (hr.mono (by first | decide | lia)) rfl D_without_fields.m D_without_fields.F.kp D_without_fields.b .nil pass0 (@pa_cons _ _ _ _ _ (pv 8) (@pa_cons _ _ _ _ _ (@pe_lst _ _ _ _ pa_nil) pa_nil (by rfl)) (by rfl))) (pv 8) (nomark _))))) (@pss_one _ _ _ (@ps_ret _ _ _ _ pe_bl)) pss_nil))))))))))))))))))))) (@pss_one _ _ _ (@ps_ret _ _ _ _ pe_bl))),?_⟩
 have lns : (ns.map V.int).length = ns.length := List.length_map ..
 refine ⟨_,rfl,a,_,rfl,.inl hs,_,_,rfl,rfl,_,_,rfl,?_⟩
 rw [lns]
 generalize hJ : (if (1 + ((ns.length : Nat) : Int)) < 12 then (1 + ((ns.length : Nat) : Int)) else 12) = J
 have J1 : 0 ≤ J ∧ J ≤ 12 := by rw [← hJ]; split <;> lia
 refine ⟨J,rfl,by lia,by lia,for_range (lo := 0) (n := J.toNat) (fun i σ H' => Same H H' ∧ ∃ v1 v2 v3 v4 v5 v6 v7 v8 v9 v10 v11 v12 v13 v14 v15,σ = [some (.ref a),v1,v2,v3,v4,v5,v6,v7,v8,v9,v10,v11,v12,v13,v14,v15]) ⟨Same.refl H,_,_,_,_,_,_,_,_,_,_,_,_,_,_,_,rfl⟩ ?_ ?_⟩
 rotate_left
 ·rintro σ H1 ⟨g1,v1,v2,v3,v4,v5,v6,v7,v8,v9,v10,v11,v12,v13,v14,v15,rfl⟩
  exact q H1
 rintro i σ H1 hi ⟨g1,v1,v2,v3,v4,v5,v6,v7,v8,v9,v10,v11,v12,v13,v14,v15,rfl⟩
 refine ⟨_,rfl,_,rfl,a,ns,i,(by show [V.ref a,V.int (0 + (i : Int))] = _; rw [Int.zero_add]),g1.seq hs,h63,by lia,fun r c H2 hr2 g2 e2 => ?_⟩
 have hrH : H r = none := g1.free hr2
 have keep : ∀ {A B : Hp},Same H A → But r A B → Same H B := fun s b c o ec => b c o (ne_of_none ec hrH) (s _ _ ec)
 refine ⟨_,rfl,r,c,rfl,e2,fun pp c3 H3 ss b3 hpp r3 p3 l8 nd => ?_⟩
 have S3 : Same H H3 := keep (g1.trans g2) b3
 have nrp : r ≠ pp := ne_of_none e2 hpp
 obtain ⟨d0,d1⟩ := mod_lt c3 (m := 9) (by decide)
 refine ⟨_,rfl,_,rfl,r,c3,9,rfl,r3,by decide,by decide,_,rfl,pp,_,rfl,SqL.of (by rw [upd_ne nrp.symm]; exact p3),fun po hpo => ?_⟩
 rw [cut_to _ _ d0,← List.map_take]
 generalize hw : ss.take (c3 % 9).toNat = ow
 obtain ⟨H4,hH4,S4,r4,p4,o4⟩ : ∃ H4,upd (upd H3 r (.lst [.int (c3 / 9)])) po (.lst (ow.map V.str)) = H4 ∧ Same H H4 ∧ H4 r = some (.lst [.int (c3 / 9)]) ∧ H4 pp = some (.lst (ss.map V.str)) ∧ H4 po = some (.lst (ow.map V.str)) := by
  have nro : r ≠ po := ne_of_none upd_same hpo
  have npo : pp ≠ po := ne_of_none (by rw [upd_ne nrp.symm]; exact p3) hpo
  exact ⟨_,rfl,(keep S3 But.put).trans (same_new hpo _),by rw [upd_ne nro,upd_same],by rw [upd_ne npo,upd_ne nrp.symm]; exact p3,upd_same⟩
 rw [hH4]
 generalize c3 / 9 = c4 at r4
 have nro : r ≠ po := fun e => by rw [e,o4] at r4; injection r4 with r4; injection r4 with r4; cases ow <;> cases r4
 obtain ⟨m0,m1⟩ := mod_lt c4 (m := 9) (by decide)
 refine ⟨_,rfl,_,rfl,r,c4,9,rfl,r4,by decide,by decide,_,rfl,pp,_,rfl,SqL.of (by rw [upd_ne nrp.symm]; exact p4),fun p5 hp5 => ?_⟩
 rw [cut_from _ _ m0,← List.map_drop]
 obtain ⟨H5,hH5,S5,r5,p5',o5,q5⟩ : ∃ H5,upd (upd H4 r (.lst [.int (c4 / 9)])) p5 (.lst ((ss.drop (c4 % 9).toNat).map V.str)) = H5 ∧ Same H H5 ∧ H5 r = some (.lst [.int (c4 / 9)]) ∧ H5 pp = some (.lst (ss.map V.str)) ∧ H5 po = some (.lst (ow.map V.str)) ∧ H5 p5 = some (.lst ((ss.drop (c4 % 9).toNat).map V.str)) := by
  have n1 : r ≠ p5 := ne_of_none upd_same hp5
  have n2 : pp ≠ p5 := ne_of_none (by rw [upd_ne nrp.symm]; exact p4) hp5
  have n3 : po ≠ p5 := ne_of_none (by rw [upd_ne nro.symm]; exact o4) hp5
  exact ⟨_,rfl,(keep S4 But.put).trans (same_new hp5 _),by rw [upd_ne n1,upd_same],by rw [upd_ne n2,upd_ne nrp.symm]; exact p4,by rw [upd_ne n3,upd_ne nro.symm]; exact o4,upd_same⟩
 rw [hH5]
 generalize c4 / 9 = c5 at r5
 have nr5 : r ≠ p5 := fun e => by rw [e] at hp5; rw [upd_same] at hp5; cases hp5
 obtain ⟨k0,k1⟩ := mod_lt c5 (m := 9) (by decide)
 refine ⟨_,rfl,r,c5,9,rfl,r5,by decide,by decide,_,rfl,p5,_,rfl,SqL.of (by rw [upd_ne nr5.symm]; exact q5),fun ps hps => ?_⟩
 rw [cut_to _ _ k0,← List.map_take]
 generalize hm : (ss.drop (c4 % 9).toNat).take (c5 % 9).toNat = sm
 obtain ⟨H6,hH6,S6,r6,p6,o6,s6⟩ : ∃ H6,upd (upd H5 r (.lst [.int (c5 / 9)])) ps (.lst (sm.map V.str)) = H6 ∧ Same H H6 ∧ H6 r = some (.lst [.int (c5 / 9)]) ∧ H6 pp = some (.lst (ss.map V.str)) ∧ H6 po = some (.lst (ow.map V.str)) ∧ H6 ps = some (.lst (sm.map V.str)) := by
  have n1 : r ≠ ps := ne_of_none upd_same hps
  have n2 : pp ≠ ps := ne_of_none (by rw [upd_ne nrp.symm]; exact p5') hps
  have n3 : po ≠ ps := ne_of_none (by rw [upd_ne nro.symm]; exact o5) hps
  exact ⟨_,rfl,(keep S5 But.put).trans (same_new hps _),by rw [upd_ne n1,upd_same],by rw [upd_ne n2,upd_ne nrp.symm]; exact p5',by rw [upd_ne n3,upd_ne nro.symm]; exact o5,upd_same⟩
 rw [hH6]
 generalize c5 / 9 = c6 at r6
 have nrs : r ≠ ps := fun e => by rw [e] at hps; rw [upd_same] at hps; cases hps
 refine fun pv hpv => ?_
 have g7 := same_new hpv (.dK [])
 have e7 : (upd H6 pv (.dK [])) pv = some (.dK []) := upd_same
 generalize upd H6 pv (.dK []) = H7 at g7 e7 ⊢
 have nrv : r ≠ pv := ne_of_none r6 hpv
 have npv : pp ≠ pv := ne_of_none p6 hpv
 have nov : po ≠ pv := ne_of_none o6 hpv
 have nsv : ps ≠ pv := ne_of_none s6 hpv
 have hpvH : H pv = none := S6.free hpv
 refine ⟨_,rfl,pp,rfl,⟨_,SqL.of (g7 _ _ p6)⟩,for_list (xs := ss.map V.str) (fun j σ H' => ∃ (f : Str → Dt) (c' : Int) (v7 : Option V),Same H H' ∧ H' r = some (.lst [.int c']) ∧ H' pp = some (.lst (ss.map V.str)) ∧ H' po = some (.lst (ow.map V.str)) ∧ H' ps = some (.lst (sm.map V.str)) ∧ DicN K H' pv (ss.take j) f ∧ (∀ z,(f z).dep ≤ 9) ∧ σ = [some (.ref a),some (.int (0 + i)),some (.ref r),some (.ref pp),some (.ref po),some (.ref ps),some (.ref pv),v7,v8,v9,v10,v11,v12,v13,v14,v15])
  ⟨fun _ => .non,c6,_,S6.trans g7,g7 _ _ r6,g7 _ _ p6,g7 _ _ o6,g7 _ _ s6,⟨[],e7,rfl,fun z hz => by cases hz⟩,fun _ => Nat.zero_le _,rfl⟩ (fun j σ H' _ pv => by
   obtain ⟨_,_,_,_,_,e,_⟩ := pv
   exact SqL.of e) ?_ ?_⟩
 ·rintro j u σ H8 hu ⟨f8,c8,v7,S8,r8,p8,o8,s8,⟨kvs,ev8,ek8,kv8⟩,dp8,rfl⟩
  rw [List.getElem?_map] at hu
  obtain ⟨z,hz,rfl⟩ := Option.map_eq_some_iff.mp hu
  refine ⟨_,rfl,_,rfl,(by show 1 ≤ sizeLine; decide),fun p1 hp1 => ?_⟩
  have nr1 : r ≠ p1 := ne_of_none r8 hp1
  have g9 := same_new hp1 (.lst [.int 12])
  refine ⟨r,p1,c8,12,3,by decide,by decide,rfl,nr1,g9 _ _ r8,upd_same,fun vk dk ak ck n4 x4 H4 b4 r4 p4 hvk fkk hak hck => ?_⟩
  have B4 : But r H8 H4 := fun x o n e => b4 x o n (ne_of_none e hp1) (g9 _ _ e)
  refine ⟨r,n4,ak,ck,dk,vk,by lia,rfl,r4,hvk,fkk,fun vv e c5 H5 b5 r5 hvv fv => ?_⟩
  have B5 : But r H8 H5 := B4.trans b5
  have dpe := fv_dep 3 _ _ _ _ hak fkk fv
  have ev5 := B5 _ _ nrv.symm ev8
  have lk : kvs.length ≤ ss.length := by have := congrArg List.length ek8; rw [List.length_map,List.length_map] at this; rw [this]; exact List.length_take_le' _ _
  refine ⟨_,rfl,_,rfl,pv,_,rfl,.inl ⟨kvs,Sum.inr z,ev5,rfl,small1000 (by lia),rfl⟩,?_⟩
  have tk : ss.take (j + 1) = ss.take j ++ [z] := by rw [List.take_add_one,hz]; rfl
  have nz : z ∉ ss.take j := by
   have := (List.take_sublist (j + 1) ss).nodup nd
   rw [tk] at this
   intro c
   exact (List.nodup_append.mp this).2.2 z c z (List.mem_singleton_self z) rfl
  have dn := dicN_put (z := z) ev5 ek8 (fun y hy => by obtain ⟨v,h1,h2⟩ := kv8 y hy; exact ⟨v,h1,h2.but r8 B5⟩) hvv
  rw [if_neg nz,← tk] at dn
  have Bp : But pv H5 (upd H5 pv (.dK (putK kvs (Sum.inr z : Key) vv))) := But.put
  refine ⟨_,c5,_,fun b o eb => Bp b o (ne_of_none eb hpvH) (keep S8 B5 b o eb),Bp _ _ nrv r5,Bp _ _ npv (B5 _ _ nrp.symm p8),Bp _ _ nov (B5 _ _ nro.symm o8),Bp _ _ nsv (B5 _ _ nrs.symm s8),dn,fun y => ?_,rfl⟩
  split
  ·exact dpe
  ·exact dp8 y
 rintro σ H8 ⟨f,c8,v7,S8,r8,p8,o8,s8,dn,dp,rfl⟩
 rw [List.length_map,List.take_length] at dn
 have D : Drawn6 ss ow sm f := ⟨⟨_,hw.symm⟩,⟨_,_,hm.symm⟩,nd,l8,dp⟩
 clear hw hm hH4 hH5 hH6 b3 hpp e2 g2 r3 p3 g1 hpo hp5 hps r4 p4 o4 r5 p5' o5 q5 r6 p6 o6 s6 e7 g7 hpv
 have lo8 := D.ow_len
 have ls8 := D.sm_len
 obtain ⟨kvs,ev8,ek8,kv8⟩ := dn
 refine ⟨_,rfl,po,ow,rfl,SqL.of o8,by lia,fun pa so ha pm srt => ?_⟩
 have aso := sorted_pw srt (pm.nodup_iff.mpr D.ow_nd)
 have mso : ∀ z,z ∈ so ↔ z ∈ ow := fun z => pm.mem_iff
 have lso : so.length ≤ 8 := by rw [pm.length_eq]; exact lo8
 have nso := lt_nodup aso
 have g9 := same_new ha (.lst (so.map V.str))
 have e9 : (upd H8 pa (.lst (so.map V.str))) pa = some (.lst (so.map V.str)) := upd_same
 generalize upd H8 pa (.lst (so.map V.str)) = H9 at g9 e9 ⊢
 refine ⟨pa,rfl,⟨_,SqL.of e9⟩,fun l hl => ?_⟩
 refine comp_listR (K := K) (xs := so.map V.str) (fun j ys σ H' => Same H9 H' ∧ H' l = some (.lst ys) ∧ IsPs K H' ((fl (so.take j) f).map prD) ys ∧ ∃ v1,σ = [v1,some (.ref pv)])
  ⟨same_new hl _,upd_same,.nil,none,rfl⟩ (fun j ys σ H' _ pv => SqL.of (pv.1 _ _ e9)) ?_ ?_
 ·rintro j u ys σ H2 N hu ⟨s2,e2,d2,v1,rfl⟩ next
  rw [List.getElem?_map] at hu
  obtain ⟨z,hz,rfl⟩ := Option.map_eq_some_iff.mp hu
  obtain ⟨v,hv1,hv2⟩ := kv8 z (D.ow_sub ((mso z).mp (List.mem_of_getElem? hz)))
  have hv3 := hv2.same (g9.trans s2)
  have ly : ys.length < sizeLine := by
   rw [← d2.length,List.length_map,List.length_map]
   exact small1000 (by have := List.length_take_le' j so; lia)
  refine ⟨_,rfl,_,rfl,_,rfl,pv,v,rfl,.inl ⟨kvs,Sum.inr z,.inl (s2 _ _ (g9 _ _ ev8)),rfl,hv1.symm⟩,?_⟩
  refine ⟨[.str z,f z],.cons .str (.cons hv3 .nil),(by show 2 ≤ sizeLine; decide),fun vt H3 g3 hvt => ?_⟩
  refine ⟨g3 _ _ e2,ly,next _ _ _ ⟨same_upd hl (s2.trans g3),upd_same,?_,_,rfl⟩⟩
  rw [fl_next hz]
  exact IsPs.but (g3 _ _ e2) But.put ((d2.same g3).append (.cons hvt .nil))
 rintro ys σ H10 ⟨s10,e10,d10,v1',rfl⟩
 rw [List.length_map,List.take_length] at d10
 refine ⟨l,ys,_,rfl,SqL.of e10,d10,fun vt H11 g11 hvt => ?_⟩
 refine ⟨[.str "record",.tup ((fl so f).map prD)],.cons .str (.cons hvt .nil),(by show 2 ≤ sizeLine; decide),fun vr H12 g12 hvr => ?_⟩
 have S12 : Same H8 H12 := ((g9.trans s10).trans g11).trans g12
 generalize hH : H12 = HB at S12 hvr ⊢
 clear hH g12 g11 s10 e10 d10 hvt hl e9 g9 ha
 refine ⟨_,rfl,po,rfl,⟨_,SqL.of (S12 _ _ o8)⟩,for_list (xs := ow.map V.str) (fun j σ H' => Same HB H' ∧ ∃ v7,σ = [some (.ref a),some (.int (0 + i)),some (.ref r),some (.ref pp),some (.ref po),some (.ref ps),some (.ref pv),v7,some vr,v9,v10,v11,v12,v13,v14,v15])
  ⟨Same.refl _,_,rfl⟩ (fun j σ H' _ pv => SqL.of (pv.1 _ _ (S12 _ _ o8))) ?_ ?_⟩
 ·rintro j u σ H2 hu ⟨s2,w7,rfl⟩
  rw [List.getElem?_map] at hu
  obtain ⟨z,hz,rfl⟩ := Option.map_eq_some_iff.mp hu
  have hzo := List.mem_of_getElem? hz
  obtain ⟨v,hv1,hv2⟩ := kv8 z (D.ow_sub hzo)
  refine ⟨_,rfl,_,rfl,fl so f,z,f z,vr,rfl,hvr.same s2,(by rw [fl_look,if_pos ((mso z).mpr hzo)]),fun v' hv' => ?_⟩
  refine ⟨_,rfl,_,rfl,pv,v,rfl,.inl ⟨kvs,Sum.inr z,.inl (s2 _ _ (S12 _ _ ev8)),rfl,hv1.symm⟩,?_⟩
  refine ⟨f z,f z,hv'.d,(hv2.same (S12.trans s2)).d,Nat.le_trans (dp z) (by decide),_,rfl,?_⟩
  rw [neD_same rfl]
  exact iteF ⟨s2,_,rfl⟩
 rintro σ HC ⟨sC,w7,rfl⟩
 have SC := S12.trans sC
 have hvrC := hvr.same sC
 generalize hH : HC = HD at SC hvrC ⊢
 clear hH sC hvr S12
 refine ⟨_,rfl,ps,rfl,⟨_,SqL.of (SC _ _ s8)⟩,fun l hl => ?_⟩
 refine comp_listR (K := K) (xs := sm.map V.str) (fun j ys σ H' => Same HD H' ∧ H' l = some (.lst ys) ∧ IsPs K H' ((sm.take j).map (oth f)) ys ∧ ∃ v1,σ = [v1,some (.ref pv)])
  ⟨same_new hl _,upd_same,.nil,none,rfl⟩ (fun j ys σ H' _ pv => SqL.of (pv.1 _ _ (SC _ _ s8))) ?_ ?_
 ·rintro j u ys σ H2 N hu ⟨s2,e2,d2,v1,rfl⟩ next
  rw [List.getElem?_map] at hu
  obtain ⟨z,hz,rfl⟩ := Option.map_eq_some_iff.mp hu
  obtain ⟨v,hv1,hv2⟩ := kv8 z (D.sm_sub (List.mem_of_getElem? hz))
  have ly : ys.length < sizeLine := by
   rw [← d2.length,List.length_map]
   exact small1000 (by have := List.length_take_le' j sm; lia)
  refine ⟨_,rfl,_,rfl,pv,v,rfl,.inl ⟨kvs,Sum.inr z,.inl (s2 _ _ (SC _ _ ev8)),rfl,hv1.symm⟩,?_⟩
  refine ⟨[f z,.int 3],.cons (hv2.same (SC.trans s2)) (.cons .int .nil),(by show 2 ≤ sizeLine; decide),fun vt H3 g3 hvt => ?_⟩
  refine ⟨[.str "list",.tup [f z,.int 3]],.cons .str (.cons hvt .nil),(by show 2 ≤ sizeLine; decide),fun vo H4 g4 hvo => ?_⟩
  have g34 := g3.trans g4
  refine ⟨g34 _ _ e2,ly,next _ _ _ ⟨same_upd hl (s2.trans g34),upd_same,?_,_,rfl⟩⟩
  have e : (sm.take (j + 1)).map (oth f) = (sm.take j).map (oth f) ++ [oth f z] := (take_next (oth f) hz).symm
  rw [e]
  exact IsPs.but (g34 _ _ e2) But.put ((d2.same g34).append (.cons hvo .nil))
 rintro yo σ HE ⟨sE,eE,dE,v1',rfl⟩
 rw [List.length_map,List.take_length] at dE
 have SE := SC.trans sE
 have hvrE := hvrC.same sE
 refine ⟨_,rfl,ps,_,rfl,.inl (SqL.of (SE _ _ s8)),fun ph hph => ?_⟩
 have gF := same_new hph (.lst (sm.map V.str))
 have eF : (upd HE ph (.lst (sm.map V.str))) ph = some (.lst (sm.map V.str)) := upd_same
 generalize upd HE ph (.lst (sm.map V.str)) = HF at gF eF ⊢
 have SF := SE.trans gF
 have hvrF := hvrE.same gF
 have oF := gF _ _ eE
 have dF := dE.same gF
 clear gF dE eE hph hvrE SE sE hvrC SC hl
 refine ⟨_,rfl,_,rfl,_,rfl,false,fl so f,sm,oth f,vr,ph,l,yo,rfl,hvrF,(by rw [fl_names]; exact nso),(by rw [List.length_map]; exact lso),ls8,SqL.of eF,SqL.of oF,dF,fun vf HG s' gG as' ms' hvf => ?_⟩
 rw [fl_names] at ms'
 have SG := SF.trans gG
 have hvrG := hvrF.same gG
 have hG := gG _ _ eF
 have oG := gG _ _ oF
 have dG := dF.same gG
 clear gG SF hvrF eF oF dF
 refine ⟨(by show 0 ≤ sizeLine; decide),fun pd hpd => ?_⟩
 have gH := same_new hpd (.lst [])
 have eH : (upd HG pd (.lst [])) pd = some (.lst []) := upd_same
 generalize upd HG pd (.lst []) = HH at gH eH ⊢
 have SH := SG.trans gH
 refine ⟨_,rfl,_,rfl,po,ps,_,_,rfl,rfl,SH _ _ o8,SH _ _ s8,(by rw [List.length_map,List.length_map]; exact small (by lia)),fun pc hpc => ?_⟩
 rw [← List.map_append]
 have gI := same_new hpc (.lst ((ow ++ sm).map V.str))
 have eI : (upd HH pc (.lst ((ow ++ sm).map V.str))) pc = some (.lst ((ow ++ sm).map V.str)) := upd_same
 generalize upd HH pc (.lst ((ow ++ sm).map V.str)) = HI at gI eI ⊢
 refine ⟨pc,ow ++ sm,rfl,SqL.of eI,(by rw [List.length_append]; lia),fun pq s0 hpq nd0 ms0 le0 => ?_⟩
 rw [List.length_append] at le0
 have gJ := same_new hpq (setT P w pq s0)
 have eJ : (upd HI pq (setT P w pq s0)) pq = some (setT P w pq s0) := upd_same
 generalize upd HI pq (setT P w pq s0) = HJ at gJ eJ ⊢
 refine ⟨pq,s0,rfl,eJ,by lia,fun pr su hpr pm' srt' => ?_⟩
 have gK := same_new hpr (.lst (su.map V.str))
 have eK : (upd HJ pr (.lst (su.map V.str))) pr = some (.lst (su.map V.str)) := upd_same
 generalize upd HJ pr (.lst (su.map V.str)) = HK at gK eK ⊢
 have asu := sorted_pw srt' (pm'.nodup_iff.mpr nd0)
 have gHK := (gI.trans gJ).trans gK
 have gGK := gH.trans gHK
 have npd : pr ≠ pd := fun e => by have h : HJ pd = some (.lst []) := gJ _ _ (gI _ _ eH); rw [← e,hpr] at h; cases h
 have lsu : su.length ≤ 16 := by rw [pm'.length_eq]; lia
 have esu : s' = su := asc_ext as' asu fun z => by rw [ms' z,mso z,pm'.mem_iff,ms0 z,List.mem_append]
 subst esu
 refine ⟨pr,rfl,⟨_,SqL.of eK⟩,for_list (xs := s'.map V.str) (fun j σ H' => ∃ (ys : List V) (v7 v13 : Option V),Same HG H' ∧ H' pr = some (.lst (s'.map V.str)) ∧ H' pd = some (.lst ys) ∧ IsPs K H' ((fl (s'.take j) fun z => if z ∈ sm then oth f z else f z).map prD) ys ∧ σ = [some (.ref a),some (.int (0 + i)),some (.ref r),some (.ref pp),some (.ref po),some (.ref ps),some (.ref pv),v7,some vr,some (.ref l),some (.ref ph),some vf,some (.ref pd),v13,v14,v15])
  ⟨[],_,_,gGK,eK,gHK _ _ eH,.nil,rfl⟩ (fun j σ H' _ pv => by
   obtain ⟨_,_,_,_,e,_⟩ := pv
   exact SqL.of e) ?_ ?_⟩
 ·rintro j u σ H2 hu ⟨ys,w7,w13,s2,r2,e2,d2,rfl⟩
  rw [List.getElem?_map] at hu
  obtain ⟨z,hz,rfl⟩ := Option.map_eq_some_iff.mp hu
  have hzm := (ms' z).mp (List.mem_of_getElem? hz)
  have hzs : z ∈ ss := by
   rcases hzm with h | h
   ·exact D.ow_sub ((mso z).mp h)
   ·exact D.sm_sub h
  obtain ⟨v,hv1,hv2⟩ := kv8 z hzs
  have ly : ys.length < sizeLine := by
   rw [← d2.length,List.length_map,List.length_map]
   exact small1000 (by have := List.length_take_le' j s'; lia)
  have s82 := SG.trans s2
  refine ⟨_,rfl,_,rfl,pv,v,rfl,.inl ⟨kvs,Sum.inr z,.inl (s82 _ _ ev8),rfl,hv1.symm⟩,?_⟩
  refine ⟨_,rfl,_,rfl,ps,_,rfl,.inl (SqL.of (s82 _ _ s8)),rfl,all_flat _,_,rfl,?_⟩
  have done : ∀ (vv : V),IsP K H2 (if z ∈ sm then oth f z else f z) vv → ∀ (v11 : V) (H11 : Hp),Same H2 H11 → IsP K H11 (.tup [.str z,if z ∈ sm then oth f z else f z]) v11 →
    H11 pd = some (.lst ys) ∧ Same HG (upd H11 pd (.lst (ys ++ [v11]))) ∧ (upd H11 pd (.lst (ys ++ [v11]))) pr = some (.lst (s'.map V.str)) ∧ (upd H11 pd (.lst (ys ++ [v11]))) pd = some (.lst (ys ++ [v11])) ∧ IsPs K (upd H11 pd (.lst (ys ++ [v11]))) ((fl (s'.take (j + 1)) fun z => if z ∈ sm then oth f z else f z).map prD) (ys ++ [v11]) := by
   intro vv hvv v11 H11 g11 hv11
   refine ⟨g11 _ _ e2,fun b o eb => ?_,?_,upd_same,?_⟩
   ·rw [upd_ne (ne_of_none eb hpd)]; exact g11 _ _ (s2 _ _ eb)
   ·rw [upd_ne npd]; exact g11 _ _ r2
   ·rw [fl_next hz]
    exact IsPs.but (g11 _ _ e2) But.put ((d2.same g11).append (.cons hv11 .nil))
  show if inV (V.str z) (sm.map V.str) = true then _ else _
  rw [in_dec]
  refine ite2 (fun c => ?_) (fun c => ?_)
  ·have c' : z ∈ sm := of_decide_eq_true c
   obtain ⟨k,hk1,hk2⟩ := first_at c'
   obtain ⟨vo,hvo1,hvo2⟩ := (dG.same s2).get (i := k) (d := oth f z) (by rw [List.getElem?_map,hk1]; rfl)
   refine ⟨_,rfl,_,rfl,.inl ⟨rfl,_,SqL.of (s82 _ _ s8)⟩,_,rfl,ps,sm,z,k,rfl,rfl,s82 _ _ s8,hk1,hk2,by lia,l,yo,k,vo,rfl,rfl,SqL.of (s2 _ _ oG),atI_nat hvo1,?_⟩
   have hvv : IsP K H2 (if z ∈ sm then oth f z else f z) vo := by rw [if_pos c']; exact hvo2
   refine ⟨_,rfl,.inl ⟨rfl,_,SqL.of e2⟩,_,rfl,_,rfl,[.str z,if z ∈ sm then oth f z else f z],.cons .str (.cons hvv .nil),(by show 2 ≤ sizeLine; decide),fun v11 H11 g11 hv11 => ?_⟩
   obtain ⟨h1,h2,h3,h4,h5⟩ := done vo hvv v11 H11 g11 hv11
   exact ⟨pd,ys,_,rfl,rfl,h1,ly,_,_,_,h2,h3,h4,h5,rfl⟩
  ·have c' : z ∉ sm := fun x => c (decide_eq_true x)
   have hvv : IsP K H2 (if z ∈ sm then oth f z else f z) v := by rw [if_neg c']; exact hv2.same s82
   refine ⟨_,rfl,.inl ⟨rfl,_,SqL.of e2⟩,_,rfl,_,rfl,[.str z,if z ∈ sm then oth f z else f z],.cons .str (.cons hvv .nil),(by show 2 ≤ sizeLine; decide),fun v11 H11 g11 hv11 => ?_⟩
   obtain ⟨h1,h2,h3,h4,h5⟩ := done v hvv v11 H11 g11 hv11
   exact ⟨pd,ys,_,rfl,rfl,h1,ly,_,_,_,h2,h3,h4,h5,rfl⟩
 rintro σ HL ⟨ys',w7',w13,sL,rL,eL,dL,rfl⟩
 rw [List.length_map,List.take_length] at dL
 have SL := SG.trans sL
 have hvrL := hvrG.same sL
 have hvfL := hvf.same sL
 have hL := sL _ _ hG
 clear sL rL gGK gHK gK gJ gI gH eK eJ eI eH hpr hpq hpc hpd SH SG hvrG dG oG hG
 refine ⟨_,rfl,_,rfl,pd,ys',_,rfl,SqL.of eL,dL,fun vt HM gM hvt => ?_⟩
 refine ⟨[.str "record",.tup ((fl s' fun z => if z ∈ sm then oth f z else f z).map prD)],.cons .str (.cons hvt .nil),(by show 2 ≤ sizeLine; decide),fun vd HN gN hvd => ?_⟩
 have gMN := gM.trans gN
 have ef : recF (fl s' fun z => if z ∈ sm then oth f z else (lookS (fl so f) z).getD .non) = recF (fl s' fun z => if z ∈ sm then oth f z else f z) := by
  have : (fl s' fun z => if z ∈ sm then oth f z else (lookS (fl so f) z).getD .non) = fl s' fun z => if z ∈ sm then oth f z else f z := fl_congr fun z hz => by
   by_cases c : z ∈ sm
   ·rw [if_pos c,if_pos c]
   ·rw [if_neg c,if_neg c,fl_look,if_pos (((ms' z).mp hz).resolve_right c)]
    rfl
  rw [recF,this]
 have hvfN := hvfL.same gMN
 have dpf : (recF (fl s' fun z => if z ∈ sm then oth f z else f z)).dep ≤ 60 := Nat.le_trans (fl_dep (B := 12) fun z => by
  split
  ·have := dp z
   simp only [oth,Dt.dep,depS]
   lia
  ·exact Nat.le_trans (dp z) (by decide)) (by decide)
 rw [ef] at hvfN
 refine ⟨_,_,hvfN.d,hvd.d,dpf,_,rfl,?_⟩
 rw [neD_same rfl]
 refine iteF ?_
 have SN := SL.trans gMN
 have hvrN := hvrL.same gMN
 have depn : depS (sm.map Dt.str) ≤ 60 := dep_le fun x hx => by
  obtain ⟨z,_,rfl⟩ := List.mem_map.mp hx
  exact Nat.zero_le _
 refine ⟨_,rfl,_,rfl,ph,ps,_,_,sm.map Dt.str,sm.map Dt.str,rfl,rfl,SqL.of (gMN _ _ hL),SqL.of (SN _ _ s8),(strs_is sm).d,(strs_is sm).d,depn,_,rfl,?_⟩
 have neq : (if true = true then !eqDs (sm.map Dt.str) (sm.map Dt.str) else eqDs (sm.map Dt.str) (sm.map Dt.str)) = false := by rw [eqDs_refl]; rfl
 rw [neq]
 refine iteF ?_
 refine ⟨_,rfl,_,_,_,hvfN,rfl,rfl,fun v1' hv1' => ?_⟩
 obtain ⟨b1,x1,rfl,hb1,_,_⟩ := hv1'.unref
 refine ⟨_,_,_,rfl,.tup_tuple hb1,_,rfl,iteF ?_⟩
 clear hvfN hvfL hvd hvt hvf gMN gM gN hL SL hvrL dpf ef hb1
 refine ⟨_,rfl,_,rfl,ps,_,sm.map Dt.str,rfl,SqL.of (SN _ _ s8),strs_is sm,fun vt HO gO hvt => ?_⟩
 obtain ⟨bt,xt,rfl,hbt,_,rbt⟩ := hvt.unref
 obtain rfl := strs_of rbt
 have SO := SN.trans gO
 have hvrO := hvrN.same gO
 refine ⟨fl so f,sm,vr,bt,rfl,hvrO,(by rw [List.length_map]; exact lso),.inr hbt,fun vl HP gP hvl => ?_⟩
 have efl : ((fl so f).filter fun g => !decide (g.1 ∈ sm)) = fl (so.filter fun z => !decide (z ∈ sm)) f := fl_filter (fun z => !decide (z ∈ sm)) f so
 have SP := SO.trans gP
 have hvrP := hvrO.same gP
 clear hbt rbt gP SO hvrO gO SN hvrN
 refine ⟨_,rfl,_,rfl,_,_,_,hvrP,rfl,rfl,fun v1' hv1' => ?_⟩
 obtain ⟨b1,x1,rfl,hb1,_,rb1⟩ := hv1'.unref
 have el := rb1.length
 rw [List.length_map] at el
 refine ⟨b1,rfl,⟨x1,hb1⟩,fun l2 hl2 => ?_⟩
 refine comp_tupR (K := K) (xs := x1) (fun j ys σ H' => Same HP H' ∧ H' l2 = some (.lst ys) ∧ IsPs K H' ((((fl so f).take j).filter fun g => !decide (g.1 ∈ sm)).map prD) ys ∧ ∃ v1,σ = [v1,some (.ref ps)])
  ⟨same_new hl2 _,upd_same,.nil,none,rfl⟩ (fun j ys σ H' _ pv => pv.1.tup hb1) ?_ ?_
 ·rintro j u ys σ H2 N hu ⟨s2,e2,d2,v1,rfl⟩ next
  obtain ⟨e,he,hp⟩ := rb1.get' hu
  rw [List.getElem?_map] at he
  obtain ⟨⟨z,d⟩,hf,rfl⟩ := Option.map_eq_some_iff.mp he
  have hp2 := hp.same s2
  have ly : ys.length < sizeLine := by
   rw [← d2.length,List.length_map]
   exact small1000 (by have := List.length_filter_le (fun g : Str × Dt => !decide (g.1 ∈ sm)) ((fl so f).take j); have := List.length_take_le' j (fl so f); rw [List.length_map] at this; lia)
  refine ⟨_,rfl,_,_,_,hp2,rfl,rfl,fun vz hvz => ?_⟩
  obtain rfl := isStrV hvz
  refine ⟨_,rfl,ps,_,rfl,.inl (SqL.of (s2 _ _ (SP _ _ s8))),rfl,all_flat _,_,rfl,?_⟩
  rw [in_dec]
  refine ite2 (fun c => ?_) (fun c => ?_)
  ·refine ⟨_,rfl,e2,ly,next _ _ _ ⟨same_upd hl2 s2,upd_same,?_,_,rfl⟩⟩
   rw [filter_next hf]
   have c' : (!decide ((z,d).1 ∈ sm)) = true := c
   rw [if_pos c',List.map_append]
   exact IsPs.but e2 But.put (d2.append (.cons hp2 .nil))
  ·refine next _ _ _ ⟨s2,e2,?_,_,rfl⟩
   rw [filter_next hf]
   have c' : ¬ (!decide ((z,d).1 ∈ sm)) = true := c
   rw [if_neg c',List.append_nil]
   exact d2
 rintro ys2 σ HQ ⟨sQ,eQ,dQ,v1',rfl⟩
 rw [← el,List.take_of_length_le (by rw [List.length_map]; exact Nat.le_refl _)] at dQ
 refine ⟨l2,ys2,_,rfl,SqL.of eQ,dQ,fun vt HR gR hvt => ?_⟩
 refine ⟨[.str "record",.tup (((fl so f).filter fun g => !decide (g.1 ∈ sm)).map prD)],.cons .str (.cons hvt .nil),(by show 2 ≤ sizeLine; decide),fun vd HS gS hvd => ?_⟩
 have gPS := (sQ.trans gR).trans gS
 have hvlS := hvl.same gPS
 refine ⟨_,_,hvlS.d,hvd.d,(by rw [efl]; exact Nat.le_trans (fl_dep dp) (by decide)),_,rfl,?_⟩
 rw [neD_same rfl]
 refine iteF ?_
 have SS := SP.trans gPS
 have hvrS := hvrP.same gPS
 rw [efl] at hvlS
 clear hvd gPS gS gR sQ hvt dQ eQ hl2 el rb1 hb1 hv1' SP hvrP hvl efl
 refine ⟨_,rfl,po,rfl,⟨_,SqL.of (SS _ _ o8)⟩,fun l3 hl3 => ?_⟩
 refine comp_listR (K := K) (xs := ow.map V.str) (fun j ys σ H' => Same HS H' ∧ H' l3 = some (.lst ys) ∧ ys = ((ow.take j).filter fun z => decide (z ∈ sm)).map V.str ∧ ∃ v1,σ = [v1,some (.ref ps)])
  ⟨same_new hl3 _,upd_same,rfl,none,rfl⟩ (fun j ys σ H' _ pv => SqL.of (pv.1 _ _ (SS _ _ o8))) ?_ ?_
 ·rintro j u ys σ H2 N hu ⟨s2,e2,rfl,v1,rfl⟩ next
  rw [List.getElem?_map] at hu
  obtain ⟨z,hz,rfl⟩ := Option.map_eq_some_iff.mp hu
  have ly : (((ow.take j).filter fun z => decide (z ∈ sm)).map V.str).length < sizeLine := by
   rw [List.length_map]
   exact small1000 (by have := List.length_filter_le (fun z : Str => decide (z ∈ sm)) (ow.take j); have := List.length_take_le' j ow; lia)
  have tk : ow.take (j + 1) = ow.take j ++ [z] := by rw [List.take_add_one,hz]; rfl
  refine ⟨_,rfl,_,rfl,ps,_,rfl,.inl (SqL.of (s2 _ _ (SS _ _ s8))),rfl,all_flat _,_,rfl,?_⟩
  show if inV (V.str z) (sm.map V.str) = true then _ else _
  rw [in_dec]
  refine ite2 (fun c => ?_) (fun c => ?_)
  ·refine ⟨_,rfl,e2,ly,next _ _ _ ⟨same_upd hl3 s2,upd_same,?_,_,rfl⟩⟩
   rw [tk,List.filter_append,List.map_append,List.filter_cons_of_pos (p := fun z => decide (z ∈ sm)) c]
   rfl
  ·refine next _ _ _ ⟨s2,e2,?_,_,rfl⟩
   rw [tk,List.filter_append,List.filter_cons_of_neg (p := fun z => decide (z ∈ sm)) c,List.filter_nil,List.append_nil]
 rintro yb σ HT' ⟨sT,eT,rfl,v1',rfl⟩
 rw [List.length_map,List.take_length] at eT
 generalize hbk : (ow.filter fun z => decide (z ∈ sm)) = bk at eT
 have mbk : ∀ z,z ∈ bk ↔ z ∈ ow ∧ z ∈ sm := fun z => by rw [← hbk,List.mem_filter,decide_eq_true_eq]
 have lbk : bk.length ≤ 8 := by rw [← hbk]; exact Nat.le_trans (List.length_filter_le _ _) lo8
 have ST := SS.trans sT
 have hvrT := hvrS.same sT
 have hvlT := hvlS.same sT
 clear sT hl3 SS hvrS hvlS
 refine ⟨_,rfl,_,rfl,l3,_,bk.map Dt.str,rfl,SqL.of eT,strs_is bk,fun vt HU gU hvt => ?_⟩
 have SU := ST.trans gU
 refine ⟨_,rfl,l3,rfl,⟨_,SqL.of (gU _ _ eT)⟩,fun l4 hl4 => ?_⟩
 refine comp_listR (K := K) (xs := bk.map V.str) (fun j ys σ H' => Same HU H' ∧ H' l4 = some (.lst ys) ∧ IsPs K H' ((bk.take j).map f) ys ∧ ∃ v1,σ = [v1,some (.ref pv)])
  ⟨same_new hl4 _,upd_same,.nil,none,rfl⟩ (fun j ys σ H' _ pv => SqL.of (pv.1 _ _ (gU _ _ eT))) ?_ ?_
 ·rintro j u ys σ H2 N hu ⟨s2,e2,d2,v1,rfl⟩ next
  rw [List.getElem?_map] at hu
  obtain ⟨z,hz,rfl⟩ := Option.map_eq_some_iff.mp hu
  obtain ⟨v,hv1,hv2⟩ := kv8 z (D.ow_sub ((mbk z).mp (List.mem_of_getElem? hz)).1)
  have ly : ys.length < sizeLine := by
   rw [← d2.length,List.length_map]
   exact small1000 (by have := List.length_take_le' j bk; lia)
  refine ⟨_,rfl,_,rfl,pv,v,rfl,.inl ⟨kvs,Sum.inr z,.inl (s2 _ _ (SU _ _ ev8)),rfl,hv1.symm⟩,?_⟩
  refine ⟨e2,ly,next _ _ _ ⟨same_upd hl4 s2,upd_same,?_,_,rfl⟩⟩
  have e : (bk.take (j + 1)).map f = (bk.take j).map f ++ [f z] := (take_next f hz).symm
  rw [e]
  exact IsPs.but e2 But.put (d2.append (.cons (hv2.same (SU.trans s2)) .nil))
 rintro y4 σ HV ⟨sV,eV,dV,v1',rfl⟩
 rw [List.length_map,List.take_length] at dV
 refine ⟨l4,y4,_,rfl,SqL.of eV,dV,fun vt2 HW gW hvt2 => ?_⟩
 have gUW := sV.trans gW
 obtain ⟨bt,xt,rfl,hbt,_,rbt⟩ := (hvt.same gUW).unref
 obtain rfl := strs_of rbt
 obtain ⟨bu,xu,rfl,hbu,_,rbu⟩ := hvt2.unref
 have SW := SU.trans gUW
 have gTW := gU.trans gUW
 have hvrW := hvrT.same gTW
 refine ⟨true,fl (so.filter fun z => !decide (z ∈ sm)) f,bk,f,vl,bt,bu,xu,rfl,hvlT.same gTW,(by rw [fl_names]; exact nso.filter _),(by rw [List.length_map]; exact Nat.le_trans (List.length_filter_le _ _) lso),lbk,hbt,hbu,rbu,fun vb HX s2 gX as2 ms2 hvb => ?_⟩
 rw [fl_names] at ms2
 have es2 : s2 = so := asc_ext as2 aso fun z => by
  rw [ms2 z,List.mem_filter,mbk z,mso z]
  by_cases c : z ∈ sm
  ·simp [c]
  ·simp [c]
 subst es2
 have eb : (fl s2 fun z => if z ∈ bk then f z else (lookS (fl (s2.filter fun z => !decide (z ∈ sm)) f) z).getD .non) = fl s2 f := fl_congr fun z hz => by
  by_cases c : z ∈ bk
  ·rw [if_pos c]
  ·rw [if_neg c,fl_look,if_pos (by
    rw [List.mem_filter]
    refine ⟨hz,?_⟩
    have : z ∉ sm := fun x => c ((mbk z).mpr ⟨(mso z).mp hz,x⟩)
    simp [this])]
   rfl
 rw [eb] at hvb
 have hvrX := hvrW.same gX
 have dpr : (recF (fl s2 f)).dep ≤ 60 := Nat.le_trans (fl_dep dp) (by decide)
 refine ⟨_,rfl,_,_,hvb.d,hvrX.d,dpr,_,rfl,?_⟩
 rw [neD_same rfl]
 refine iteF ?_
 have SX := SW.trans gX
 clear hvb eb gX hvrW gTW SW hbu rbu hvt2 hbt rbt gUW gW dV eV sV hl4 SU hvt gU ST hvrT hvlT eT ms2
 refine ⟨_,rfl,(by show 0 ≤ sizeLine; decide),fun q1 hq1 => ?_⟩
 have gY := same_new hq1 (.lst [])
 have eY : (upd HX q1 (.lst [])) q1 = some (.lst []) := upd_same
 generalize upd HX q1 (.lst []) = HY at gY eY ⊢
 refine ⟨(by show 0 ≤ sizeLine; decide),fun q2 hq2 => ?_⟩
 have gZ := same_new hq2 (.lst [])
 have eZ : (upd HY q2 (.lst [])) q2 = some (.lst []) := upd_same
 generalize upd HY q2 (.lst []) = HZ at gZ eZ ⊢
 have gXZ := gY.trans gZ
 have hvrZ := hvrX.same gXZ
 refine ⟨false,fl s2 f,[],f,vr,q1,q2,[],rfl,hvrZ,(by rw [fl_names]; exact nso),(by rw [List.length_map]; exact lso),Nat.zero_le _,SqL.of (gZ _ _ eY),SqL.of eZ,.nil,fun vb HA s3 gA as3 ms3 hvb => ?_⟩
 rw [fl_names] at ms3
 have es3 : s3 = s2 := asc_ext as3 aso fun z => by rw [ms3 z]; simp
 subst es3
 have eb : (fl s3 fun z => if z ∈ ([] : List Str) then f z else (lookS (fl s3 f) z).getD .non) = fl s3 f := fl_congr fun z hz => by
  rw [if_neg (by simp),fl_look,if_pos hz]
  rfl
 rw [eb] at hvb
 have hvrA := hvrZ.same gA
 refine ⟨_,rfl,_,_,hvb.d,hvrA.d,dpr,_,rfl,?_⟩
 rw [neD_same rfl]
 refine iteF ?_
 refine ⟨_,rfl,(by show 0 ≤ sizeLine; decide),fun q3 hq3 => ?_⟩
 have gB := same_new hq3 (.lst [])
 have eB : (upd HA q3 (.lst [])) q3 = some (.lst []) := upd_same
 generalize upd HA q3 (.lst []) = HB' at gB eB ⊢
 have hvrB := hvrA.same gB
 refine ⟨fl s3 f,[],vr,q3,rfl,hvrB,(by rw [List.length_map]; exact lso),.inl (SqL.of eB),fun vc HC' gC hvc => ?_⟩
 have ec : ((fl s3 f).filter fun g => !decide (g.1 ∈ ([] : List Str))) = fl s3 f := List.filter_eq_self.mpr fun g _ => by simp
 rw [ec] at hvc
 refine ⟨_,rfl,_,_,hvc.d,(hvrB.same gC).d,dpr,_,rfl,?_⟩
 rw [neD_same rfl]
 refine iteF ?_
 exact ⟨((((S8.trans SX).trans gXZ).trans gA).trans gB).trans gC,_,_,_,_,_,_,_,_,_,_,_,_,_,_,_,rfl⟩
end
@[elab_as_elim] theorem of_len0 {α : Type} {p : List α → Prop} {us : List α} (hl : us.length = 0) (h : p []) : p us := by
 cases us with
 | nil => exact h
 | cons a r => cases hl
@[elab_as_elim] theorem of_len1 {α : Type} {p : List α → Prop} {us : List α} (hl : us.length = 1) (h : ∀ x0,p [x0]) : p us := by
 cases us with
 | nil => cases hl
 | cons a r => exact of_len0 (p := fun r => p (a :: r)) (Nat.succ.inj hl) (h a)
@[elab_as_elim] theorem of_len2 {α : Type} {p : List α → Prop} {us : List α} (hl : us.length = 2) (h : ∀ x0 x1,p [x0,x1]) : p us := by
 cases us with
 | nil => cases hl
 | cons a r => exact of_len1 (p := fun r => p (a :: r)) (Nat.succ.inj hl) (h a)
@[elab_as_elim] theorem of_len3 {α : Type} {p : List α → Prop} {us : List α} (hl : us.length = 3) (h : ∀ x0 x1 x2,p [x0,x1,x2]) : p us := by
 cases us with
 | nil => cases hl
 | cons a r => exact of_len2 (p := fun r => p (a :: r)) (Nat.succ.inj hl) (h a)
theorem tx_mk {K : PySem.W.Frag} {h : Heap} {mg : Str → Option Value} (X : K.In h) (G : h.Ns mainGlobals mg)
  {f0 : Addr} {od0 an0 : Option Addr} {sl0 : Array (Option Value)} {oc0 kV0 dc0 pm0 cd0 ct0 : Value}
  {f1 : Addr} {od1 an1 : Option Addr} {sl1 : Array (Option Value)} {oc1 kV1 dc1 pm1 cd1 ct1 : Value}
  {f2 : Addr} {od2 an2 : Option Addr} {sl2 : Array (Option Value)} {oc2 kV2 dc2 pm2 cd2 ct2 : Value}
  {f3 : Addr} {od3 an3 : Option Addr} {sl3 : Array (Option Value)} {oc3 kV3 dc3 pm3 cd3 ct3 : Value}
  {f4 : Addr} {od4 an4 : Option Addr} {sl4 : Array (Option Value)} {oc4 kV4 dc4 pm4 cd4 ct4 : Value}
  {f5 : Addr} {od5 an5 : Option Addr} {sl5 : Array (Option Value)} {oc5 kV5 dc5 pm5 cd5 ct5 : Value}
  {f6 : Addr} {od6 an6 : Option Addr} {sl6 : Array (Option Value)} {oc6 kV6 dc6 pm6 cd6 ct6 : Value}
  {f7 : Addr} {od7 an7 : Option Addr} {sl7 : Array (Option Value)} {oc7 kV7 dc7 pm7 cd7 ct7 : Value}
  {f8 : Addr} {od8 an8 : Option Addr} {sl8 : Array (Option Value)} {oc8 kV8 dc8 pm8 cd8 ct8 : Value}
  {f9 : Addr} {od9 an9 : Option Addr} {sl9 : Array (Option Value)} {oc9 kV9 dc9 pm9 cd9 ct9 : Value}
  {f10 : Addr} {od10 an10 : Option Addr} {sl10 : Array (Option Value)} {oc10 kV10 dc10 pm10 cd10 ct10 : Value}
  {f11 : Addr} {od11 an11 : Option Addr} {sl11 : Array (Option Value)} {oc11 kV11 dc11 pm11 cd11 ct11 : Value}
  {f12 : Addr} {od12 an12 : Option Addr} {sl12 : Array (Option Value)} {oc12 kV12 dc12 pm12 cd12 ct12 : Value}
  {f13 : Addr} {od13 an13 : Option Addr} {sl13 : Array (Option Value)} {oc13 kV13 dc13 pm13 cd13 ct13 : Value}
  {f14 : Addr} {od14 an14 : Option Addr} {sl14 : Array (Option Value)} {oc14 kV14 dc14 pm14 cd14 ct14 : Value}
  {f15 : Addr} {od15 an15 : Option Addr} {sl15 : Array (Option Value)} {oc15 kV15 dc15 pm15 cd15 ct15 : Value}
  {f16 : Addr} {od16 an16 : Option Addr} {sl16 : Array (Option Value)} {oc16 kV16 dc16 pm16 cd16 ct16 : Value}
  {f17 : Addr} {od17 an17 : Option Addr} {sl17 : Array (Option Value)} {oc17 kV17 dc17 pm17 cd17 ct17 : Value}
  {f18 : Addr} {od18 an18 : Option Addr} {sl18 : Array (Option Value)} {oc18 kV18 dc18 pm18 cd18 ct18 : Value}
  {f19 : Addr} {od19 an19 : Option Addr} {sl19 : Array (Option Value)} {oc19 kV19 dc19 pm19 cd19 ct19 : Value}
  (a0 : PySem.W.nsIn K mainGlobals "field_of" = some (some (.ref f0))) (l0 : K.lookup f0 = some ⟨oc0,od0,.func (PySem.W.fnOf "field_of" "field_of" (defArgs s_field_of) (defBody s_field_of) (defScope s_field_of) .none kV0 dc0 pm0 an0 cd0 ct0),sl0⟩) (c0 : PySem.W.codeIn K cd0 "field_of" = true) (k0 : PySem.W.keepIn K (.ref f0) = true)
  (a1 : PySem.W.nsIn K mainGlobals "record_of" = some (some (.ref f1))) (l1 : K.lookup f1 = some ⟨oc1,od1,.func (PySem.W.fnOf "record_of" "record_of" (defArgs s_record_of) (defBody s_record_of) (defScope s_record_of) .none kV1 dc1 pm1 an1 cd1 ct1),sl1⟩) (c1 : PySem.W.codeIn K cd1 "record_of" = true) (k1 : PySem.W.keepIn K (.ref f1) = true)
  (a2 : PySem.W.nsIn K mainGlobals "with_fields" = some (some (.ref f2))) (l2 : K.lookup f2 = some ⟨oc2,od2,.func (PySem.W.fnOf "with_fields" "with_fields" (defArgs s_with_fields) (defBody s_with_fields) (defScope s_with_fields) .none kV2 dc2 pm2 an2 cd2 ct2),sl2⟩) (c2 : PySem.W.codeIn K cd2 "with_fields" = true) (k2 : PySem.W.keepIn K (.ref f2) = true)
  (a3 : PySem.W.nsIn K mainGlobals "without_fields" = some (some (.ref f3))) (l3 : K.lookup f3 = some ⟨oc3,od3,.func (PySem.W.fnOf "without_fields" "without_fields" (defArgs s_without_fields) (defBody s_without_fields) (defScope s_without_fields) .none kV3 dc3 pm3 an3 cd3 ct3),sl3⟩) (c3 : PySem.W.codeIn K cd3 "without_fields" = true) (k3 : PySem.W.keepIn K (.ref f3) = true)
  (a4 : PySem.W.nsIn K mainGlobals "_law_cell_at" = some (some (.ref f4))) (l4 : K.lookup f4 = some ⟨oc4,od4,.func (PySem.W.fnOf "_law_cell_at" "_law_cell_at" (defArgs s_law_cell_at) (defBody s_law_cell_at) (defScope s_law_cell_at) .none kV4 dc4 pm4 an4 cd4 ct4),sl4⟩) (c4 : PySem.W.codeIn K cd4 "_law_cell_at" = true) (k4 : PySem.W.keepIn K (.ref f4) = true)
  (a5 : PySem.W.nsIn K mainGlobals "_law_mixed" = some (some (.ref f5))) (l5 : K.lookup f5 = some ⟨oc5,od5,.func (PySem.W.fnOf "_law_mixed" "_law_mixed" (defArgs s_law_mixed) (defBody s_law_mixed) (defScope s_law_mixed) .none kV5 dc5 pm5 an5 cd5 ct5),sl5⟩) (c5 : PySem.W.codeIn K cd5 "_law_mixed" = true) (k5 : PySem.W.keepIn K (.ref f5) = true)
  (a6 : PySem.W.nsIn K mainGlobals "_law_own" = some (some (.ref f6))) (l6 : K.lookup f6 = some ⟨oc6,od6,.func (PySem.W.fnOf "_law_own" "_law_own" (defArgs s_law_own) (defBody s_law_own) (defScope s_law_own) .none kV6 dc6 pm6 an6 cd6 ct6),sl6⟩) (c6 : PySem.W.codeIn K cd6 "_law_own" = true) (k6 : PySem.W.keepIn K (.ref f6) = true)
  (a7 : PySem.W.nsIn K mainGlobals "_law_digit" = some (some (.ref f7))) (l7 : K.lookup f7 = some ⟨oc7,od7,.func (PySem.W.fnOf "_law_digit" "_law_digit" (defArgs s_law_digit) (defBody s_law_digit) (defScope s_law_digit) .none kV7 dc7 pm7 an7 cd7 ct7),sl7⟩) (c7 : PySem.W.codeIn K cd7 "_law_digit" = true) (k7 : PySem.W.keepIn K (.ref f7) = true)
  (a8 : PySem.W.nsIn K mainGlobals "_law_names" = some (some (.ref f8))) (l8 : K.lookup f8 = some ⟨oc8,od8,.func (PySem.W.fnOf "_law_names" "_law_names" (defArgs s_law_names) (defBody s_law_names) (defScope s_law_names) .none kV8 dc8 pm8 an8 cd8 ct8),sl8⟩) (c8 : PySem.W.codeIn K cd8 "_law_names" = true) (k8 : PySem.W.keepIn K (.ref f8) = true)
  (a9 : PySem.W.nsIn K mainGlobals "_law_number_kind" = some (some (.ref f9))) (l9 : K.lookup f9 = some ⟨oc9,od9,.func (PySem.W.fnOf "_law_number_kind" "_law_number_kind" (defArgs s_law_number_kind) (defBody s_law_number_kind) (defScope s_law_number_kind) .none kV9 dc9 pm9 an9 cd9 ct9),sl9⟩) (c9 : PySem.W.codeIn K cd9 "_law_number_kind" = true) (k9 : PySem.W.keepIn K (.ref f9) = true)
  (a10 : PySem.W.nsIn K mainGlobals "_law_leaf_kind" = some (some (.ref f10))) (l10 : K.lookup f10 = some ⟨oc10,od10,.func (PySem.W.fnOf "_law_leaf_kind" "_law_leaf_kind" (defArgs s_law_leaf_kind) (defBody s_law_leaf_kind) (defScope s_law_leaf_kind) .none kV10 dc10 pm10 an10 cd10 ct10),sl10⟩) (c10 : PySem.W.codeIn K cd10 "_law_leaf_kind" = true) (k10 : PySem.W.keepIn K (.ref f10) = true)
  (a11 : PySem.W.nsIn K mainGlobals "_law_record_kind" = some (some (.ref f11))) (l11 : K.lookup f11 = some ⟨oc11,od11,.func (PySem.W.fnOf "_law_record_kind" "_law_record_kind" (defArgs s_law_record_kind) (defBody s_law_record_kind) (defScope s_law_record_kind) .none kV11 dc11 pm11 an11 cd11 ct11),sl11⟩) (c11 : PySem.W.codeIn K cd11 "_law_record_kind" = true) (k11 : PySem.W.keepIn K (.ref f11) = true)
  (a12 : PySem.W.nsIn K mainGlobals "_law_rows_kind" = some (some (.ref f12))) (l12 : K.lookup f12 = some ⟨oc12,od12,.func (PySem.W.fnOf "_law_rows_kind" "_law_rows_kind" (defArgs s_law_rows_kind) (defBody s_law_rows_kind) (defScope s_law_rows_kind) .none kV12 dc12 pm12 an12 cd12 ct12),sl12⟩) (c12 : PySem.W.codeIn K cd12 "_law_rows_kind" = true) (k12 : PySem.W.keepIn K (.ref f12) = true)
  (a13 : PySem.W.nsIn K mainGlobals "_law_kind" = some (some (.ref f13))) (l13 : K.lookup f13 = some ⟨oc13,od13,.func (PySem.W.fnOf "_law_kind" "_law_kind" (defArgs s_law_kind) (defBody s_law_kind) (defScope s_law_kind) .none kV13 dc13 pm13 an13 cd13 ct13),sl13⟩) (c13 : PySem.W.codeIn K cd13 "_law_kind" = true) (k13 : PySem.W.keepIn K (.ref f13) = true)
  (a14 : PySem.W.nsIn K mainGlobals "_law_text" = some (some (.ref f14))) (l14 : K.lookup f14 = some ⟨oc14,od14,.func (PySem.W.fnOf "_law_text" "_law_text" (defArgs s_law_text) (defBody s_law_text) (defScope s_law_text) .none kV14 dc14 pm14 an14 cd14 ct14),sl14⟩) (c14 : PySem.W.codeIn K cd14 "_law_text" = true) (k14 : PySem.W.keepIn K (.ref f14) = true)
  (a15 : PySem.W.nsIn K mainGlobals "_law_keys" = some (some (.ref f15))) (l15 : K.lookup f15 = some ⟨oc15,od15,.func (PySem.W.fnOf "_law_keys" "_law_keys" (defArgs s_law_keys) (defBody s_law_keys) (defScope s_law_keys) .none kV15 dc15 pm15 an15 cd15 ct15),sl15⟩) (c15 : PySem.W.codeIn K cd15 "_law_keys" = true) (k15 : PySem.W.keepIn K (.ref f15) = true)
  (a16 : PySem.W.nsIn K mainGlobals "_law_row_values" = some (some (.ref f16))) (l16 : K.lookup f16 = some ⟨oc16,od16,.func (PySem.W.fnOf "_law_row_values" "_law_row_values" (defArgs s_law_row_values) (defBody s_law_row_values) (defScope s_law_row_values) .none kV16 dc16 pm16 an16 cd16 ct16),sl16⟩) (c16 : PySem.W.codeIn K cd16 "_law_row_values" = true) (k16 : PySem.W.keepIn K (.ref f16) = true)
  (a17 : PySem.W.nsIn K mainGlobals "_law_value" = some (some (.ref f17))) (l17 : K.lookup f17 = some ⟨oc17,od17,.func (PySem.W.fnOf "_law_value" "_law_value" (defArgs s_law_value) (defBody s_law_value) (defScope s_law_value) .none kV17 dc17 pm17 an17 cd17 ct17),sl17⟩) (c17 : PySem.W.codeIn K cd17 "_law_value" = true) (k17 : PySem.W.keepIn K (.ref f17) = true)
  (a18 : PySem.W.nsIn K mainGlobals "_law_pool" = some (some (.ref f18))) (l18 : K.lookup f18 = some ⟨oc18,od18,.func (PySem.W.fnOf "_law_pool" "_law_pool" (defArgs s_law_pool) (defBody s_law_pool) (defScope s_law_pool) .none kV18 dc18 pm18 an18 cd18 ct18),sl18⟩) (c18 : PySem.W.codeIn K cd18 "_law_pool" = true) (k18 : PySem.W.keepIn K (.ref f18) = true)
  (a19 : PySem.W.nsIn K mainGlobals "law" = some (some (.ref f19))) (l19 : K.lookup f19 = some ⟨oc19,od19,.func (PySem.W.fnOf "law" "law" (defArgs s_law) (defBody s_law) (defScope s_law) .none kV19 dc19 pm19 an19 cd19 ct19),sl19⟩) (c19 : PySem.W.codeIn K cd19 "law" = true) (k19 : PySem.W.keepIn K (.ref f19) = true)
  (z0 : PySem.W.nsIn K mainGlobals "any" = some none)
  (z1 : PySem.W.nsIn K mainGlobals "dict" = some none)
  (z2 : PySem.W.nsIn K mainGlobals "int" = some none)
  (z3 : PySem.W.nsIn K mainGlobals "isinstance" = some none)
  (z4 : PySem.W.nsIn K mainGlobals "len" = some none)
  (z5 : PySem.W.nsIn K mainGlobals "list" = some none)
  (z6 : PySem.W.nsIn K mainGlobals "min" = some none)
  (z7 : PySem.W.nsIn K mainGlobals "range" = some none)
  (z8 : PySem.W.nsIn K mainGlobals "set" = some none)
  (z9 : PySem.W.nsIn K mainGlobals "sorted" = some none)
  (z10 : PySem.W.nsIn K mainGlobals "sum" = some none)
  (z11 : PySem.W.nsIn K mainGlobals "tuple" = some none)
  (z12 : PySem.W.nsIn K mainGlobals "zip" = some none) : Tx K mg :=
 ⟨⟨f0,_,fun_mk (st := s_field_of) l0 c0 k0,(fun_mk (st := s_field_of) l0 c0 k0).binds (ps := ["record","name"]) fun _ _ _ _ _ _ us hl => of_len2 hl fun _ _ => rfl,PySem.W.mg_of X G a0⟩,
  ⟨f1,_,fun_mk (st := s_record_of) l1 c1 k1,(fun_mk (st := s_record_of) l1 c1 k1).binds (ps := ["fields"]) fun _ _ _ _ _ _ us hl => of_len1 hl fun _ => rfl,PySem.W.mg_of X G a1⟩,
  ⟨f2,_,fun_mk (st := s_with_fields) l2 c2 k2,(fun_mk (st := s_with_fields) l2 c2 k2).binds (ps := ["record","names","values"]) fun _ _ _ _ _ _ us hl => of_len3 hl fun _ _ _ => rfl,PySem.W.mg_of X G a2⟩,
  ⟨f3,_,fun_mk (st := s_without_fields) l3 c3 k3,(fun_mk (st := s_without_fields) l3 c3 k3).binds (ps := ["record","names"]) fun _ _ _ _ _ _ us hl => of_len2 hl fun _ _ => rfl,PySem.W.mg_of X G a3⟩,
  ⟨f4,_,fun_mk (st := s_law_cell_at) l4 c4 k4,(fun_mk (st := s_law_cell_at) l4 c4 k4).binds (ps := ["script","k"]) fun _ _ _ _ _ _ us hl => of_len2 hl fun _ _ => rfl,PySem.W.mg_of X G a4⟩,
  ⟨f5,_,fun_mk (st := s_law_mixed) l5 c5 k5,(fun_mk (st := s_law_mixed) l5 c5 k5).binds (ps := ["cell","k"]) fun _ _ _ _ _ _ us hl => of_len2 hl fun _ _ => rfl,PySem.W.mg_of X G a5⟩,
  ⟨f6,_,fun_mk (st := s_law_own) l6 c6 k6,(fun_mk (st := s_law_own) l6 c6 k6).binds (ps := ["script","k"]) fun _ _ _ _ _ _ us hl => of_len2 hl fun _ _ => rfl,PySem.W.mg_of X G a6⟩,
  ⟨f7,_,fun_mk (st := s_law_digit) l7 c7 k7,(fun_mk (st := s_law_digit) l7 c7 k7).binds (ps := ["row","many"]) fun _ _ _ _ _ _ us hl => of_len2 hl fun _ _ => rfl,PySem.W.mg_of X G a7⟩,
  ⟨f8,_,fun_mk (st := s_law_names) l8 c8 k8,(fun_mk (st := s_law_names) l8 c8 k8).binds (ps := ["row","many"]) fun _ _ _ _ _ _ us hl => of_len2 hl fun _ _ => rfl,PySem.W.mg_of X G a8⟩,
  ⟨f9,_,fun_mk (st := s_law_number_kind) l9 c9 k9,(fun_mk (st := s_law_number_kind) l9 c9 k9).binds (ps := ["row"]) fun _ _ _ _ _ _ us hl => of_len1 hl fun _ => rfl,PySem.W.mg_of X G a9⟩,
  ⟨f10,_,fun_mk (st := s_law_leaf_kind) l10 c10 k10,(fun_mk (st := s_law_leaf_kind) l10 c10 k10).binds (ps := ["row"]) fun _ _ _ _ _ _ us hl => of_len1 hl fun _ => rfl,PySem.W.mg_of X G a10⟩,
  ⟨f11,_,fun_mk (st := s_law_record_kind) l11 c11 k11,(fun_mk (st := s_law_record_kind) l11 c11 k11).binds (ps := ["row","deep","room"]) fun _ _ _ _ _ _ us hl => of_len3 hl fun _ _ _ => rfl,PySem.W.mg_of X G a11⟩,
  ⟨f12,_,fun_mk (st := s_law_rows_kind) l12 c12 k12,(fun_mk (st := s_law_rows_kind) l12 c12 k12).binds (ps := ["row","deep","room"]) fun _ _ _ _ _ _ us hl => of_len3 hl fun _ _ _ => rfl,PySem.W.mg_of X G a12⟩,
  ⟨f13,_,fun_mk (st := s_law_kind) l13 c13 k13,(fun_mk (st := s_law_kind) l13 c13 k13).binds (ps := ["row","deep","room"]) fun _ _ _ _ _ _ us hl => of_len3 hl fun _ _ _ => rfl,PySem.W.mg_of X G a13⟩,
  ⟨f14,_,fun_mk (st := s_law_text) l14 c14 k14,(fun_mk (st := s_law_text) l14 c14 k14).binds (ps := ["row","most"]) fun _ _ _ _ _ _ us hl => of_len2 hl fun _ _ => rfl,PySem.W.mg_of X G a14⟩,
  ⟨f15,_,fun_mk (st := s_law_keys) l15 c15 k15,(fun_mk (st := s_law_keys) l15 c15 k15).binds (ps := ["row","kind"]) fun _ _ _ _ _ _ us hl => of_len2 hl fun _ _ => rfl,PySem.W.mg_of X G a15⟩,
  ⟨f16,_,fun_mk (st := s_law_row_values) l16 c16 k16,(fun_mk (st := s_law_row_values) l16 c16 k16).binds (ps := ["row","kind"]) fun _ _ _ _ _ _ us hl => of_len2 hl fun _ _ => rfl,PySem.W.mg_of X G a16⟩,
  ⟨f17,_,fun_mk (st := s_law_value) l17 c17 k17,(fun_mk (st := s_law_value) l17 c17 k17).binds (ps := ["row","kind"]) fun _ _ _ _ _ _ us hl => of_len2 hl fun _ _ => rfl,PySem.W.mg_of X G a17⟩,
  ⟨f18,_,fun_mk (st := s_law_pool) l18 c18 k18,(fun_mk (st := s_law_pool) l18 c18 k18).binds (ps := ["row"]) fun _ _ _ _ _ _ us hl => of_len1 hl fun _ => rfl,PySem.W.mg_of X G a18⟩,
  ⟨f19,_,fun_mk (st := s_law) l19 c19 k19,(fun_mk (st := s_law) l19 c19 k19).binds (ps := ["script"]) fun _ _ _ _ _ _ us hl => of_len1 hl fun _ => rfl,PySem.W.mg_of X G a19⟩,
  PySem.W.mg_none_of X G z0,
  PySem.W.mg_none_of X G z1,
  PySem.W.mg_none_of X G z2,
  PySem.W.mg_none_of X G z3,
  PySem.W.mg_none_of X G z4,
  PySem.W.mg_none_of X G z5,
  PySem.W.mg_none_of X G z6,
  PySem.W.mg_none_of X G z7,
  PySem.W.mg_none_of X G z8,
  PySem.W.mg_none_of X G z9,
  PySem.W.mg_none_of X G z10,
  PySem.W.mg_none_of X G z11,
  PySem.W.mg_none_of X G z12⟩
theorem law_binds {K : PySem.W.Frag} {f : Addr} {fd : FuncData} (F : Fun K "law" "law" s_law f fd) : ∀ (s : Shared) (u : Value),BindsTo s fd ⟨[u],[]⟩ [("script",u)] := by
 obtain ⟨oc,od,kV,doc,pm,an,cdv,ct,osl,rfl,lk,hcd⟩ := F.ex
 exact fun s u => .of_eq rfl
end K06
open PySem PySem.W PyProof.Rows
set_option maxRecDepth 100000 in
set_option maxHeartbeats 0 in
theorem PySem.Challenge.cw_oldhands_k06_fields_holds : PySem.Challenge.rw_oldhands_k06_fields.Holds := by
 w_on
 refine PySem.W.holds_law K06.said fun said => ?_
 refine PySem.W.holds_open (q := K06.hQ) (loose := K06.hW) (Xt := K06.hX) (XP := fun _ _ => True) (Yf := K06.hH.obs) (Ya := K06.hH.val) (YP := PySem.W.InK K06.hK) (N := 1352) K06.hl K06.hH.of K06.hH.keeps (fun _ _ => trivial) (fun _ _ _ _ _ => trivial) (by rfl) (by rfl) (by rfl) (fun s e => PySem.W.recFacts_of e) (by rfl) said (by decide +kernel) ⟨rfl,rfl,rfl,rfl,rfl,by decide +kernel⟩ ?hw ?hc
 case hw => w_witness2
 k_fill
 refine L2.walk_ofK (l := PySem.Challenge.rw_oldhands_k06_fields) (K := K06.hK) (n := 63) (k := K06.depth) (x := "script") (CX := L2.CX0) (sp := K06.spLaw) rfl (by decide) rfl ⟨rfl,by decide,by decide⟩ (fun w h Y => Y) ?F (fun _ _ a ns hl _ hS => ⟨a,ns,rfl,hS,hl,fun _ => rfl⟩) (fun _ _ _ _ z => z)
 case F =>
  intro w mg fa h KX G hmg
  have T : K06.Tx (L2.KOf KX) mg := by
   dsimp only [L2.KOf]
   refine' K06.tx_mk KX G ?ya0 ?yl0 ?yc0 ?yk0 ?ya1 ?yl1 ?yc1 ?yk1 ?ya2 ?yl2 ?yc2 ?yk2 ?ya3 ?yl3 ?yc3 ?yk3 ?ya4 ?yl4 ?yc4 ?yk4 ?ya5 ?yl5 ?yc5 ?yk5 ?ya6 ?yl6 ?yc6 ?yk6 ?ya7 ?yl7 ?yc7 ?yk7 ?ya8 ?yl8 ?yc8 ?yk8 ?ya9 ?yl9 ?yc9 ?yk9 ?ya10 ?yl10 ?yc10 ?yk10 ?ya11 ?yl11 ?yc11 ?yk11 ?ya12 ?yl12 ?yc12 ?yk12 ?ya13 ?yl13 ?yc13 ?yk13 ?ya14 ?yl14 ?yc14 ?yk14 ?ya15 ?yl15 ?yc15 ?yk15 ?ya16 ?yl16 ?yc16 ?yk16 ?ya17 ?yl17 ?yc17 ?yk17 ?ya18 ?yl18 ?yc18 ?yk18 ?ya19 ?yl19 ?yc19 ?yk19 ?yz0 ?yz1 ?yz2 ?yz3 ?yz4 ?yz5 ?yz6 ?yz7 ?yz8 ?yz9 ?yz10 ?yz11 ?yz12
   (case ya0 => k_is)
   (case yl0 => k_is)
   (case yc0 => k_is)
   (case yk0 => k_is)
   (case ya1 => k_is)
   (case yl1 => k_is)
   (case yc1 => k_is)
   (case yk1 => k_is)
   (case ya2 => k_is)
   (case yl2 => k_is)
   (case yc2 => k_is)
   (case yk2 => k_is)
   (case ya3 => k_is)
   (case yl3 => k_is)
   (case yc3 => k_is)
   (case yk3 => k_is)
   (case ya4 => k_is)
   (case yl4 => k_is)
   (case yc4 => k_is)
   (case yk4 => k_is)
   (case ya5 => k_is)
   (case yl5 => k_is)
   (case yc5 => k_is)
   (case yk5 => k_is)
   (case ya6 => k_is)
   (case yl6 => k_is)
   (case yc6 => k_is)
   (case yk6 => k_is)
   (case ya7 => k_is)
   (case yl7 => k_is)
   (case yc7 => k_is)
   (case yk7 => k_is)
   (case ya8 => k_is)
   (case yl8 => k_is)
   (case yc8 => k_is)
   (case yk8 => k_is)
   (case ya9 => k_is)
   (case yl9 => k_is)
   (case yc9 => k_is)
   (case yk9 => k_is)
   (case ya10 => k_is)
   (case yl10 => k_is)
   (case yc10 => k_is)
   (case yk10 => k_is)
   (case ya11 => k_is)
   (case yl11 => k_is)
   (case yc11 => k_is)
   (case yk11 => k_is)
   (case ya12 => k_is)
   (case yl12 => k_is)
   (case yc12 => k_is)
   (case yk12 => k_is)
   (case ya13 => k_is)
   (case yl13 => k_is)
   (case yc13 => k_is)
   (case yk13 => k_is)
   (case ya14 => k_is)
   (case yl14 => k_is)
   (case yc14 => k_is)
   (case yk14 => k_is)
   (case ya15 => k_is)
   (case yl15 => k_is)
   (case yc15 => k_is)
   (case yk15 => k_is)
   (case ya16 => k_is)
   (case yl16 => k_is)
   (case yc16 => k_is)
   (case yk16 => k_is)
   (case ya17 => k_is)
   (case yl17 => k_is)
   (case yc17 => k_is)
   (case yk17 => k_is)
   (case ya18 => k_is)
   (case yl18 => k_is)
   (case yc18 => k_is)
   (case yk18 => k_is)
   (case ya19 => k_is)
   (case yl19 => k_is)
   (case yc19 => k_is)
   (case yk19 => k_is)
   (case yz0 => k_is)
   (case yz1 => k_is)
   (case yz2 => k_is)
   (case yz3 => k_is)
   (case yz4 => k_is)
   (case yz5 => k_is)
   (case yz6 => k_is)
   (case yz7 => k_is)
   (case yz8 => k_is)
   (case yz9 => k_is)
   (case yz10 => k_is)
   (case yz11 => k_is)
   (case yz12 => k_is)
  obtain ⟨fL,dL,L⟩ := T.law
  have e := hmg.symm.trans L.m
  cases e
  exact ⟨dL,K06.law_binds L.F,fun base _ _ => K06.ok_law T L⟩
#print axioms PySem.Challenge.cw_oldhands_k06_fields_holds
