import PyProof.Rows.All
import Wide.All
import OpenK.AllK
import Wide.FinOn
import Lean
import PyProof.EqAt
import PyProof.EqKinds
import PyProof.TupleCall
import PyProof.NeKinds
import KE.KIntText
import PyProof.StrCalls
import PyProof.ZipIter
import PyProof.Rows.SetFrom
import PyProof.SetRoads
import PyProof.CompUse
import PyProof.Rows.MinMaxN
import PyProof.Rows.SortStr
import PyProof.Rows.SortWalk
import PyProof.Rows.SeqMore2
import KE.KMinKey
import PyProof.Rows.CallKwBuiltin
import PyProof.TupleOfStr
import PyProof.Draws
import PyProof.Rows.TupIter
import KE.KxText
import PyProof.FString5
import PyProof.DictWalks
import PyProof.CollectStr
import PyProof.FactsAll.set_1
import KE.KDictLaws
import PySem.Challenge.RW_oldhands_k88_changes_in_words
set_option Elab.async false
set_option linter.all false
set_option maxHeartbeats 4000000
set_option maxRecDepth 100000
noncomputable section
set_option hygiene false
local macro_rules
 |`((1))=>`(by rfl)
 |`((3))=>`(by lia)
 |`((4))=>`(by decide +kernel)
 |`((5,$a))=>`(@pss_one _ _ _ $a)
 |`((6,$a,$b))=>`(@pss_cons _ _ _ _ _ $a $b)
 |`((7))=>`(hr.mono (by lia))
 |`((8,$a))=>`(@ps_ret _ _ _ _ $a)
 |`((9,$a))=>`(@pa1 _ _ _ $a (by rfl))
 |`((10,$a,$b,$c))=>`(pcl $a $b (hr.mono (by lia)) rfl $c)
 |`((11,$a,$b))=>`(@ps_if _ _ _ _ _ _ _ _ $a $b pss_nil)
 |`((12,$a,$b))=>`(@pa2 _ _ _ _ _ $a $b (by rfl) (by rfl))
 |`((13))=>`(hr.mono (by first | decide | lia))
 |`((14))=>`(by first | decide | lia)
 |`((15,$a,$b,$c))=>`(@pe_op _ _ _ _ _ _ _ _ $a $b $c)
 |`((16,$a,$b))=>`(@pe_op _ _ _ _ _ _ _ _ $a $b pe_int)
 |`((17))=>`(@pa2 _ _ _ _ _ (pv 0) pe_int (by rfl) (by rfl))
 |`((18))=>`(pcl JA JC (hr.mono (by lia)) rfl (@pa2 _ _ _ _ _ (pv 0) pe_int (by rfl) (by rfl)))
 |`((19,$a,$b))=>`(@pe_op _ _ _ _ _ _ _ _ (aq (K:=K) rfl) $a $b)
 |`((20,$a,$b))=>`(@ps_set _ _ 1 _ _ _ _ $a rfl (Or.inl rfl) $b (by rfl) (.inl rfl))
 |`((21,$a,$b,$c))=>`(@ps_set _ _ $a _ _ _ _ $b rfl (Or.inl rfl) $c (by rfl) (.inl rfl))
 |`((22,$a,$b,$c,$d,$e))=>`(pe_call $a (hr.mono (by first | decide | lia)) rfl $b $c $d .nil (wing_on rfl rfl rfl) $e)
 |`((23,$a,$b))=>`(@ps_set _ _ 2 _ _ _ _ $a rfl (Or.inl rfl) $b (by rfl) (.inl rfl))
 |`((24))=>`(@ps_expr _ _ _ _ (pe_meth (pv 0) T.c_WordRow JB.meth JE (hr.mono (by first | decide | lia)) JB.b .nil (wing_on rfl rfl rfl) (@pa1 _ _ _ pe_str (by rfl))) (by rfl))
 |`((25))=>`(pe_meth (pv 0) T.c_WordRow JB.meth JE (hr.mono (by first | decide | lia)) JB.b .nil (wing_on rfl rfl rfl) (@pa1 _ _ _ pe_str (by rfl)))
abbrev aAa:=@List.length_map
abbrev aAb:=@List.length_cons
abbrev aAc:=@List.length_append
abbrev aAd:=@PySem.Str.length_append
abbrev aAe:=@PySem.Heap.get?_push_of_some
abbrev aAf:=@List.mem_cons_of_mem
abbrev aAg:=@List.getElem?_map
abbrev aAh:=@List.mem_cons_self
abbrev aAi:=@Option.map_eq_some_iff
abbrev aAj:=@List.getElem?_eq_some_iff
abbrev aAk:=@Nat.lt_of_lt_of_le
abbrev aAl:=@List.length_nil
abbrev aAm:=@List.mem_map
abbrev aAn:=@List.mem_cons
abbrev aAo:=@Nat.le_refl
abbrev aAp:=@List.mem_singleton
abbrev aAq:=@List.map_cons
abbrev aAr:=@List.map_append
abbrev aAs:=@List.mem_of_getElem?
abbrev aAt:=@Nat.exists_eq_add_of_le'
abbrev aAu:=@PySem.Heap.lt_size
abbrev aAv:=@List.getElem?_eq_getElem
abbrev aAw:=@List.size_toArray
abbrev aAx:=@List.take_of_length_le
abbrev aAy:=@Bool.false_ne_true
abbrev aAz:=@Nat.le_trans
abbrev aAA:=@PySem.Heap.get?_push_size
abbrev aAB:=@Bool.and_eq_true
abbrev aAC:=@List.take_add_one
abbrev aAD:=@List.append_assoc
abbrev aAE:=@Nat.zero_le
abbrev aAF:=@List.length_take
abbrev aAG:=@List.mem_append
abbrev aAH:=@Bool.false_eq_true
abbrev aAI:=@Nat.ne_of_lt
abbrev aAJ:=@List.append_nil
abbrev aAK:=@List.length_drop
abbrev aAL:=@List.mem_filterMap
abbrev aAM:=@List.getD_eq_getElem?_getD
abbrev aAN:=@List.mem_append_right
abbrev aAO:=@List.lookup_cons
abbrev aAP:=@List.all_eq_true
abbrev aAQ:=@List.map_map
abbrev aAR:=@List.not_mem_nil
abbrev aAS:=@Nat.lt_irrefl
abbrev aAT:=@List.getElem?_zip_eq_some
abbrev aAU:=@Array.length_toList
abbrev aAV:=@List.sum_cons
abbrev aAW:=@List.length_replicate
abbrev aAX:=@List.forIn_cons
abbrev aAY:=@List.length_eq_zero_iff
abbrev aAZ:=@List.replicate_succ
abbrev aA0:=@List.takeWhile_cons
abbrev aA1:=@Bool.eq_iff_iff
abbrev aA2:=@List.length_singleton
abbrev aA3:=@List.map_nil
abbrev aA4:=@PySem.Heap.size_push
abbrev aA5:=@List.find?_cons
abbrev aA6:=@List.drop_eq_nil_of_le
abbrev aA7:=@List.drop_eq_getElem_cons
abbrev aA8:=@List.all_cons
abbrev aA9:=@Nat.lt_succ_self
abbrev aBa:=@Nat.le_of_lt
abbrev aBb:=@Nat.lt_of_le_of_lt
abbrev aBc:=@List.zip_cons_cons
abbrev aBd:=@List.nodup_cons
abbrev aBe:=@Bool.not_true
abbrev aBf:=@Int.toNat_natCast
abbrev aBg:=@List.length_range
abbrev aBh:=@List.foldl_append
abbrev aBi:=@Array.getElem?_eq_getElem
abbrev aBj:=@List.getElem?_of_mem
abbrev aBk:=@List.dropWhile_cons
abbrev aBl:=@List.flatMap_cons
abbrev aBm:=@List.getElem?_append_right
abbrev aBn:=@List.any_cons
abbrev aBo:=@List.length_zip
abbrev aBp:=@List.sum_nil
abbrev aBq:=@List.forIn_nil
abbrev aBr:=@PySem.Heap.get?_update_other
abbrev aBs:=@List.take_length
abbrev aBt:=@List.cons_append
abbrev aBu:=@List.flatMap_nil
abbrev aBv:=@PySem.Heap.get?_update_self
abbrev aBw:=@List.getElem?_eq_none
abbrev aBx:=@Nat.not_lt_zero
abbrev aBy:=@List.filterMap_cons
abbrev aBz:=@Array.toList_append
abbrev aBA:=@List.mem_map_of_mem
abbrev aBB:=@List.mem_range
abbrev aBC:=@List.take_zero
abbrev aBD:=@Array.append_assoc
abbrev aBE:=@Array.forIn_toList
abbrev aBF:=@List.findIdx?_cons
abbrev aBG:=@Int.emod_lt_of_pos
abbrev aBH:=@Array.getElem?_eq_some_iff
abbrev aBI:=@Bool.not_eq_true'
abbrev aBJ:=@List.getElem?_append_left
abbrev aBK:=@Nat.ne_of_gt
abbrev aBL:=@Nat.le_of_eq
abbrev aBM:=@List.getElem_mem
abbrev aBN:=@List.all_map
abbrev aBO:=@Nat.lt_trans
abbrev aBP:=@Nat.succ_le_succ
abbrev aBQ:=@Nat.min_self
abbrev aBR:=@Nat.add_zero
abbrev aBS:=@List.getElem?_replicate
abbrev aBT:=@List.of_mem_zip
abbrev aBU:=@Int.emod_nonneg
abbrev aBV:=@Int.natCast_add
abbrev aBW:=@List.getElem?_set_self
abbrev aBX:=@Nat.le_succ
abbrev aBY:=@Array.getElem?_eq_none
abbrev aBZ:=@List.find?_cons_of_neg
abbrev aB0:=@Nat.lt_of_succ_lt_succ
abbrev aB1:=@Array.getElem?_toList
abbrev aB2:=@Bool.or_false
namespace L2
open PySem PySem.Spec PyProof.Rows
def bE (s:Stmt) (j:Nat):Stmt:=match s with
 | .ClassDef _ _ _ body _ _ _ _ _ _ _=>body.getD j (.Pass ⟨0,0,0,0⟩)
 | _=>.Pass ⟨0,0,0,0⟩
def cn (s:Stmt):Arguments:=match s with
 | .FunctionDef _ a _ _ _ _ _ _ _ _=>a
 | _=>{ posonlyargs:=[],args:=[],vararg:=none,kwonlyargs:=[],kw_defaults:=[],kwarg:=none,defaults:=[] }
def bN (s:Stmt):List Stmt:=match s with
 | .FunctionDef _ _ b _ _ _ _ _ _ _=>b
 | _=>[]
def ae (s:Stmt):Scope:=match s with
 | .FunctionDef _ _ _ _ _ _ sc _ _ _=>sc
 | _=>{ kind:=.function,names:=[],isGenerator:=false,isCoroutine:=false }
end L2
namespace K88
open PySem L2 PyProof.Rows
abbrev pwX:=PySem.Challenge.pw_oldhands_k88_changes_in_words
def top (i:Nat):Stmt:=pwX.main.body.getD i (.Pass ⟨0,0,0,0⟩)
def hT (t:Nat):Value:=.str "/claim/cut.py" t
def hE (P:Params) (x:Str) (t:Nat) (v:Value):DictEntry:={ hash:=PyData.keyHash P x,key:=.str x t,val:=v }
def hF (x y m:Str) (st:Stmt) (t c:Nat):Obj:={ cls:=.type "function",data:=.func (W.fnOf x y (cn st) (bN st) (ae st) .none .none .none (.str m t) none (.ref c) .none) }
def hU (x y:Str) (st:Stmt):Obj:={ cls:=.none,data:=.func { name:=x,qualname:=y,params:=cn st,body:=.stmts (bN st),scope:=ae st,globals:=builtinsNs,closure:=[],defaults:=.none,kwdefaults:=.none } }
def hC (x y:Str) (t u v:Nat) (r:List Value):Obj:={ cls:=.type "code",data:=.fields (Array.mk (.str x t :: .str y u :: hT v :: r)) }
def hS (r:List Value):Obj:={ cls:=.type "tuple",data:=.seq (Array.mk r) }
def hN:Obj:={ cls:=.none,data:=.fields (Array.mk []) }
def gE:Params->List DictEntry:=λP =>
 hE P "__doc__" 166 (.none) ::
 hE P "__package__" 167 (.none) ::
 hE P "__loader__" 168 (.builtin "__main__.__loader__#opaque") ::
 hE P "__spec__" 169 (.none) ::
 hE P "__annotations__" 170 (.ref 6) ::
 hE P "__builtins__" 171 (.ref 4) ::
 hE P "__file__" 173 (.str ("/claim/cut.py") 172) ::
 hE P "__cached__" 174 (.none) ::
 hE P "HandError" 206 (.ref 24) ::
 hE P "BadText" 222 (.ref 37) ::
 hE P "LETTERS" 224 (.str ("abcdefghijklmnopqrstuvwxyz") 223) ::
 hE P "LONGEST_NAME" 226 (.int 8 225) ::
 hE P "PERCENT" 230 (.int 37 229) ::
 hE P "is_sign" 237 (.ref 46) ::
 hE P "FIGURES" 241 (.str ("0123456789") 240) ::
 hE P "figures_of" 248 (.ref 53) ::
 hE P "number_of" 254 (.ref 58) ::
 hE P "KIND_PARTS" 273 (.ref 59) ::
 hE P "TURN_PARTS" 305 (.ref 64) ::
 hE P "PIECE_PARTS" 357 (.ref 75) ::
 hE P "parts_behind" 365 (.ref 92) ::
 hE P "kind_text" 371 (.ref 97) ::
 hE P "most_exchanged" 379 (.ref 104) ::
 hE P "value_text" 385 (.ref 109) ::
 hE P "turn_text" 391 (.ref 114) ::
 hE P "piece_text" 398 (.ref 121) ::
 hE P "path_text" 405 (.ref 128) ::
 hE P "change_text" 412 (.ref 135) ::
 hE P "form_text" 418 (.ref 140) ::
 hE P "part_text" 426 (.ref 147) ::
 hE P "in_brackets" 435 (.ref 154) ::
 hE P "with_commas" 442 (.ref 161) ::
 hE P "pair_text" 450 (.ref 168) ::
 hE P "quoted" 457 (.ref 175) ::
 hE P "BLANK" 461 (.str (" ") 460) ::
 hE P "QUOTE" 463 (.str ("\"") 462) ::
 hE P "MINUS" 465 (.str ("-") 464) ::
 hE P "OPENING" 467 (.str ("([{") 466) ::
 hE P "CLOSING" 469 (.str (")]}") 468) ::
 hE P "MARKS" 471 (.str ("()[]{},:;/") 470) ::
 hE P "MOST_FIGURES" 473 (.int 60 472) ::
 hE P "MOST_BRACKETS" 475 (.int 40 474) ::
 hE P "END" 478 (.ref 176) ::
 hE P "words_of" 488 (.ref 183) ::
 hE P "word_end" 497 (.ref 190) ::
 hE P "run_end" 507 (.ref 197) ::
 hE P "made_word" 513 (.ref 202) ::
 hE P "deepest_brackets" 524 (.ref 209) ::
 hE P "WordRow" 588 (.ref 254) ::
 hE P "PAIR_SORTS" 600 (.ref 259) ::
 hE P "BRACKETED" 613 (.ref 263) ::
 hE P "read_path" 620 (.ref 270) ::
 hE P "read_change" 627 (.ref 277) ::
 hE P "read_all" 637 (.ref 284) ::
 hE P "part_read" 646 (.ref 291) ::
 hE P "pair_read" 655 (.ref 298) ::
 hE P "kind_read" 664 (.ref 305) ::
 hE P "value_read" 675 (.ref 312) ::
 hE P "turn_read" 684 (.ref 319) ::
 hE P "path_read" 692 (.ref 326) ::
 hE P "form_read" 704 (.ref 333) ::
 hE P "list_read" 714 (.ref 340) ::
 hE P "at_least_one" 721 (.ref 347) ::
 hE P "_law_cell_at" 731 (.ref 354) ::
 hE P "_law_mixed" 740 (.ref 361) ::
 hE P "_law_own" 752 (.ref 368) ::
 hE P "_law_digit" 761 (.ref 375) ::
 hE P "_law_names" 767 (.ref 380) ::
 hE P "_law_number_kind" 776 (.ref 387) ::
 hE P "_law_leaf_kind" 785 (.ref 394) ::
 hE P "_law_record_kind" 797 (.ref 401) ::
 hE P "_law_rows_kind" 811 (.ref 408) ::
 hE P "_law_kind" 821 (.ref 415) ::
 hE P "_law_text" 827 (.ref 420) ::
 hE P "_law_kind_words" 839 (.ref 427) ::
 hE P "_law_value_words" 849 (.ref 434) ::
 hE P "_law_turn_words" 861 (.ref 441) ::
 hE P "_law_piece_words" 871 (.ref 448) ::
 hE P "_law_path_words" 880 (.ref 455) ::
 hE P "_law_tight" 886 (.ref 460) ::
 hE P "_law_loose" 892 (.ref 465) ::
 hE P "_law_word" 898 (.ref 470) ::
 hE P "_law_any_number" 905 (.ref 477) ::
 hE P "_law_any_value" 911 (.ref 482) ::
 hE P "_law_any_turn" 917 (.ref 487) ::
 hE P "_law_any_piece" 929 (.ref 494) ::
 hE P "_law_any_path" 935 (.ref 499) ::
 hE P "law" 949 (.ref 506) ::
 []
def gD (P:Params) (x:Str) (t m k:Nat):Obj:={ cls:=.type "dict",data:=.dict (Array.mk (hE P "__name__" 165 (.str x t) :: (gE P).take m)) k }
def tE:List Value:=.int 2 0 :: .int 0 0 :: .ref 20 :: .int 4 0 :: .int 0 0 :: .ref 33 :: .int 10 0 :: .int 0 0 :: .ref 45 :: .int 14 0 :: .int 0 0 :: .ref 52 :: .int 16 0 :: .int 0 0 :: .ref 57 :: .int 27 0 :: .int 0 0 :: .ref 91 :: .int 33 0 :: .int 0 0 :: .ref 96 :: .int 40 0 :: .int 0 0 :: .ref 103 :: .int 44 0 :: .int 0 0 :: .ref 108 :: .int 56 0 :: .int 0 0 :: .ref 113 :: .int 63 0 :: .int 0 0 :: .ref 120 :: .int 65 0 :: .int 0 0 :: .ref 127 :: .int 67 0 :: .int 0 0 :: .ref 134 :: .int 69 0 :: .int 0 0 :: .ref 139 :: .int 72 0 :: .int 0 0 :: .ref 146 :: .int 80 0 :: .int 0 0 :: .ref 153 :: .int 83 0 :: .int 0 0 :: .ref 160 :: .int 85 0 :: .int 0 0 :: .ref 167 :: .int 87 0 :: .int 0 0 :: .ref 174 :: .int 99 0 :: .int 0 0 :: .ref 182 :: .int 110 0 :: .int 0 0 :: .ref 189 :: .int 121 0 :: .int 0 0 :: .ref 196 :: .int 126 0 :: .int 0 0 :: .ref 201 :: .int 137 0 :: .int 0 0 :: .ref 208 :: .int 147 0 :: .int 0 0 :: .ref 215 :: .int 174 0 :: .int 0 0 :: .ref 269 :: .int 176 0 :: .int 0 0 :: .ref 276 :: .int 178 0 :: .int 0 0 :: .ref 283 :: .int 184 0 :: .int 0 0 :: .ref 290 :: .int 201 0 :: .int 0 0 :: .ref 297 :: .int 205 0 :: .int 0 0 :: .ref 304 :: .int 215 0 :: .int 0 0 :: .ref 311 :: .int 223 0 :: .int 0 0 :: .ref 318 :: .int 230 0 :: .int 0 0 :: .ref 325 :: .int 239 0 :: .int 0 0 :: .ref 332 :: .int 251 0 :: .int 0 0 :: .ref 339 :: .int 259 0 :: .int 0 0 :: .ref 346 :: .int 264 0 :: .int 0 0 :: .ref 353 :: .int 268 0 :: .int 0 0 :: .ref 360 :: .int 271 0 :: .int 0 0 :: .ref 367 :: .int 279 0 :: .int 0 0 :: .ref 374 :: .int 283 0 :: .int 0 0 :: .ref 379 :: .int 293 0 :: .int 0 0 :: .ref 386 :: .int 297 0 :: .int 0 0 :: .ref 393 :: .int 307 0 :: .int 0 0 :: .ref 400 :: .int 313 0 :: .int 0 0 :: .ref 407 :: .int 325 0 :: .int 0 0 :: .ref 414 :: .int 335 0 :: .int 0 0 :: .ref 419 :: .int 338 0 :: .int 0 0 :: .ref 426 :: .int 357 0 :: .int 0 0 :: .ref 433 :: .int 370 0 :: .int 0 0 :: .ref 440 :: .int 386 0 :: .int 0 0 :: .ref 447 :: .int 402 0 :: .int 0 0 :: .ref 454 :: .int 407 0 :: .int 0 0 :: .ref 459 :: .int 409 0 :: .int 0 0 :: .ref 464 :: .int 411 0 :: .int 0 0 :: .ref 469 :: .int 416 0 :: .int 0 0 :: .ref 476 :: .int 420 0 :: .int 0 0 :: .ref 481 :: .int 428 0 :: .int 0 0 :: .ref 486 :: .int 440 0 :: .int 0 0 :: .ref 493 :: .int 458 0 :: .int 0 0 :: .ref 498 :: .int 460 0 :: .int 0 0 :: .ref 505 :: []
def tD (m:Nat):Obj:={ cls:=.none,data:=.fields (Array.mk (tE.take m)) }
def o0 (P:Params):Obj:=W.boot_o_0 P
def o1 (P:Params):Obj:=W.boot_o_1 P
def o2 (P:Params):Obj:=W.boot_o_2 P
def o3 (P:Params):Obj:={ cls:=.type "dict",data:=.dict (Array.mk (hE P "__name__" 165 (.str ("law_oldhands_k88_changes_in_words") 722) :: gE P)) 89 }
def o4 (P:Params):Obj:=W.boot_o_4 P
def o5 (P:Params):Obj:=W.boot_o_5 P
def o6 (P:Params):Obj:=W.boot_o_6 P
def o7 (P:Params):Obj:=W.boot_o_7 P
def o8 (P:Params):Obj:=W.boot_o_8 P
def o9 (P:Params):Obj:=W.boot_o_9 P
def o10 (P:Params):Obj:=W.boot_o_10 P
def o11:Obj:=hS []
def o12:Obj:={ cls:=.none,data:=.fields (Array.mk tE) }
def o13:Obj:=hC "<module>" "<module>" 182 183 184 [.int 1 0,.int 0 0,.int 0 0,.int 0 0,.int 0 0,.ref 11,.bool false,.int 181 0,.ref 12,.none,.none,.none,.none,.int 185 0,.int 1 0,hT 186]
def o14:Obj:={ cls:=.type "frame",slots:=#[some (.ref 13),some (.ref 3),some (.ref 3),none,some (.str ("__main__") 164),none,some (.ref 0)] }
def o15:Obj:=hS [.type "ValueError"]
def o16:Obj:={ cls:=.type "builtin_function_or_method",data:=.fields #[.builtin "type.__prepare__",.type "type"] }
def o17 (P:Params):Obj:={ cls:=.type "dict",data:=.dict #[hE P "__module__" 196 (.str ("oldhands.errors") 187),hE P "__qualname__" 198 (.str ("HandError") 197),hE P "__firstlineno__" 200 (.int 2 199),hE P "__static_attributes__" 201 (.ref 22)] 4 }
def o19:Obj:=hN
def o20:Obj:=hC "HandError" "HandError" 191 192 193 [.int 2 0,.int 0 0,.int 0 0,.int 0 0,.int 0 0,.ref 18,.bool false,.int 181 0,.ref 19,.none,.none,.none,.none,.int 194 0,.int 2 0,hT 195]
def o21:Obj:={ cls:=.type "frame",slots:=#[some (.ref 20),some (.ref 3),some (.ref 17),none,some (.str ("oldhands.errors") 187),none,some (.ref 0)] }
def o23 (P:Params):Obj:={ cls:=.type "dict",data:=.dict #[hE P "__module__" 196 (.str ("oldhands.errors") 187),hE P "__firstlineno__" 200 (.int 2 199),hE P "__static_attributes__" 201 (.ref 22),hE P "__weakref__" 203 (.ref 25),hE P "__doc__" 204 (.none)] 3 }
def o24:Obj:={ cls:=.type "type",data:=.cls { name:= "HandError",bases:=[.type "ValueError"],mro:=[.ref 24,.type "ValueError",.type "Exception",.type "BaseException",.type "object"],ns:=23,qualname:= "HandError",subclasses:=[.ref 37] },slots:=#[some (.ref 15),none,some (.str ("HandError") 189),some (.str ("HandError") 197),some (.builtin "ValueError.__new__"),some (.bool true)] }
def o25:Obj:={ cls:=.type "getset_descriptor",data:=.fields #[.str ("__weakref__") 202,.ref 24,.builtin "ExceptionGroup.__weakref__",.none] }
def o26:Obj:={ cls:=.type "super",data:=.fields #[.ref 24,.ref 24,.ref 24] }
def o27:Obj:={ cls:=.type "builtin_function_or_method",data:=.fields #[.builtin "object.__init_subclass__",.ref 24] }
def o28:Obj:=hS [.ref 24]
def o30 (P:Params):Obj:={ cls:=.type "dict",data:=.dict #[hE P "__module__" 214 (.str ("oldhands.errors") 187),hE P "__qualname__" 216 (.str ("BadText") 215),hE P "__firstlineno__" 218 (.int 4 217),hE P "__static_attributes__" 219 (.ref 35)] 4 }
def o33:Obj:=hC "BadText" "BadText" 209 210 211 [.int 4 0,.int 0 0,.int 0 0,.int 0 0,.int 0 0,.ref 31,.bool false,.int 181 0,.ref 32,.none,.none,.none,.none,.int 212 0,.int 4 0,hT 213]
def o34:Obj:={ cls:=.type "frame",slots:=#[some (.ref 33),some (.ref 3),some (.ref 30),none,some (.str ("oldhands.errors") 187),none,some (.ref 0)] }
def o36 (P:Params):Obj:={ cls:=.type "dict",data:=.dict #[hE P "__module__" 214 (.str ("oldhands.errors") 187),hE P "__firstlineno__" 218 (.int 4 217),hE P "__static_attributes__" 219 (.ref 35),hE P "__doc__" 220 (.none)] 2 }
def o37:Obj:={ cls:=.type "type",data:=.cls { name:= "BadText",bases:=[.ref 24],mro:=[.ref 37,.ref 24,.type "ValueError",.type "Exception",.type "BaseException",.type "object"],ns:=36,qualname:= "BadText" },slots:=#[some (.ref 28),none,some (.str ("BadText") 207),some (.str ("BadText") 215),some (.builtin "ValueError.__new__"),some (.bool true)] }
def o38:Obj:={ cls:=.type "super",data:=.fields #[.ref 37,.ref 37,.ref 37] }
def o39:Obj:={ cls:=.type "builtin_function_or_method",data:=.fields #[.builtin "object.__init_subclass__",.ref 37] }
def o42:Obj:=hS [.str ("letter") 234]
def o44:Obj:=hU "is_sign" "is_sign" (top 7)
def o45:Obj:=hC "is_sign" "is_sign" 231 232 233 [.int 10 0,.int 1 0,.int 0 0,.int 0 0,.int 3 0,.ref 40,.bool true,.int 181 0,.ref 41,.none,.ref 42,.ref 43,.ref 44,.int 235 0,.int 10 0,hT 236]
def o46:Obj:=hF "is_sign" "is_sign" "oldhands.values" (top 7) 227 45
def o49:Obj:=hS [.str ("number") 245]
def o51:Obj:=hU "figures_of" "figures_of" (top 10)
def o52:Obj:=hC "figures_of" "figures_of" 242 243 244 [.int 14 0,.int 1 0,.int 0 0,.int 0 0,.int 3 0,.ref 47,.bool true,.int 181 0,.ref 48,.none,.ref 49,.ref 50,.ref 51,.int 246 0,.int 14 0,hT 247]
def o53:Obj:=hF "figures_of" "figures_of" "oldhands.turns" (top 10) 238 52
def o56:Obj:=hU "number_of" "number_of" (top 11)
def o57:Obj:=hC "number_of" "number_of" 249 250 251 [.int 16 0,.int 1 0,.int 0 0,.int 0 0,.int 3 0,.ref 54,.bool true,.int 181 0,.ref 55,.none,.none,.none,.ref 56,.int 252 0,.int 16 0,hT 253]
def o58:Obj:=hF "number_of" "number_of" "oldhands.turns" (top 11) 238 57
def o59 (P:Params):Obj:={ cls:=.type "dict",data:=.dict #[hE P "number" 257 (.ref 60),hE P "text" 260 (.ref 61),hE P "list" 262 (.ref 62),hE P "rows" 265 (.ref 63)] 4 }
def o60:Obj:=hS [.str ("number") 258,.str ("number") 259]
def o61:Obj:=hS [.str ("number") 261]
def o62:Obj:=hS [.str ("number") 263,.str ("kind") 264]
def o63:Obj:=hS [.str ("word") 266,.str ("number") 267,.str ("kind") 268]
def o64 (P:Params):Obj:={ cls:=.type "dict",data:=.dict #[hE P "bounds" 274 (.ref 65),hE P "scale" 277 (.ref 66),hE P "shrink" 279 (.ref 67),hE P "figures" 281 (.ref 68),hE P "number" 283 (.ref 69),hE P "cut" 286 (.ref 70),hE P "first" 288 (.ref 71),hE P "one" 290 (.ref 72),hE P "out" 292 (.ref 73),hE P "items" 293 (.ref 74)] 10 }
def o65:Obj:=hS [.str ("number") 275,.str ("number") 276]
def o66:Obj:=hS [.str ("number") 278]
def o67:Obj:=hS [.str ("number") 280]
def o68:Obj:=hS [.str ("number") 282]
def o69:Obj:=hS [.str ("number") 284,.str ("number") 285]
def o70:Obj:=hS [.str ("number") 287]
def o71:Obj:=hS [.str ("number") 289]
def o72:Obj:=hS [.str ("number") 291]
def o74:Obj:=hS [.str ("turn") 294]
def o75 (P:Params):Obj:={ cls:=.type "dict",data:=.dict #[hE P "put" 306 (.ref 76),hE P "drop" 310 (.ref 77),hE P "name" 313 (.ref 78),hE P "sink" 316 (.ref 79),hE P "lift" 319 (.ref 80),hE P "turn" 322 (.ref 81),hE P "split" 325 (.ref 82),hE P "join" 330 (.ref 83),hE P "part" 335 (.ref 84),hE P "whole" 340 (.ref 85)] 10 }
def o76:Obj:=hS [.str ("word") 307,.str ("kind") 308,.str ("value") 309]
def o77:Obj:=hS [.str ("word") 311,.str ("value") 312]
def o78:Obj:=hS [.str ("word") 314,.str ("word") 315]
def o79:Obj:=hS [.str ("word") 317,.str ("word") 318]
def o80:Obj:=hS [.str ("word") 320,.str ("word") 321]
def o81:Obj:=hS [.str ("word") 323,.str ("turn") 324]
def o82:Obj:=hS [.str ("word") 326,.str ("text") 327,.str ("word") 328,.str ("word") 329]
def o83:Obj:=hS [.str ("word") 331,.str ("word") 332,.str ("text") 333,.str ("word") 334]
def o84:Obj:=hS [.str ("word") 336,.str ("number") 337,.str ("word") 338,.str ("word") 339]
def o85:Obj:=hS [.str ("word") 341,.str ("word") 342,.str ("number") 343,.str ("word") 344,.str ("number") 345,.str ("number") 346]
def o88:Obj:=hS [.str ("sort") 361,.str ("word") 362]
def o90:Obj:=hU "parts_behind" "parts_behind" (top 16)
def o91:Obj:=hC "parts_behind" "parts_behind" 358 359 360 [.int 27 0,.int 2 0,.int 0 0,.int 0 0,.int 3 0,.ref 86,.bool true,.int 181 0,.ref 87,.none,.ref 88,.ref 89,.ref 90,.int 363 0,.int 27 0,hT 364]
def o92:Obj:=hF "parts_behind" "parts_behind" "oldhands.words" (top 16) 255 91
def o95:Obj:=hU "kind_text" "kind_text" (top 17)
def o96:Obj:=hC "kind_text" "kind_text" 366 367 368 [.int 33 0,.int 1 0,.int 0 0,.int 0 0,.int 3 0,.ref 93,.bool true,.int 181 0,.ref 94,.none,.none,.none,.ref 95,.int 369 0,.int 33 0,hT 370]
def o97:Obj:=hF "kind_text" "kind_text" "oldhands.words" (top 17) 255 96
def CB (P:Params):Obj:=hS [.str ("word") 375,.str ("parts") 376]
def CC (P:Params):Obj:=hS []
def CD (P:Params):Obj:=hU "most_exchanged" "most_exchanged" (top 18)
def zb (P:Params):Obj:=hC "most_exchanged" "most_exchanged" 372 373 374 [.int 40 0,.int 2 0,.int 0 0,.int 0 0,.int 3 0,.ref 98,.bool true,.int 181 0,.ref 99,.none,.ref 100,.ref 101,.ref 102,.int 377 0,.int 40 0,hT 378]
def zc (P:Params):Obj:=hF "most_exchanged" "most_exchanged" "oldhands.words" (top 18) 255 103
def CF (P:Params):Obj:=hS []
def CG (P:Params):Obj:=hN
def CH (P:Params):Obj:=hU "value_text" "value_text" (top 19)
def zd (P:Params):Obj:=hC "value_text" "value_text" 380 381 382 [.int 44 0,.int 1 0,.int 0 0,.int 0 0,.int 3 0,.ref 105,.bool true,.int 181 0,.ref 106,.none,.none,.none,.ref 107,.int 383 0,.int 44 0,hT 384]
def ze (P:Params):Obj:=hF "value_text" "value_text" "oldhands.words" (top 19) 255 108
def CI (P:Params):Obj:=hS []
def CJ (P:Params):Obj:=hN
def CK (P:Params):Obj:=hU "turn_text" "turn_text" (top 20)
def zf (P:Params):Obj:=hC "turn_text" "turn_text" 386 387 388 [.int 56 0,.int 1 0,.int 0 0,.int 0 0,.int 3 0,.ref 110,.bool true,.int 181 0,.ref 111,.none,.none,.none,.ref 112,.int 389 0,.int 56 0,hT 390]
def zg (P:Params):Obj:=hF "turn_text" "turn_text" "oldhands.words" (top 20) 255 113
def CL (P:Params):Obj:=hS []
def CM (P:Params):Obj:=hN
def CN (P:Params):Obj:=hS [.str ("piece") 395]
def CO (P:Params):Obj:=hS []
def CP (P:Params):Obj:=hU "piece_text" "piece_text" (top 21)
def zh (P:Params):Obj:=hC "piece_text" "piece_text" 392 393 394 [.int 63 0,.int 1 0,.int 0 0,.int 0 0,.int 3 0,.ref 115,.bool true,.int 181 0,.ref 116,.none,.ref 117,.ref 118,.ref 119,.int 396 0,.int 63 0,hT 397]
def zi (P:Params):Obj:=hF "piece_text" "piece_text" "oldhands.words" (top 21) 255 120
def CQ (P:Params):Obj:=hS []
def CS (P:Params):Obj:=hN
def CT (P:Params):Obj:=hS [.str ("path") 402]
def CU (P:Params):Obj:=hS []
def CV (P:Params):Obj:=hU "path_text" "path_text" (top 22)
def zj (P:Params):Obj:=hC "path_text" "path_text" 399 400 401 [.int 65 0,.int 1 0,.int 0 0,.int 0 0,.int 3 0,.ref 122,.bool true,.int 181 0,.ref 123,.none,.ref 124,.ref 125,.ref 126,.int 403 0,.int 65 0,hT 404]
def zk (P:Params):Obj:=hF "path_text" "path_text" "oldhands.words" (top 22) 255 127
def CW (P:Params):Obj:=hS []
def CY (P:Params):Obj:=hN
def CZ (P:Params):Obj:=hS [.str ("change") 409]
def C0 (P:Params):Obj:=hS []
def C1 (P:Params):Obj:=hU "change_text" "change_text" (top 23)
def zm (P:Params):Obj:=hC "change_text" "change_text" 406 407 408 [.int 67 0,.int 1 0,.int 0 0,.int 0 0,.int 3 0,.ref 129,.bool true,.int 181 0,.ref 130,.none,.ref 131,.ref 132,.ref 133,.int 410 0,.int 67 0,hT 411]
def zn (P:Params):Obj:=hF "change_text" "change_text" "oldhands.words" (top 23) 255 134
def C2 (P:Params):Obj:=hS []
def C3 (P:Params):Obj:=hN
def C4 (P:Params):Obj:=hU "form_text" "form_text" (top 24)
def zo (P:Params):Obj:=hC "form_text" "form_text" 413 414 415 [.int 69 0,.int 2 0,.int 0 0,.int 0 0,.int 3 0,.ref 136,.bool true,.int 181 0,.ref 137,.none,.none,.none,.ref 138,.int 416 0,.int 69 0,hT 417]
def zp (P:Params):Obj:=hF "form_text" "form_text" "oldhands.words" (top 24) 255 139
def C5 (P:Params):Obj:=hS []
def C6 (P:Params):Obj:=hN
def C7 (P:Params):Obj:=hS [.str ("part") 422,.str ("sort") 423]
def C8 (P:Params):Obj:=hS []
def C9 (P:Params):Obj:=hU "part_text" "part_text" (top 25)
def zq (P:Params):Obj:=hC "part_text" "part_text" 419 420 421 [.int 72 0,.int 2 0,.int 0 0,.int 0 0,.int 3 0,.ref 141,.bool true,.int 181 0,.ref 142,.none,.ref 143,.ref 144,.ref 145,.int 424 0,.int 72 0,hT 425]
def zr (P:Params):Obj:=hF "part_text" "part_text" "oldhands.words" (top 25) 255 146
def Da (P:Params):Obj:=hS []
def Db (P:Params):Obj:=hN
def Dc (P:Params):Obj:=hS [.str ("word") 430,.str ("texts") 431,.str ("inner") 432]
def Dd (P:Params):Obj:=hS []
def De (P:Params):Obj:=hU "in_brackets" "in_brackets" (top 26)
def zt (P:Params):Obj:=hC "in_brackets" "in_brackets" 427 428 429 [.int 80 0,.int 2 0,.int 0 0,.int 0 0,.int 3 0,.ref 148,.bool true,.int 181 0,.ref 149,.none,.ref 150,.ref 151,.ref 152,.int 433 0,.int 80 0,hT 434]
def zu (P:Params):Obj:=hF "in_brackets" "in_brackets" "oldhands.words" (top 26) 255 153
def Dg (P:Params):Obj:=hS []
def Dh (P:Params):Obj:=hN
def Di (P:Params):Obj:=hS [.str ("texts") 439]
def Dj (P:Params):Obj:=hS []
def Dk (P:Params):Obj:=hU "with_commas" "with_commas" (top 27)
def zw (P:Params):Obj:=hC "with_commas" "with_commas" 436 437 438 [.int 83 0,.int 1 0,.int 0 0,.int 0 0,.int 3 0,.ref 155,.bool true,.int 181 0,.ref 156,.none,.ref 157,.ref 158,.ref 159,.int 440 0,.int 83 0,hT 441]
def zx (P:Params):Obj:=hF "with_commas" "with_commas" "oldhands.words" (top 27) 255 160
def Dl (P:Params):Obj:=hS []
def Dm (P:Params):Obj:=hN
def Dn (P:Params):Obj:=hS [.str ("word") 446,.str ("text") 447]
def Do (P:Params):Obj:=hS []
def Dq (P:Params):Obj:=hU "pair_text" "pair_text" (top 28)
def zy (P:Params):Obj:=hC "pair_text" "pair_text" 443 444 445 [.int 85 0,.int 2 0,.int 0 0,.int 0 0,.int 3 0,.ref 162,.bool true,.int 181 0,.ref 163,.none,.ref 164,.ref 165,.ref 166,.int 448 0,.int 85 0,hT 449]
def zA (P:Params):Obj:=hF "pair_text" "pair_text" "oldhands.words" (top 28) 255 167
def Ds (P:Params):Obj:=hS []
def Du (P:Params):Obj:=hN
def Dv (P:Params):Obj:=hS [.str ("text") 454]
def Dx (P:Params):Obj:=hS []
def Dy (P:Params):Obj:=hU "quoted" "quoted" (top 29)
def zB (P:Params):Obj:=hC "quoted" "quoted" 451 452 453 [.int 87 0,.int 1 0,.int 0 0,.int 0 0,.int 3 0,.ref 169,.bool true,.int 181 0,.ref 170,.none,.ref 171,.ref 172,.ref 173,.int 455 0,.int 87 0,hT 456]
def zC (P:Params):Obj:=hF "quoted" "quoted" "oldhands.words" (top 29) 255 174
def zD (P:Params):Obj:=hS [.str ("end") 476,.str ("") 477]
def Dz (P:Params):Obj:=hS []
def DA (P:Params):Obj:=hN
def DB (P:Params):Obj:=hS [.str ("text") 482,.str ("found") 483,.str ("at") 484,.str ("end") 485]
def DC (P:Params):Obj:=hS []
def DD (P:Params):Obj:=hU "words_of" "words_of" (top 40)
def zE (P:Params):Obj:=hC "words_of" "words_of" 479 480 481 [.int 99 0,.int 1 0,.int 0 0,.int 0 0,.int 3 0,.ref 177,.bool true,.int 181 0,.ref 178,.none,.ref 179,.ref 180,.ref 181,.int 486 0,.int 99 0,hT 487]
def zF (P:Params):Obj:=hF "words_of" "words_of" "oldhands.tokens" (top 40) 458 182
def DE (P:Params):Obj:=hS []
def DF (P:Params):Obj:=hN
def DG (P:Params):Obj:=hS [.str ("text") 492,.str ("at") 493,.str ("close") 494]
def DH (P:Params):Obj:=hS []
def DI (P:Params):Obj:=hU "word_end" "word_end" (top 41)
def zG (P:Params):Obj:=hC "word_end" "word_end" 489 490 491 [.int 110 0,.int 2 0,.int 0 0,.int 0 0,.int 3 0,.ref 184,.bool true,.int 181 0,.ref 185,.none,.ref 186,.ref 187,.ref 188,.int 495 0,.int 110 0,hT 496]
def zH (P:Params):Obj:=hF "word_end" "word_end" "oldhands.tokens" (top 41) 458 189
def DJ (P:Params):Obj:=hS []
def DK (P:Params):Obj:=hN
def DL (P:Params):Obj:=hS [.str ("text") 501,.str ("at") 502,.str ("letters") 503,.str ("end") 504]
def DM (P:Params):Obj:=hS []
def DN (P:Params):Obj:=hU "run_end" "run_end" (top 42)
def zI (P:Params):Obj:=hC "run_end" "run_end" 498 499 500 [.int 121 0,.int 3 0,.int 0 0,.int 0 0,.int 3 0,.ref 191,.bool true,.int 181 0,.ref 192,.none,.ref 193,.ref 194,.ref 195,.int 505 0,.int 121 0,hT 506]
def zJ (P:Params):Obj:=hF "run_end" "run_end" "oldhands.tokens" (top 42) 458 196
def DO (P:Params):Obj:=hS []
def DP (P:Params):Obj:=hN
def DQ (P:Params):Obj:=hU "made_word" "made_word" (top 43)
def zK (P:Params):Obj:=hC "made_word" "made_word" 508 509 510 [.int 126 0,.int 1 0,.int 0 0,.int 0 0,.int 3 0,.ref 198,.bool true,.int 181 0,.ref 199,.none,.none,.none,.ref 200,.int 511 0,.int 126 0,hT 512]
def zL (P:Params):Obj:=hF "made_word" "made_word" "oldhands.tokens" (top 43) 458 201
def DR (P:Params):Obj:=hS []
def DS (P:Params):Obj:=hN
def DT (P:Params):Obj:=hS [.str ("words") 517,.str ("deepest") 518,.str ("here") 519,.str ("sort") 520,.str ("told") 521]
def DU (P:Params):Obj:=hS []
def DV (P:Params):Obj:=hU "deepest_brackets" "deepest_brackets" (top 44)
def zM (P:Params):Obj:=hC "deepest_brackets" "deepest_brackets" 514 515 516 [.int 137 0,.int 1 0,.int 0 0,.int 0 0,.int 3 0,.ref 203,.bool true,.int 181 0,.ref 204,.none,.ref 205,.ref 206,.ref 207,.int 522 0,.int 137 0,hT 523]
def zN (P:Params):Obj:=hF "deepest_brackets" "deepest_brackets" "oldhands.tokens" (top 44) 458 208
def DW (P:Params):Obj:=hS []
def DX (P:Params):Obj:={ cls:=.type "builtin_function_or_method",data:=.fields #[.builtin "type.__prepare__",.type "type"] }
def DY (P:Params):Obj:={ cls:=.type "dict",data:=.dict #[hE P "__module__" 532 (.str ("oldhands.tokens") 458),hE P "__qualname__" 534 (.str ("WordRow") 533),hE P "__firstlineno__" 536 (.int 147 535),hE P "__init__" 544 (.ref 223),hE P "coming" 553 (.ref 230),hE P "comes" 561 (.ref 237),hE P "take" 570 (.ref 244),hE P "take_mark" 578 (.ref 251),hE P "__static_attributes__" 581 (.ref 252)] 9 }
def DZ (P:Params):Obj:=hS []
def D0 (P:Params):Obj:={ cls:=.none,data:=.fields #[.int 149 0,.int 4 0,.ref 222,.int 153 0,.int 4 0,.ref 229,.int 157 0,.int 4 0,.ref 236,.int 160 0,.int 4 0,.ref 243,.int 167 0,.int 4 0,.ref 250] }
def D5 (P:Params):Obj:=hC "WordRow" "WordRow" 527 528 529 [.int 147 0,.int 0 0,.int 0 0,.int 0 0,.int 0 0,.ref 213,.bool false,.int 181 0,.ref 214,.none,.none,.none,.none,.int 530 0,.int 147 0,hT 531]
def D6 (P:Params):Obj:={ cls:=.type "frame",slots:=#[some (.ref 215),some (.ref 3),some (.ref 212),none,some (.str ("oldhands.tokens") 458),none,some (.ref 0)] }
def D7 (P:Params):Obj:=hS []
def D8 (P:Params):Obj:=hN
def D9 (P:Params):Obj:=hS [.str ("self") 540,.str ("text") 541]
def Ea (P:Params):Obj:=hS []
def Eb (P:Params):Obj:=hU "__init__" "WordRow.__init__" (bE (top 45) 0)
def zO (P:Params):Obj:=hC "__init__" "WordRow.__init__" 537 538 539 [.int 149 0,.int 2 0,.int 0 0,.int 0 0,.int 3 0,.ref 217,.bool true,.int 181 0,.ref 218,.none,.ref 219,.ref 220,.ref 221,.int 542 0,.int 149 0,hT 543]
def zP (P:Params):Obj:=hF "__init__" "WordRow.__init__" "oldhands.tokens" (bE (top 45) 0) 458 222
def Ec (P:Params):Obj:=hS []
def Ed (P:Params):Obj:=hN
def Ee (P:Params):Obj:=hS [.str ("self") 548,.str ("ahead") 549,.str ("at") 550]
def Ef (P:Params):Obj:=hS []
def Eg (P:Params):Obj:=hU "coming" "WordRow.coming" (bE (top 45) 1)
def zQ (P:Params):Obj:=hC "coming" "WordRow.coming" 545 546 547 [.int 153 0,.int 2 0,.int 0 0,.int 0 0,.int 3 0,.ref 224,.bool true,.int 181 0,.ref 225,.none,.ref 226,.ref 227,.ref 228,.int 551 0,.int 153 0,hT 552]
def zR (P:Params):Obj:=hF "coming" "WordRow.coming" "oldhands.tokens" (bE (top 45) 1) 458 229
def Eh (P:Params):Obj:=hS []
def Ei (P:Params):Obj:=hN
def Ej (P:Params):Obj:=hS [.str ("self") 557,.str ("mark") 558]
def Ek (P:Params):Obj:=hS []
def El (P:Params):Obj:=hU "comes" "WordRow.comes" (bE (top 45) 2)
def zS (P:Params):Obj:=hC "comes" "WordRow.comes" 554 555 556 [.int 157 0,.int 2 0,.int 0 0,.int 0 0,.int 3 0,.ref 231,.bool true,.int 181 0,.ref 232,.none,.ref 233,.ref 234,.ref 235,.int 559 0,.int 157 0,hT 560]
def zT (P:Params):Obj:=hF "comes" "WordRow.comes" "oldhands.tokens" (bE (top 45) 2) 458 236
def Em (P:Params):Obj:=hS []
def En (P:Params):Obj:=hN
def Eo (P:Params):Obj:=hS [.str ("self") 565,.str ("sort") 566,.str ("found") 567]
def Ep (P:Params):Obj:=hS []
def Er (P:Params):Obj:=hU "take" "WordRow.take" (bE (top 45) 3)
def zU (P:Params):Obj:=hC "take" "WordRow.take" 562 563 564 [.int 160 0,.int 2 0,.int 0 0,.int 0 0,.int 3 0,.ref 238,.bool true,.int 181 0,.ref 239,.none,.ref 240,.ref 241,.ref 242,.int 568 0,.int 160 0,hT 569]
def zV (P:Params):Obj:=hF "take" "WordRow.take" "oldhands.tokens" (bE (top 45) 3) 458 243
def Es (P:Params):Obj:=hS []
def Et (P:Params):Obj:=hN
def Eu (P:Params):Obj:=hS [.str ("self") 574,.str ("mark") 575]
def Ev (P:Params):Obj:=hS []
def Ew (P:Params):Obj:=hU "take_mark" "WordRow.take_mark" (bE (top 45) 4)
def zW (P:Params):Obj:=hC "take_mark" "WordRow.take_mark" 571 572 573 [.int 167 0,.int 2 0,.int 0 0,.int 0 0,.int 3 0,.ref 245,.bool true,.int 181 0,.ref 246,.none,.ref 247,.ref 248,.ref 249,.int 576 0,.int 167 0,hT 577]
def zX (P:Params):Obj:=hF "take_mark" "WordRow.take_mark" "oldhands.tokens" (bE (top 45) 4) 458 250
def zY (P:Params):Obj:=hS [.str ("all_words") 579,.str ("place") 580]
def zZ (P:Params):Obj:={ cls:=.type "dict",data:=.dict #[hE P "__module__" 532 (.str ("oldhands.tokens") 458),hE P "__firstlineno__" 536 (.int 147 535),hE P "__init__" 544 (.ref 223),hE P "coming" 553 (.ref 230),hE P "comes" 561 (.ref 237),hE P "take" 570 (.ref 244),hE P "take_mark" 578 (.ref 251),hE P "__static_attributes__" 581 (.ref 252),hE P "__dict__" 583 (.ref 255),hE P "__weakref__" 585 (.ref 256),hE P "__doc__" 586 (.none)] 4 }
def z6 (P:Params):Obj:={ cls:=.type "type",data:=.cls { name:= "WordRow",bases:=[.type "object"],mro:=[.ref 254,.type "object"],ns:=253,qualname:= "WordRow" },slots:=#[none,none,some (.str ("WordRow") 525),some (.str ("WordRow") 533),some (.builtin "object.__new__"),some (.bool true)] }
def z7 (P:Params):Obj:={ cls:=.type "getset_descriptor",data:=.fields #[.str ("__dict__") 582,.ref 254,.builtin "function.__dict__",.builtin "function.__dict__#set"] }
def z8 (P:Params):Obj:={ cls:=.type "getset_descriptor",data:=.fields #[.str ("__weakref__") 584,.ref 254,.builtin "ExceptionGroup.__weakref__",.none] }
def Ex (P:Params):Obj:={ cls:=.type "super",data:=.fields #[.ref 254,.ref 254,.ref 254] }
def Ey (P:Params):Obj:={ cls:=.type "builtin_function_or_method",data:=.fields #[.builtin "object.__init_subclass__",.ref 254] }
def z9 (P:Params):Obj:={ cls:=.type "dict",data:=.dict #[hE P "field" 591 (.str ("kind") 592),hE P "entry" 593 (.str ("value") 594),hE P "way" 595 (.str ("word") 596)] 3 }
def Aa (P:Params):Obj:=hS [.str ("[") 601,.str ("list") 602,.str ("value") 603,.str ("]") 604]
def Ab (P:Params):Obj:=hS [.str ("{") 605,.str ("record") 606,.str ("entry") 607,.str ("}") 608]
def Ac (P:Params):Obj:=hS [.str ("(") 609,.str ("rows") 610,.str ("value") 611,.str (")") 612]
def Ad (P:Params):Obj:=hS [.ref 260,.ref 261,.ref 262]
def Ez (P:Params):Obj:=hS []
def EA (P:Params):Obj:=hN
def EB (P:Params):Obj:=hS [.str ("text") 617]
def EC (P:Params):Obj:=hS []
def ED (P:Params):Obj:=hU "read_path" "read_path" (top 49)
def Ae (P:Params):Obj:=hC "read_path" "read_path" 614 615 616 [.int 174 0,.int 1 0,.int 0 0,.int 0 0,.int 3 0,.ref 264,.bool true,.int 181 0,.ref 265,.none,.ref 266,.ref 267,.ref 268,.int 618 0,.int 174 0,hT 619]
def Af (P:Params):Obj:=hF "read_path" "read_path" "oldhands.texts" (top 49) 589 269
def EE (P:Params):Obj:=hS []
def EF (P:Params):Obj:=hN
def EG (P:Params):Obj:=hS [.str ("text") 624]
def EH (P:Params):Obj:=hS []
def EI (P:Params):Obj:=hU "read_change" "read_change" (top 50)
def Ag (P:Params):Obj:=hC "read_change" "read_change" 621 622 623 [.int 176 0,.int 1 0,.int 0 0,.int 0 0,.int 3 0,.ref 271,.bool true,.int 181 0,.ref 272,.none,.ref 273,.ref 274,.ref 275,.int 625 0,.int 176 0,hT 626]
def Ah (P:Params):Obj:=hF "read_change" "read_change" "oldhands.texts" (top 50) 589 276
def EJ (P:Params):Obj:=hS []
def EK (P:Params):Obj:=hN
def EL (P:Params):Obj:=hS [.str ("text") 631,.str ("sort") 632,.str ("row") 633,.str ("told") 634]
def EM (P:Params):Obj:=hS []
def EN (P:Params):Obj:=hU "read_all" "read_all" (top 51)
def Ai (P:Params):Obj:=hC "read_all" "read_all" 628 629 630 [.int 178 0,.int 2 0,.int 0 0,.int 0 0,.int 3 0,.ref 278,.bool true,.int 181 0,.ref 279,.none,.ref 280,.ref 281,.ref 282,.int 635 0,.int 178 0,hT 636]
def Aj (P:Params):Obj:=hF "read_all" "read_all" "oldhands.texts" (top 51) 589 283
def EO (P:Params):Obj:=hS []
def EQ (P:Params):Obj:=hN
def ER (P:Params):Obj:=hS [.str ("row") 641,.str ("sort") 642,.str ("path") 643]
def ES (P:Params):Obj:=hS []
def ET (P:Params):Obj:=hU "part_read" "part_read" (top 52)
def Ak (P:Params):Obj:=hC "part_read" "part_read" 638 639 640 [.int 184 0,.int 2 0,.int 0 0,.int 0 0,.int 3 0,.ref 285,.bool true,.int 181 0,.ref 286,.none,.ref 287,.ref 288,.ref 289,.int 644 0,.int 184 0,hT 645]
def Al (P:Params):Obj:=hF "part_read" "part_read" "oldhands.texts" (top 52) 589 290
def EU (P:Params):Obj:=hS []
def EV (P:Params):Obj:=hN
def EW (P:Params):Obj:=hS [.str ("row") 650,.str ("sort") 651,.str ("word") 652]
def EX (P:Params):Obj:=hS []
def EY (P:Params):Obj:=hU "pair_read" "pair_read" (top 53)
def Am (P:Params):Obj:=hC "pair_read" "pair_read" 647 648 649 [.int 201 0,.int 2 0,.int 0 0,.int 0 0,.int 3 0,.ref 292,.bool true,.int 181 0,.ref 293,.none,.ref 294,.ref 295,.ref 296,.int 653 0,.int 201 0,hT 654]
def An (P:Params):Obj:=hF "pair_read" "pair_read" "oldhands.texts" (top 53) 589 297
def EZ (P:Params):Obj:=hS []
def E1 (P:Params):Obj:=hN
def E3 (P:Params):Obj:=hS [.str ("row") 659,.str ("word") 660,.str ("found") 661]
def E4 (P:Params):Obj:=hS []
def E5 (P:Params):Obj:=hU "kind_read" "kind_read" (top 54)
def Ao (P:Params):Obj:=hC "kind_read" "kind_read" 656 657 658 [.int 205 0,.int 1 0,.int 0 0,.int 0 0,.int 3 0,.ref 299,.bool true,.int 181 0,.ref 300,.none,.ref 301,.ref 302,.ref 303,.int 662 0,.int 205 0,hT 663]
def Ap (P:Params):Obj:=hF "kind_read" "kind_read" "oldhands.texts" (top 54) 589 304
def E6 (P:Params):Obj:=hS []
def E7 (P:Params):Obj:=hN
def E8 (P:Params):Obj:=hS [.str ("row") 668,.str ("opening") 669,.str ("word") 670,.str ("sort") 671,.str ("closing") 672]
def E9 (P:Params):Obj:=hS []
def Fa (P:Params):Obj:=hU "value_read" "value_read" (top 55)
def Aq (P:Params):Obj:=hC "value_read" "value_read" 665 666 667 [.int 215 0,.int 1 0,.int 0 0,.int 0 0,.int 3 0,.ref 306,.bool true,.int 181 0,.ref 307,.none,.ref 308,.ref 309,.ref 310,.int 673 0,.int 215 0,hT 674]
def Ar (P:Params):Obj:=hF "value_read" "value_read" "oldhands.texts" (top 55) 589 311
def Fb (P:Params):Obj:=hS []
def Fc (P:Params):Obj:=hN
def Fd (P:Params):Obj:=hS [.str ("row") 679,.str ("word") 680,.str ("forth") 681]
def Fe (P:Params):Obj:=hS []
def Ff (P:Params):Obj:=hU "turn_read" "turn_read" (top 56)
def As (P:Params):Obj:=hC "turn_read" "turn_read" 676 677 678 [.int 223 0,.int 1 0,.int 0 0,.int 0 0,.int 3 0,.ref 313,.bool true,.int 181 0,.ref 314,.none,.ref 315,.ref 316,.ref 317,.int 682 0,.int 223 0,hT 683]
def At (P:Params):Obj:=hF "turn_read" "turn_read" "oldhands.texts" (top 56) 589 318
def Fg (P:Params):Obj:=hS []
def Fh (P:Params):Obj:=hN
def Fi (P:Params):Obj:=hS [.str ("row") 688,.str ("names") 689]
def Fj (P:Params):Obj:=hS []
def Fk (P:Params):Obj:=hU "path_read" "path_read" (top 57)
def Au (P:Params):Obj:=hC "path_read" "path_read" 685 686 687 [.int 230 0,.int 1 0,.int 0 0,.int 0 0,.int 3 0,.ref 320,.bool true,.int 181 0,.ref 321,.none,.ref 322,.ref 323,.ref 324,.int 690 0,.int 230 0,hT 691]
def Av (P:Params):Obj:=hF "path_read" "path_read" "oldhands.texts" (top 57) 589 325
def Fl (P:Params):Obj:=hS []
def Fm (P:Params):Obj:=hN
def Fn (P:Params):Obj:=hS [.str ("row") 696,.str ("sort") 697,.str ("word") 698,.str ("form") 699,.str ("found") 700,.str ("part_sort") 701]
def Fo (P:Params):Obj:=hS []
def Fp (P:Params):Obj:=hU "form_read" "form_read" (top 58)
def Aw (P:Params):Obj:=hC "form_read" "form_read" 693 694 695 [.int 239 0,.int 3 0,.int 0 0,.int 0 0,.int 3 0,.ref 327,.bool true,.int 181 0,.ref 328,.none,.ref 329,.ref 330,.ref 331,.int 702 0,.int 239 0,hT 703]
def Ax (P:Params):Obj:=hF "form_read" "form_read" "oldhands.texts" (top 58) 589 332
def Fq (P:Params):Obj:=hS []
def Fr (P:Params):Obj:=hN
def Fs (P:Params):Obj:=hS [.str ("row") 708,.str ("sort") 709,.str ("closing") 710,.str ("found") 711]
def Ft (P:Params):Obj:=hS []
def Fu (P:Params):Obj:=hU "list_read" "list_read" (top 59)
def Ay (P:Params):Obj:=hC "list_read" "list_read" 705 706 707 [.int 251 0,.int 3 0,.int 0 0,.int 0 0,.int 3 0,.ref 334,.bool true,.int 181 0,.ref 335,.none,.ref 336,.ref 337,.ref 338,.int 712 0,.int 251 0,hT 713]
def Az (P:Params):Obj:=hF "list_read" "list_read" "oldhands.texts" (top 59) 589 339
def Fv (P:Params):Obj:=hS []
def Fw (P:Params):Obj:=hN
def Fx (P:Params):Obj:=hS [.str ("parts") 718]
def Fy (P:Params):Obj:=hS []
def Fz (P:Params):Obj:=hU "at_least_one" "at_least_one" (top 60)
def AA (P:Params):Obj:=hC "at_least_one" "at_least_one" 715 716 717 [.int 259 0,.int 1 0,.int 0 0,.int 0 0,.int 3 0,.ref 341,.bool true,.int 181 0,.ref 342,.none,.ref 343,.ref 344,.ref 345,.int 719 0,.int 259 0,hT 720]
def AB (P:Params):Obj:=hF "at_least_one" "at_least_one" "oldhands.texts" (top 60) 589 346
def FA (P:Params):Obj:=hS []
def FC (P:Params):Obj:=hN
def FD (P:Params):Obj:=hS [.str ("script") 727,.str ("k") 728]
def FE (P:Params):Obj:=hS []
def FF (P:Params):Obj:=hU "_law_cell_at" "_law_cell_at" (top 62)
def AC (P:Params):Obj:=hC "_law_cell_at" "_law_cell_at" 724 725 726 [.int 264 0,.int 2 0,.int 0 0,.int 0 0,.int 3 0,.ref 348,.bool true,.int 181 0,.ref 349,.none,.ref 350,.ref 351,.ref 352,.int 729 0,.int 264 0,hT 730]
def AD (P:Params):Obj:=hF "_law_cell_at" "_law_cell_at" "law_oldhands_k88_changes_in_words" (top 62) 722 353
def FG (P:Params):Obj:=hS []
def FH (P:Params):Obj:=hN
def FI (P:Params):Obj:=hS [.str ("cell") 735,.str ("k") 736,.str ("stir") 737]
def FJ (P:Params):Obj:=hS []
def FL (P:Params):Obj:=hU "_law_mixed" "_law_mixed" (top 63)
def AE (P:Params):Obj:=hC "_law_mixed" "_law_mixed" 732 733 734 [.int 268 0,.int 2 0,.int 0 0,.int 0 0,.int 3 0,.ref 355,.bool true,.int 181 0,.ref 356,.none,.ref 357,.ref 358,.ref 359,.int 738 0,.int 268 0,hT 739]
def AF (P:Params):Obj:=hF "_law_mixed" "_law_mixed" "law_oldhands_k88_changes_in_words" (top 63) 722 360
def FM (P:Params):Obj:=hS []
def FN (P:Params):Obj:=hN
def FO (P:Params):Obj:=hS [.str ("script") 744,.str ("k") 745,.str ("turn") 746,.str ("cell") 747,.str ("found") 748,.str ("j") 749]
def FP (P:Params):Obj:=hS []
def FQ (P:Params):Obj:=hU "_law_own" "_law_own" (top 64)
def AG (P:Params):Obj:=hC "_law_own" "_law_own" 741 742 743 [.int 271 0,.int 3 0,.int 0 0,.int 0 0,.int 3 0,.ref 362,.bool true,.int 181 0,.ref 363,.none,.ref 364,.ref 365,.ref 366,.int 750 0,.int 271 0,hT 751]
def AH (P:Params):Obj:=hF "_law_own" "_law_own" "law_oldhands_k88_changes_in_words" (top 64) 722 367
def FR (P:Params):Obj:=hS []
def FS (P:Params):Obj:=hN
def FT (P:Params):Obj:=hS [.str ("row") 756,.str ("many") 757,.str ("digit") 758]
def FU (P:Params):Obj:=hS []
def FV (P:Params):Obj:=hU "_law_digit" "_law_digit" (top 65)
def AI (P:Params):Obj:=hC "_law_digit" "_law_digit" 753 754 755 [.int 279 0,.int 2 0,.int 0 0,.int 0 0,.int 3 0,.ref 369,.bool true,.int 181 0,.ref 370,.none,.ref 371,.ref 372,.ref 373,.int 759 0,.int 279 0,hT 760]
def AJ (P:Params):Obj:=hF "_law_digit" "_law_digit" "law_oldhands_k88_changes_in_words" (top 65) 722 374
def FW (P:Params):Obj:=hS []
def FX (P:Params):Obj:=hN
def FY (P:Params):Obj:=hU "_law_names" "_law_names" (top 66)
def AK (P:Params):Obj:=hC "_law_names" "_law_names" 762 763 764 [.int 283 0,.int 2 0,.int 0 0,.int 0 0,.int 3 0,.ref 376,.bool true,.int 181 0,.ref 377,.none,.none,.none,.ref 378,.int 765 0,.int 283 0,hT 766]
def AL (P:Params):Obj:=hF "_law_names" "_law_names" "law_oldhands_k88_changes_in_words" (top 66) 722 379
def FZ (P:Params):Obj:=hS []
def F3 (P:Params):Obj:=hN
def F4 (P:Params):Obj:=hS [.str ("row") 771,.str ("low") 772,.str ("high") 773]
def F5 (P:Params):Obj:=hS []
def F6 (P:Params):Obj:=hU "_law_number_kind" "_law_number_kind" (top 67)
def AM (P:Params):Obj:=hC "_law_number_kind" "_law_number_kind" 768 769 770 [.int 293 0,.int 1 0,.int 0 0,.int 0 0,.int 3 0,.ref 381,.bool true,.int 181 0,.ref 382,.none,.ref 383,.ref 384,.ref 385,.int 774 0,.int 293 0,hT 775]
def AN (P:Params):Obj:=hF "_law_number_kind" "_law_number_kind" "law_oldhands_k88_changes_in_words" (top 67) 722 386
def F7 (P:Params):Obj:=hS []
def F8 (P:Params):Obj:=hN
def F9 (P:Params):Obj:=hS [.str ("row") 780,.str ("way") 781,.str ("words") 782]
def Ga (P:Params):Obj:=hS []
def Gb (P:Params):Obj:=hU "_law_leaf_kind" "_law_leaf_kind" (top 68)
def AO (P:Params):Obj:=hC "_law_leaf_kind" "_law_leaf_kind" 777 778 779 [.int 297 0,.int 1 0,.int 0 0,.int 0 0,.int 3 0,.ref 388,.bool true,.int 181 0,.ref 389,.none,.ref 390,.ref 391,.ref 392,.int 783 0,.int 297 0,hT 784]
def AQ (P:Params):Obj:=hF "_law_leaf_kind" "_law_leaf_kind" "law_oldhands_k88_changes_in_words" (top 68) 722 393
def Gc (P:Params):Obj:=hS []
def Gd (P:Params):Obj:=hN
def Ge (P:Params):Obj:=hS [.str ("row") 789,.str ("deep") 790,.str ("room") 791,.str ("many") 792,.str ("fields") 793,.str ("name") 794]
def Gf (P:Params):Obj:=hS []
def Gg (P:Params):Obj:=hU "_law_record_kind" "_law_record_kind" (top 69)
def AR (P:Params):Obj:=hC "_law_record_kind" "_law_record_kind" 786 787 788 [.int 307 0,.int 3 0,.int 0 0,.int 0 0,.int 3 0,.ref 395,.bool true,.int 181 0,.ref 396,.none,.ref 397,.ref 398,.ref 399,.int 795 0,.int 307 0,hT 796]
def AS (P:Params):Obj:=hF "_law_record_kind" "_law_record_kind" "law_oldhands_k88_changes_in_words" (top 69) 722 400
def Gh (P:Params):Obj:=hS []
def Gi (P:Params):Obj:=hN
def Gj (P:Params):Obj:=hS [.str ("row") 801,.str ("deep") 802,.str ("room") 803,.str ("names") 804,.str ("key") 805,.str ("fields") 806,.str ("name") 807,.str ("inner") 808]
def Gk (P:Params):Obj:=hS []
def Gm (P:Params):Obj:=hU "_law_rows_kind" "_law_rows_kind" (top 70)
def AT (P:Params):Obj:=hC "_law_rows_kind" "_law_rows_kind" 798 799 800 [.int 313 0,.int 3 0,.int 0 0,.int 0 0,.int 3 0,.ref 402,.bool true,.int 181 0,.ref 403,.none,.ref 404,.ref 405,.ref 406,.int 809 0,.int 313 0,hT 810]
def AU (P:Params):Obj:=hF "_law_rows_kind" "_law_rows_kind" "law_oldhands_k88_changes_in_words" (top 70) 722 407
def Go (P:Params):Obj:=hS []
def Gp (P:Params):Obj:=hN
def Gq (P:Params):Obj:=hS [.str ("row") 815,.str ("deep") 816,.str ("room") 817,.str ("way") 818]
def Gr (P:Params):Obj:=hS []
def Gs (P:Params):Obj:=hU "_law_kind" "_law_kind" (top 71)
def AV (P:Params):Obj:=hC "_law_kind" "_law_kind" 812 813 814 [.int 325 0,.int 3 0,.int 0 0,.int 0 0,.int 3 0,.ref 409,.bool true,.int 181 0,.ref 410,.none,.ref 411,.ref 412,.ref 413,.int 819 0,.int 325 0,hT 820]
def AW (P:Params):Obj:=hF "_law_kind" "_law_kind" "law_oldhands_k88_changes_in_words" (top 71) 722 414
def Gu (P:Params):Obj:=hS []
def Gv (P:Params):Obj:=hN
def Gw (P:Params):Obj:=hU "_law_text" "_law_text" (top 72)
def AX (P:Params):Obj:=hC "_law_text" "_law_text" 822 823 824 [.int 335 0,.int 2 0,.int 0 0,.int 0 0,.int 3 0,.ref 416,.bool true,.int 181 0,.ref 417,.none,.none,.none,.ref 418,.int 825 0,.int 335 0,hT 826]
def AY (P:Params):Obj:=hF "_law_text" "_law_text" "law_oldhands_k88_changes_in_words" (top 72) 722 419
def Gx (P:Params):Obj:=hS []
def Gy (P:Params):Obj:=hN
def Gz (P:Params):Obj:=hS [.str ("kind") 831,.str ("word") 832,.str ("words") 833,.str ("name") 834,.str ("inner") 835,.str ("number") 836]
def GA (P:Params):Obj:=hS []
def GB (P:Params):Obj:=hU "_law_kind_words" "_law_kind_words" (top 73)
def AZ (P:Params):Obj:=hC "_law_kind_words" "_law_kind_words" 828 829 830 [.int 338 0,.int 1 0,.int 0 0,.int 0 0,.int 3 0,.ref 421,.bool true,.int 181 0,.ref 422,.none,.ref 423,.ref 424,.ref 425,.int 837 0,.int 338 0,hT 838]
def A0 (P:Params):Obj:=hF "_law_kind_words" "_law_kind_words" "law_oldhands_k88_changes_in_words" (top 73) 722 426
def GC (P:Params):Obj:=hS []
def GD (P:Params):Obj:=hN
def GE (P:Params):Obj:=hS [.str ("value") 843,.str ("words") 844,.str ("part") 845,.str ("marks") 846]
def GF (P:Params):Obj:=hS []
def GG (P:Params):Obj:=hU "_law_value_words" "_law_value_words" (top 74)
def A1 (P:Params):Obj:=hC "_law_value_words" "_law_value_words" 840 841 842 [.int 357 0,.int 1 0,.int 0 0,.int 0 0,.int 3 0,.ref 428,.bool true,.int 181 0,.ref 429,.none,.ref 430,.ref 431,.ref 432,.int 847 0,.int 357 0,hT 848]
def A2 (P:Params):Obj:=hF "_law_value_words" "_law_value_words" "law_oldhands_k88_changes_in_words" (top 74) 722 433
def GH (P:Params):Obj:=hS []
def GI (P:Params):Obj:=hN
def GJ (P:Params):Obj:=hS [.str ("turn") 853,.str ("words") 854,.str ("name") 855,.str ("one") 856,.str ("other") 857,.str ("number") 858]
def GK (P:Params):Obj:=hS []
def GN (P:Params):Obj:=hU "_law_turn_words" "_law_turn_words" (top 75)
def A3 (P:Params):Obj:=hC "_law_turn_words" "_law_turn_words" 850 851 852 [.int 370 0,.int 1 0,.int 0 0,.int 0 0,.int 3 0,.ref 435,.bool true,.int 181 0,.ref 436,.none,.ref 437,.ref 438,.ref 439,.int 859 0,.int 370 0,hT 860]
def A4 (P:Params):Obj:=hF "_law_turn_words" "_law_turn_words" "law_oldhands_k88_changes_in_words" (top 75) 722 440
def GO (P:Params):Obj:=hS []
def GP (P:Params):Obj:=hN
def GQ (P:Params):Obj:=hS [.str ("piece") 865,.str ("words") 866,.str ("k") 867,.str ("part") 868]
def GR (P:Params):Obj:=hS []
def GS (P:Params):Obj:=hU "_law_piece_words" "_law_piece_words" (top 76)
def A5 (P:Params):Obj:=hC "_law_piece_words" "_law_piece_words" 862 863 864 [.int 386 0,.int 1 0,.int 0 0,.int 0 0,.int 3 0,.ref 442,.bool true,.int 181 0,.ref 443,.none,.ref 444,.ref 445,.ref 446,.int 869 0,.int 386 0,hT 870]
def A6 (P:Params):Obj:=hF "_law_piece_words" "_law_piece_words" "law_oldhands_k88_changes_in_words" (top 76) 722 447
def GT (P:Params):Obj:=hS []
def GU (P:Params):Obj:=hN
def GV (P:Params):Obj:=hS [.str ("path") 875,.str ("words") 876,.str ("name") 877]
def GX (P:Params):Obj:=hS []
def GY (P:Params):Obj:=hU "_law_path_words" "_law_path_words" (top 77)
def A7 (P:Params):Obj:=hC "_law_path_words" "_law_path_words" 872 873 874 [.int 402 0,.int 1 0,.int 0 0,.int 0 0,.int 3 0,.ref 449,.bool true,.int 181 0,.ref 450,.none,.ref 451,.ref 452,.ref 453,.int 878 0,.int 402 0,hT 879]
def A8 (P:Params):Obj:=hF "_law_path_words" "_law_path_words" "law_oldhands_k88_changes_in_words" (top 77) 722 454
def GZ (P:Params):Obj:=hS []
def G0 (P:Params):Obj:=hN
def G5 (P:Params):Obj:=hU "_law_tight" "_law_tight" (top 78)
def A9 (P:Params):Obj:=hC "_law_tight" "_law_tight" 881 882 883 [.int 407 0,.int 1 0,.int 0 0,.int 0 0,.int 3 0,.ref 456,.bool true,.int 181 0,.ref 457,.none,.none,.none,.ref 458,.int 884 0,.int 407 0,hT 885]
def Ba (P:Params):Obj:=hF "_law_tight" "_law_tight" "law_oldhands_k88_changes_in_words" (top 78) 722 459
def G6 (P:Params):Obj:=hS []
def G7 (P:Params):Obj:=hN
def G8 (P:Params):Obj:=hU "_law_loose" "_law_loose" (top 79)
def Bb (P:Params):Obj:=hC "_law_loose" "_law_loose" 887 888 889 [.int 409 0,.int 2 0,.int 0 0,.int 0 0,.int 3 0,.ref 461,.bool true,.int 181 0,.ref 462,.none,.none,.none,.ref 463,.int 890 0,.int 409 0,hT 891]
def Bc (P:Params):Obj:=hF "_law_loose" "_law_loose" "law_oldhands_k88_changes_in_words" (top 79) 722 464
def G9 (P:Params):Obj:=hS []
def Ha (P:Params):Obj:=hN
def Hb (P:Params):Obj:=hU "_law_word" "_law_word" (top 80)
def Bd (P:Params):Obj:=hC "_law_word" "_law_word" 893 894 895 [.int 411 0,.int 1 0,.int 0 0,.int 0 0,.int 3 0,.ref 466,.bool true,.int 181 0,.ref 467,.none,.none,.none,.ref 468,.int 896 0,.int 411 0,hT 897]
def Be (P:Params):Obj:=hF "_law_word" "_law_word" "law_oldhands_k88_changes_in_words" (top 80) 722 469
def Hc (P:Params):Obj:=hS []
def Hd (P:Params):Obj:=hN
def He (P:Params):Obj:=hS [.str ("row") 902]
def Hf (P:Params):Obj:=hS []
def Hg (P:Params):Obj:=hU "_law_any_number" "_law_any_number" (top 81)
def Bf (P:Params):Obj:=hC "_law_any_number" "_law_any_number" 899 900 901 [.int 416 0,.int 1 0,.int 0 0,.int 0 0,.int 3 0,.ref 471,.bool true,.int 181 0,.ref 472,.none,.ref 473,.ref 474,.ref 475,.int 903 0,.int 416 0,hT 904]
def Bg (P:Params):Obj:=hF "_law_any_number" "_law_any_number" "law_oldhands_k88_changes_in_words" (top 81) 722 476
def Hh (P:Params):Obj:=hS []
def Hi (P:Params):Obj:=hN
def Hj (P:Params):Obj:=hU "_law_any_value" "_law_any_value" (top 82)
def Bh (P:Params):Obj:=hC "_law_any_value" "_law_any_value" 906 907 908 [.int 420 0,.int 2 0,.int 0 0,.int 0 0,.int 3 0,.ref 478,.bool true,.int 181 0,.ref 479,.none,.none,.none,.ref 480,.int 909 0,.int 420 0,hT 910]
def Bi (P:Params):Obj:=hF "_law_any_value" "_law_any_value" "law_oldhands_k88_changes_in_words" (top 82) 722 481
def Hk (P:Params):Obj:=hS []
def Hl (P:Params):Obj:=hN
def Hm (P:Params):Obj:=hU "_law_any_turn" "_law_any_turn" (top 83)
def Bj (P:Params):Obj:=hC "_law_any_turn" "_law_any_turn" 912 913 914 [.int 428 0,.int 2 0,.int 0 0,.int 0 0,.int 3 0,.ref 483,.bool true,.int 181 0,.ref 484,.none,.none,.none,.ref 485,.int 915 0,.int 428 0,hT 916]
def Bk (P:Params):Obj:=hF "_law_any_turn" "_law_any_turn" "law_oldhands_k88_changes_in_words" (top 83) 722 486
def Hn (P:Params):Obj:=hS []
def Ho (P:Params):Obj:=hN
def Hq (P:Params):Obj:=hS [.str ("row") 921,.str ("way") 922,.str ("one") 923,.str ("two") 924,.str ("three") 925,.str ("four") 926]
def Hr (P:Params):Obj:=hS []
def Hs (P:Params):Obj:=hU "_law_any_piece" "_law_any_piece" (top 84)
def Bl (P:Params):Obj:=hC "_law_any_piece" "_law_any_piece" 918 919 920 [.int 440 0,.int 1 0,.int 0 0,.int 0 0,.int 3 0,.ref 488,.bool true,.int 181 0,.ref 489,.none,.ref 490,.ref 491,.ref 492,.int 927 0,.int 440 0,hT 928]
def Bm (P:Params):Obj:=hF "_law_any_piece" "_law_any_piece" "law_oldhands_k88_changes_in_words" (top 84) 722 493
def Ht (P:Params):Obj:=hS []
def Hu (P:Params):Obj:=hN
def Hv (P:Params):Obj:=hU "_law_any_path" "_law_any_path" (top 85)
def Bn (P:Params):Obj:=hC "_law_any_path" "_law_any_path" 930 931 932 [.int 458 0,.int 1 0,.int 0 0,.int 0 0,.int 3 0,.ref 495,.bool true,.int 181 0,.ref 496,.none,.none,.none,.ref 497,.int 933 0,.int 458 0,hT 934]
def Bo (P:Params):Obj:=hF "_law_any_path" "_law_any_path" "law_oldhands_k88_changes_in_words" (top 85) 722 498
def Hw (P:Params):Obj:=hS []
def Hy (P:Params):Obj:=hN
def Hz (P:Params):Obj:=hS [.str ("script") 939,.str ("k") 940,.str ("again") 941,.str ("row") 942,.str ("path") 943,.str ("words") 944,.str ("piece") 945,.str ("text") 946]
def HA (P:Params):Obj:=hS []
def HB (P:Params):Obj:=hU "law" "law" (top 86)
def Bp (P:Params):Obj:=hC "law" "law" 936 937 938 [.int 460 0,.int 1 0,.int 0 0,.int 0 0,.int 3 0,.ref 500,.bool true,.int 181 0,.ref 501,.none,.ref 502,.ref 503,.ref 504,.int 947 0,.int 460 0,hT 948]
def Bq (P:Params):Obj:=hF "law" "law" "law_oldhands_k88_changes_in_words" (top 86) 722 505
abbrev N (v:Obj) (l r:W.BT):W.BT:=.node v l r
abbrev E:W.BT:=.nil
def fT (P:Params):W.BT:=N (o0 P) (N (o1 P) (N (o3 P) (N (o7 P) (N o15 (N o11 (N o63 (N (zj P) (N (z7 P) E E) (N (F4 P) E E)) (N (DJ P) (N (At P) E E) (N (A5 P) E E))) (N o95 (N (Dk P) (N (ER P) E E) (N (AW P) E E)) (N (zP P) (N (FE P) E E) (N (Hi P) E E)))) (N o11 (N o79 (N (C7 P) (N (EE P) E E) (N (Gg P) E E)) (N (DV P) (N (Fr P) E E) (N (G8 P) E E))) (N (CJ P) (N (zC P) (N (E5 P) E E) (N (GF P) E E)) (N (En P) (N (AG P) E E) (N (Ht P) E E))))) (N (o23 P) (N o39 (N o71 (N (zn P) (N (Ad P) E E) (N (Ga P) E E)) (N (DP P) (N (Fl P) E E) (N (A8 P) E E))) (N (zb P) (N (zy P) (N (EX P) E E) (N (Gz P) E E)) (N (Eh P) (N (FL P) E E) (N (Bk P) E E)))) (N o19 (N o19 (N (Dd P) (N (EK P) E E) (N (AT P) E E)) (N (D5 P) (N (Fx P) E E) (N (Hc P) E E))) (N (CP P) (N (zF P) (N (Aq P) E E) (N (GN P) E E)) (N (Eu P) (N (AJ P) E E) (N (HA P) E E)))))) (N o11 (N o19 (N o11 (N o67 (N (CZ P) (N (z9 P) E E) (N (AN P) E E)) (N (DN P) (N (Fj P) E E) (N (GV P) E E))) (N o19 (N (Dm P) (N (Al P) E E) (N (AX P) E E)) (N (Ef P) (N (FG P) E E) (N (Hk P) E E)))) (N o51 (N o83 (N (zr P) (N (EI P) E E) (N (Gi P) E E)) (N (DX P) (N (Ay P) E E) (N (Ha P) E E))) (N (CL P) (N (DB P) (N (E7 P) E E) (N (GH P) E E)) (N (zU P) (N (FT P) E E) (N (Bo P) E E))))) (N o27 (N o11 (N (o75 P) (N (zo P) (N (EC P) E E) (N (Gc P) E E)) (N (DR P) (N (Fp P) E E) (N (A9 P) E E))) (N (CH P) (N (Dv P) (N (EZ P) E E) (N (A0 P) E E)) (N (El P) (N (FN P) E E) (N (Hr P) E E)))) (N (o59 P) (N o91 (N (Dg P) (N (Ai P) E E) (N (Gq P) E E)) (N (D9 P) (N (AB P) E E) (N (Hg P) E E))) (N (CS P) (N (DH P) (N (Fd P) E E) (N (GP P) E E)) (N (zX P) (N (AK P) E E) E)))))) (N (o5 P) (N (o9 P) (N (o17 P) (N o33 (N o65 (N (CW P) (N (Ex P) E E) (N (F6 P) E E)) (N (DL P) (N (Fh P) E E) (N (GT P) E E))) (N o97 (N (zx P) (N (ET P) E E) (N (Gv P) E E)) (N (Ed P) (N (AC P) E E) (N (Bh P) E E)))) (N o49 (N o81 (N (C9 P) (N (EG P) E E) (N (AS P) E E)) (N (zN P) (N (Ft P) E E) (N (Bc P) E E))) (N (zf P) (N (Dz P) (N (Ap P) E E) (N (A1 P) E E)) (N (Ep P) (N (FR P) E E) (N (Hv P) E E))))) (N o25 (N o19 (N o11 (N (C3 P) (N (EA P) E E) (N (AO P) E E)) (N (zK P) (N (Fn P) E E) (N (G0 P) E E))) (N (CF P) (N (Ds P) (N (Am P) E E) (N (GB P) E E)) (N (Ej P) (N (AF P) E E) (N (Ho P) E E)))) (N o57 (N o11 (N (zt P) (N (EM P) E E) (N (Go P) E E)) (N (D7 P) (N (Fz P) E E) (N (He P) E E))) (N (zi P) (N (DF P) (N (Fb P) E E) (N (A4 P) E E)) (N (Ew P) (N (FX P) E E) (N (Bp P) E E)))))) (N o13 (N o21 (N o37 (N o69 (N (C1 P) (N (Ab P) E E) (N (F8 P) E E)) (N (zJ P) (N (Au P) E E) (N (GY P) E E))) (N (CC P) (N (Do P) (N (EV P) E E) (N (Gx P) E E)) (N (zQ P) (N (FI P) E E) (N (Hm P) E E)))) (N o53 (N o85 (N (Db P) (N (Ah P) E E) (N (Gk P) E E)) (N (DZ P) (N (Fv P) E E) (N (Bd P) E E))) (N (CN P) (N (DD P) (N (E9 P) E E) (N (GJ P) E E)) (N (Es P) (N (FV P) E E) (N (Hy P) E E))))) (N o16 (N o45 (N o77 (N (C5 P) (N (Ae P) E E) (N (Ge P) E E)) (N (DT P) (N (Ax P) E E) (N (G6 P) E E))) (N (ze P) (N (Dy P) (N (E3 P) E E) (N (GD P) E E)) (N (zT P) (N (FP P) E E) (N (Bl P) E E)))) (N o61 (N o11 (N (Di P) (N (EO P) E E) (N (Gs P) E E)) (N (Eb P) (N (FC P) E E) (N (Bg P) E E))) (N (CU P) (N (zG P) (N (Ff P) E E) (N (GR P) E E)) (N (zZ P) (N (FZ P) E E) E))))))) (N (o2 P) (N (o4 P) (N (o8 P) (N o16 (N o19 (N (o64 P) (N (zk P) (N (z8 P) E E) (N (F5 P) E E)) (N (DK P) (N (Fg P) E E) (N (A6 P) E E))) (N o96 (N (zw P) (N (ES P) E E) (N (Gu P) E E)) (N (Ec P) (N (FF P) E E) (N (Hj P) E E)))) (N o19 (N o80 (N (C8 P) (N (EF P) E E) (N (AR P) E E)) (N (zM P) (N (Fs P) E E) (N (Bb P) E E))) (N (CK P) (N (zD P) (N (Ao P) E E) (N (GG P) E E)) (N (Eo P) (N (AH P) E E) (N (Hu P) E E))))) (N o24 (N o11 (N o72 (N (C2 P) (N (Ez P) E E) (N (Gb P) E E)) (N (DQ P) (N (Fm P) E E) (N (GZ P) E E))) (N (zc P) (N (zA P) (N (EY P) E E) (N (GA P) E E)) (N (Ei P) (N (AE P) E E) (N (Hn P) E E)))) (N o56 (N o88 (N (De P) (N (EL P) E E) (N (AU P) E E)) (N (D6 P) (N (Fy P) E E) (N (Hd P) E E))) (N (zh P) (N (DE P) (N (Ar P) E E) (N (A3 P) E E)) (N (Ev P) (N (FW P) E E) (N (HB P) E E)))))) (N o12 (N o20 (N (o36 P) (N o68 (N (C0 P) (N (Aa P) E E) (N (F7 P) E E)) (N (zI P) (N (Fk P) E E) (N (GX P) E E))) (N (CB P) (N (Dn P) (N (EU P) E E) (N (AY P) E E)) (N (Eg P) (N (FH P) E E) (N (Hl P) E E)))) (N o52 (N o84 (N (Da P) (N (Ag P) E E) (N (Gj P) E E)) (N (DY P) (N (Az P) E E) (N (Hb P) E E))) (N (CM P) (N (DC P) (N (E8 P) E E) (N (GI P) E E)) (N (zV P) (N (FU P) E E) (N (Hw P) E E))))) (N o28 (N o44 (N o76 (N (zp P) (N (ED P) E E) (N (Gd P) E E)) (N (DS P) (N (Aw P) E E) (N (Ba P) E E))) (N (zd P) (N (Dx P) (N (E1 P) E E) (N (GC P) E E)) (N (zS P) (N (FO P) E E) (N (Hs P) E E)))) (N o60 (N o92 (N (Dh P) (N (Aj P) E E) (N (Gr P) E E)) (N (Ea P) (N (FA P) E E) (N (Bf P) E E))) (N (CT P) (N (DI P) (N (Fe P) E E) (N (GQ P) E E)) (N (zY P) (N (AL P) E E) E)))))) (N (o6 P) (N (o10 P) (N o11 (N o34 (N o66 (N (CY P) (N (Ey P) E E) (N (AM P) E E)) (N (DM P) (N (Fi P) E E) (N (GU P) E E))) (N o11 (N (Dl P) (N (Ak P) E E) (N (Gw P) E E)) (N (Ee P) (N (AD P) E E) (N (Bi P) E E)))) (N o11 (N o82 (N (zq P) (N (EH P) E E) (N (Gh P) E E)) (N (DW P) (N (Fu P) E E) (N (G9 P) E E))) (N (zg P) (N (DA P) (N (E6 P) E E) (N (A2 P) E E)) (N (Er P) (N (FS P) E E) (N (Bn P) E E))))) (N o26 (N o42 (N o74 (N (C4 P) (N (EB P) E E) (N (AQ P) E E)) (N (zL P) (N (Fo P) E E) (N (G5 P) E E))) (N (CG P) (N (Du P) (N (An P) E E) (N (AZ P) E E)) (N (Ek P) (N (FM P) E E) (N (Hq P) E E)))) (N o58 (N o90 (N (zu P) (N (EN P) E E) (N (Gp P) E E)) (N (D8 P) (N (AA P) E E) (N (Hf P) E E))) (N (CQ P) (N (DG P) (N (Fc P) E E) (N (GO P) E E)) (N (zW P) (N (FY P) E E) (N (Bq P) E E)))))) (N o14 (N o11 (N o38 (N o70 (N (zm P) (N (Ac P) E E) (N (F9 P) E E)) (N (DO P) (N (Av P) E E) (N (A7 P) E E))) (N (CD P) (N (Dq P) (N (EW P) E E) (N (Gy P) E E)) (N (zR P) (N (FJ P) E E) (N (Bj P) E E)))) (N o11 (N o11 (N (Dc P) (N (EJ P) E E) (N (Gm P) E E)) (N (D0 P) (N (Fw P) E E) (N (Be P) E E))) (N (CO P) (N (zE P) (N (Fa P) E E) (N (GK P) E E)) (N (Et P) (N (AI P) E E) (N (Hz P) E E))))) (N (o30 P) (N o46 (N o78 (N (C6 P) (N (Af P) E E) (N (Gf P) E E)) (N (DU P) (N (Fq P) E E) (N (G7 P) E E))) (N (CI P) (N (zB P) (N (E4 P) E E) (N (GE P) E E)) (N (Em P) (N (FQ P) E E) (N (Bm P) E E)))) (N o62 (N o19 (N (Dj P) (N (EQ P) E E) (N (AV P) E E)) (N (zO P) (N (FD P) E E) (N (Hh P) E E))) (N (CV P) (N (zH P) (N (As P) E E) (N (GS P) E E)) (N (z6 P) (N (F3 P) E E) E)))))))
def fO (P:Params) (i:Nat):Obj:=match (fT P).get i with | some v=>v | none=>hN
def mT (P:Params) (n:Nat):Nat->Nat->Nat->W.BT
 | 0,_,_=>.nil
 | k+1,a,b=>match Nat.blt b n with
  | true=>.node (fO P b) (mT P n k (Nat.mul 2 a) (Nat.add a b)) (mT P n k (Nat.mul 2 a) (Nat.add (Nat.mul 2 a) b))
  | false=>.nil
abbrev hA1:Option Value:=some (.ref 6)
abbrev hB1:List Frame:=[W.topFrame ⟨0,0,0,0⟩]
def dN:Env:={ scope:=pwX.main.scope,locals:=mainNs,globals:=mainNs,cells:=[],code:=.ref 13,frame:=some 14 }
abbrev hCo:Code:=.body (W.behindTheImports pwX) dN
def hp0 (P:Params):Heap:=⟨Array.mk (o0 P :: o1 P :: o2 P :: (gD P "__main__" 164 8 9) :: o4 P :: o5 P :: o6 P :: o7 P :: o8 P :: o9 P :: o10 P :: o11 :: (tD 0) :: o13 :: o14 :: []),{}⟩
def tB (P:Params):W.BT:=((mT P 15 10 1 0).set 3 (λ_=>gD P "__main__" 164 8 9)).set 12 (λ_=>tD 0)
def sB (w:World) (os:OsState):W.SharedT:=⟨tB w.params,15,{},Array.mk [],{},187,os⟩
def t0 (P:Params):W.BT:=(((mT P 28 10 1 0).set 3 (λ_=>gD P "oldhands.errors" 187 9 10)).set 12 (λ_=>tD 3)).set 24 (λ_=>{ cls:=.type "type",data:=.cls { name:= "HandError",bases:=[.type "ValueError"],mro:=[.ref 24,.type "ValueError",.type "Exception",.type "BaseException",.type "object"],ns:=23,qualname:= "HandError" },slots:=#[some (.ref 15),none,some (.str ("HandError") 189),some (.str ("HandError") 197),some (.builtin "ValueError.__new__"),some (.bool true)] })
def s0 (w:World) (os:OsState):W.SharedT:=⟨t0 w.params,28,{},Array.mk [],{},207,os⟩
def st0:List Stmt:=((W.behindTheImports pwX).drop 0).take 2
def t1 (P:Params):W.BT:=((mT P 59 10 1 0).set 3 (λ_=>gD P "oldhands.words" 255 17 18)).set 12 (λ_=>tD 15)
def s1 (w:World) (os:OsState):W.SharedT:=⟨t1 w.params,59,{},Array.mk [],{},257,os⟩
def st1:List Stmt:=((W.behindTheImports pwX).drop 2).take 11
def t2 (P:Params):W.BT:=((mT P 75 10 1 0).set 3 (λ_=>gD P "oldhands.words" 255 19 20)).set 12 (λ_=>tD 15)
def s2 (w:World) (os:OsState):W.SharedT:=⟨t2 w.params,75,{},Array.mk [],{},306,os⟩
def st2:List Stmt:=((W.behindTheImports pwX).drop 13).take 2
def t3 (P:Params):W.BT:=((mT P 129 10 1 0).set 3 (λ_=>gD P "oldhands.words" 255 27 28)).set 12 (λ_=>tD 36)
def s3 (w:World) (os:OsState):W.SharedT:=⟨t3 w.params,129,{},Array.mk [],{},406,os⟩
def st3:List Stmt:=((W.behindTheImports pwX).drop 15).take 8
def t4 (P:Params):W.BT:=((mT P 198 10 1 0).set 3 (λ_=>gD P "oldhands.tokens" 458 46 47)).set 12 (λ_=>tD 66)
def s4 (w:World) (os:OsState):W.SharedT:=⟨t4 w.params,198,{},Array.mk [],{},508,os⟩
def st4:List Stmt:=((W.behindTheImports pwX).drop 23).take 20
def t5 (P:Params):W.BT:=((mT P 210 10 1 0).set 3 (λ_=>gD P "oldhands.tokens" 458 48 49)).set 12 (λ_=>tD 72)
def s5 (w:World) (os:OsState):W.SharedT:=⟨t5 w.params,210,{},Array.mk [],{},525,os⟩
def st5:List Stmt:=((W.behindTheImports pwX).drop 43).take 2
def t6 (P:Params):W.BT:=((mT P 259 10 1 0).set 3 (λ_=>gD P "oldhands.texts" 589 49 50)).set 12 (λ_=>tD 75)
def s6 (w:World) (os:OsState):W.SharedT:=⟨t6 w.params,259,{},Array.mk [],{},591,os⟩
def st6:List Stmt:=((W.behindTheImports pwX).drop 45).take 2
def t7 (P:Params):W.BT:=((mT P 334 10 1 0).set 3 (λ_=>gD P "oldhands.texts" 589 61 62)).set 12 (λ_=>tD 105)
def s7 (w:World) (os:OsState):W.SharedT:=⟨t7 w.params,334,{},Array.mk [],{},705,os⟩
def st7:List Stmt:=((W.behindTheImports pwX).drop 47).take 12
def t8 (P:Params):W.BT:=((mT P 416 10 1 0).set 3 (λ_=>gD P "law_oldhands_k88_changes_in_words" 722 73 74)).set 12 (λ_=>tD 141)
def s8 (w:World) (os:OsState):W.SharedT:=⟨t8 w.params,416,{},Array.mk [],{},822,os⟩
def st8:List Stmt:=((W.behindTheImports pwX).drop 59).take 13
def t9 (P:Params):W.BT:=((mT P 495 10 1 0).set 3 (λ_=>gD P "law_oldhands_k88_changes_in_words" 722 86 87)).set 12 (λ_=>tD 180)
def s9 (w:World) (os:OsState):W.SharedT:=⟨t9 w.params,495,{},Array.mk [],{},930,os⟩
def st9:List Stmt:=((W.behindTheImports pwX).drop 72).take 13
def t10 (P:Params):W.BT:=mT P 507 10 1 0
def s10 (w:World) (os:OsState):W.SharedT:=⟨t10 w.params,507,{},Array.mk [],{},950,os⟩
def HC:List Stmt:=((W.behindTheImports pwX).drop 85).take 2
def hp1 (P:Params):Heap:=⟨Array.mk (o0 P :: o1 P :: o2 P :: o3 P :: o4 P :: o5 P :: o6 P :: o7 P :: o8 P :: o9 P :: o10 P :: o11 :: o12 :: o13 :: o14 :: o15 :: o16 :: o17 P :: o11 :: o19 :: o20 :: o21 :: o11 :: o23 P :: o24 :: o25 :: o26 :: o27 :: o28 :: o16 :: o30 P :: o11 :: o19 :: o33 :: o34 :: o11 :: o36 P :: o37 :: o38 :: o39 :: o11 :: o19 :: o42 :: o11 :: o44 :: o45 :: o46 :: o11 :: o19 :: o49 :: o11 :: o51 :: o52 :: o53 :: o11 :: o19 :: o56 :: o57 :: o58 :: o59 P :: o60 :: o61 :: o62 :: o63 :: o64 P :: o65 :: o66 :: o67 :: o68 :: o69 :: o70 :: o71 :: o72 :: o11 :: o74 :: o75 P :: o76 :: o77 :: o78 :: o79 :: o80 :: o81 :: o82 :: o83 :: o84 :: o85 :: o11 :: o19 :: o88 :: o11 :: o90 :: o91 :: o92 :: o11 :: o19 :: o95 :: o96 :: o97 :: o11 :: o19 :: CB P :: CC P :: CD P :: zb P :: zc P :: CF P :: CG P :: CH P :: zd P :: ze P :: CI P :: CJ P :: CK P :: zf P :: zg P :: CL P :: CM P :: CN P :: CO P :: CP P :: zh P :: zi P :: CQ P :: CS P :: CT P :: CU P :: CV P :: zj P :: zk P :: CW P :: CY P :: CZ P :: C0 P :: C1 P :: zm P :: zn P :: C2 P :: C3 P :: C4 P :: zo P :: zp P :: C5 P :: C6 P :: C7 P :: C8 P :: C9 P :: zq P :: zr P :: Da P :: Db P :: Dc P :: Dd P :: De P :: zt P :: zu P :: Dg P :: Dh P :: Di P :: Dj P :: Dk P :: zw P :: zx P :: Dl P :: Dm P :: Dn P :: Do P :: Dq P :: zy P :: zA P :: Ds P :: Du P :: Dv P :: Dx P :: Dy P :: zB P :: zC P :: zD P :: Dz P :: DA P :: DB P :: DC P :: DD P :: zE P :: zF P :: DE P :: DF P :: DG P :: DH P :: DI P :: zG P :: zH P :: DJ P :: DK P :: DL P :: DM P :: DN P :: zI P :: zJ P :: DO P :: DP P :: DQ P :: zK P :: zL P :: DR P :: DS P :: DT P :: DU P :: DV P :: zM P :: zN P :: DW P :: DX P :: DY P :: DZ P :: D0 P :: D5 P :: D6 P :: D7 P :: D8 P :: D9 P :: Ea P :: Eb P :: zO P :: zP P :: Ec P :: Ed P :: Ee P :: Ef P :: Eg P :: zQ P :: zR P :: Eh P :: Ei P :: Ej P :: Ek P :: El P :: zS P :: zT P :: Em P :: En P :: Eo P :: Ep P :: Er P :: zU P :: zV P :: Es P :: Et P :: Eu P :: Ev P :: Ew P :: zW P :: zX P :: zY P :: zZ P :: z6 P :: z7 P :: z8 P :: Ex P :: Ey P :: z9 P :: Aa P :: Ab P :: Ac P :: Ad P :: Ez P :: EA P :: EB P :: EC P :: ED P :: Ae P :: Af P :: EE P :: EF P :: EG P :: EH P :: EI P :: Ag P :: Ah P :: EJ P :: EK P :: EL P :: EM P :: EN P :: Ai P :: Aj P :: EO P :: EQ P :: ER P :: ES P :: ET P :: Ak P :: Al P :: EU P :: EV P :: EW P :: EX P :: EY P :: Am P :: An P :: EZ P :: E1 P :: E3 P :: E4 P :: E5 P :: Ao P :: Ap P :: E6 P :: E7 P :: E8 P :: E9 P :: Fa P :: Aq P :: Ar P :: Fb P :: Fc P :: Fd P :: Fe P :: Ff P :: As P :: At P :: Fg P :: Fh P :: Fi P :: Fj P :: Fk P :: Au P :: Av P :: Fl P :: Fm P :: Fn P :: Fo P :: Fp P :: Aw P :: Ax P :: Fq P :: Fr P :: Fs P :: Ft P :: Fu P :: Ay P :: Az P :: Fv P :: Fw P :: Fx P :: Fy P :: Fz P :: AA P :: AB P :: FA P :: FC P :: FD P :: FE P :: FF P :: AC P :: AD P :: FG P :: FH P :: FI P :: FJ P :: FL P :: AE P :: AF P :: FM P :: FN P :: FO P :: FP P :: FQ P :: AG P :: AH P :: FR P :: FS P :: FT P :: FU P :: FV P :: AI P :: AJ P :: FW P :: FX P :: FY P :: AK P :: AL P :: FZ P :: F3 P :: F4 P :: F5 P :: F6 P :: AM P :: AN P :: F7 P :: F8 P :: F9 P :: Ga P :: Gb P :: AO P :: AQ P :: Gc P :: Gd P :: Ge P :: Gf P :: Gg P :: AR P :: AS P :: Gh P :: Gi P :: Gj P :: Gk P :: Gm P :: AT P :: AU P :: Go P :: Gp P :: Gq P :: Gr P :: Gs P :: AV P :: AW P :: Gu P :: Gv P :: Gw P :: AX P :: AY P :: Gx P :: Gy P :: Gz P :: GA P :: GB P :: AZ P :: A0 P :: GC P :: GD P :: GE P :: GF P :: GG P :: A1 P :: A2 P :: GH P :: GI P :: GJ P :: GK P :: GN P :: A3 P :: A4 P :: GO P :: GP P :: GQ P :: GR P :: GS P :: A5 P :: A6 P :: GT P :: GU P :: GV P :: GX P :: GY P :: A7 P :: A8 P :: GZ P :: G0 P :: G5 P :: A9 P :: Ba P :: G6 P :: G7 P :: G8 P :: Bb P :: Bc P :: G9 P :: Ha P :: Hb P :: Bd P :: Be P :: Hc P :: Hd P :: He P :: Hf P :: Hg P :: Bf P :: Bg P :: Hh P :: Hi P :: Hj P :: Bh P :: Bi P :: Hk P :: Hl P :: Hm P :: Bj P :: Bk P :: Hn P :: Ho P :: Hq P :: Hr P :: Hs P :: Bl P :: Bm P :: Ht P :: Hu P :: Hv P :: Bn P :: Bo P :: Hw P :: Hy P :: Hz P :: HA P :: HB P :: Bp P :: Bq P :: []),{}⟩
theorem IV:∀ w:World,(λos=>W.topGo treeTable pwX w 11 hA1 12 ⟨W.boot_heap w.params,Array.mk [],W.boot_drawn,W.boot_toks,os⟩ (W.topStub pwX))=λos=>some (⟨hp0 w.params,Array.mk [],{},187,os⟩,⟨denote treeTable hCo,hCo,⟨0,0,0,0⟩,hB1⟩):=λw=>by kernel_rfl
theorem Br:∀ w:World,(λos=>W.segRun treeTable pwX w 11 hA1 1 1 ⟨hp0 w.params,Array.mk [],{},187,os⟩ (W.blockOf (W.behindTheImports pwX) dN hCo ⟨0,0,0,0⟩ hB1))=λos=>some (.next,(sB w os).abs,hCo,⟨0,0,0,0⟩):=λw=>by kernel_rfl
theorem r0:∀ w:World,(λos=>W.segRunT treeTable pwX w 11 hA1 1 196 (sB w os) (W.piecesOf st0 dN hCo ⟨0,0,0,0⟩ hB1))=λos=>some (.next,s0 w os,hCo,⟨2,0,3,8⟩):=λw=>by kernel_rfl
theorem r1:∀ w:World,(λos=>W.segRunT treeTable pwX w 11 hA1 1 361 (s0 w os) (W.piecesOf st1 dN hCo ⟨2,0,3,8⟩ hB1))=λos=>some (.next,s1 w os,hCo,⟨23,0,23,8⟩):=λw=>by kernel_rfl
theorem r2f:∀ w:World,(λos=>W.segRunT treeTable pwX (w.withFollow "special-get-raises" false) 11 hA1 1 264 (s1 (w.withFollow "special-get-raises" false) os) (W.piecesOf st2 dN hCo ⟨23,0,23,8⟩ hB1))=λos=>some (.next,s2 (w.withFollow "special-get-raises" false) os,hCo,⟨25,0,25,10⟩):=λw=>by kernel_rfl
theorem r2t:∀ w:World,(λos=>W.segRunT treeTable pwX (w.withFollow "special-get-raises" true) 11 hA1 1 264 (s1 (w.withFollow "special-get-raises" true) os) (W.piecesOf st2 dN hCo ⟨23,0,23,8⟩ hB1))=λos=>some (.next,s2 (w.withFollow "special-get-raises" true) os,hCo,⟨25,0,25,10⟩):=λw=>by kernel_rfl
theorem r2:∀ w:World,(λos=>W.segRunT treeTable pwX w 11 hA1 1 264 (s1 w os) (W.piecesOf st2 dN hCo ⟨23,0,23,8⟩ hB1))=λos=>some (.next,s2 w os,hCo,⟨25,0,25,10⟩):=W.byRow2 "special-get-raises" (P:=λw=>(λos=>W.segRunT treeTable pwX w 11 hA1 1 264 (s1 w os) (W.piecesOf st2 dN hCo ⟨23,0,23,8⟩ hB1))=λos=>some (.next,s2 w os,hCo,⟨25,0,25,10⟩)) r2f r2t
theorem r3f:∀ w:World,(λos=>W.segRunT treeTable pwX (w.withFollow "special-get-raises" false) 11 hA1 1 398 (s2 (w.withFollow "special-get-raises" false) os) (W.piecesOf st3 dN hCo ⟨25,0,25,10⟩ hB1))=λos=>some (.next,s3 (w.withFollow "special-get-raises" false) os,hCo,⟨65,0,66,31⟩):=λw=>by kernel_rfl
theorem r3t:∀ w:World,(λos=>W.segRunT treeTable pwX (w.withFollow "special-get-raises" true) 11 hA1 1 398 (s2 (w.withFollow "special-get-raises" true) os) (W.piecesOf st3 dN hCo ⟨25,0,25,10⟩ hB1))=λos=>some (.next,s3 (w.withFollow "special-get-raises" true) os,hCo,⟨65,0,66,31⟩):=λw=>by kernel_rfl
theorem r3:∀ w:World,(λos=>W.segRunT treeTable pwX w 11 hA1 1 398 (s2 w os) (W.piecesOf st3 dN hCo ⟨25,0,25,10⟩ hB1))=λos=>some (.next,s3 w os,hCo,⟨65,0,66,31⟩):=W.byRow2 "special-get-raises" (P:=λw=>(λos=>W.segRunT treeTable pwX w 11 hA1 1 398 (s2 w os) (W.piecesOf st3 dN hCo ⟨25,0,25,10⟩ hB1))=λos=>some (.next,s3 w os,hCo,⟨65,0,66,31⟩)) r3f r3t
theorem r4:∀ w:World,(λos=>W.segRunT treeTable pwX w 11 hA1 1 393 (s3 w os) (W.piecesOf st4 dN hCo ⟨65,0,66,31⟩ hB1))=λos=>some (.next,s4 w os,hCo,⟨121,0,125,14⟩):=λw=>by kernel_rfl
theorem r5:∀ w:World,(λos=>W.segRunT treeTable pwX w 11 hA1 1 60 (s4 w os) (W.piecesOf st5 dN hCo ⟨121,0,125,14⟩ hB1))=λos=>some (.next,s5 w os,hCo,⟨137,0,146,18⟩):=λw=>by kernel_rfl
theorem r6:∀ w:World,(λos=>W.segRunT treeTable pwX w 11 hA1 1 363 (s5 w os) (W.piecesOf st6 dN hCo ⟨137,0,146,18⟩ hB1))=λos=>some (.next,s6 w os,hCo,⟨171,0,171,8⟩):=λw=>by kernel_rfl
theorem r7f:∀ w:World,(λos=>W.segRunT treeTable pwX (w.withFollow "special-get-raises" false) 11 hA1 1 395 (s6 (w.withFollow "special-get-raises" false) os) (W.piecesOf st7 dN hCo ⟨171,0,171,8⟩ hB1))=λos=>some (.next,s7 (w.withFollow "special-get-raises" false) os,hCo,⟨239,0,250,23⟩):=λw=>by kernel_rfl
theorem r7t:∀ w:World,(λos=>W.segRunT treeTable pwX (w.withFollow "special-get-raises" true) 11 hA1 1 395 (s6 (w.withFollow "special-get-raises" true) os) (W.piecesOf st7 dN hCo ⟨171,0,171,8⟩ hB1))=λos=>some (.next,s7 (w.withFollow "special-get-raises" true) os,hCo,⟨239,0,250,23⟩):=λw=>by kernel_rfl
theorem r7:∀ w:World,(λos=>W.segRunT treeTable pwX w 11 hA1 1 395 (s6 w os) (W.piecesOf st7 dN hCo ⟨171,0,171,8⟩ hB1))=λos=>some (.next,s7 w os,hCo,⟨239,0,250,23⟩):=W.byRow2 "special-get-raises" (P:=λw=>(λos=>W.segRunT treeTable pwX w 11 hA1 1 395 (s6 w os) (W.piecesOf st7 dN hCo ⟨171,0,171,8⟩ hB1))=λos=>some (.next,s7 w os,hCo,⟨239,0,250,23⟩)) r7f r7t
theorem r8:∀ w:World,(λos=>W.segRunT treeTable pwX w 11 hA1 1 387 (s7 w os) (W.piecesOf st8 dN hCo ⟨239,0,250,23⟩ hB1))=λos=>some (.next,s8 w os,hCo,⟨325,0,334,44⟩):=λw=>by kernel_rfl
theorem r9:∀ w:World,(λos=>W.segRunT treeTable pwX w 11 hA1 1 383 (s8 w os) (W.piecesOf st9 dN hCo ⟨325,0,334,44⟩ hB1))=λos=>some (.next,s9 w os,hCo,⟨440,0,457,87⟩):=λw=>by kernel_rfl
theorem r10:∀ w:World,(λos=>W.segRunT treeTable pwX w 11 hA1 1 63 (s9 w os) (W.piecesOf HC dN hCo ⟨440,0,457,87⟩ hB1))=λos=>some (.next,s10 w os,hCo,⟨460,0,477,15⟩):=λw=>by kernel_rfl
theorem IW:∀ w:World,(λos=>W.topRun treeTable pwX w 11 hA1 2 (s10 w os).abs ⟨W.doneF .next,hCo,⟨460,0,477,15⟩,hB1⟩)=λos=>some (⟨hp1 w.params,Array.mk [],{},950,os⟩:Shared):=λw=>by kernel_rfl
theorem IX:W.behindTheImports pwX=st0++(st1++(st2++(st3++(st4++(st5++(st6++(st7++(st8++(st9++(HC++[])))))))))):=by kernel_rfl
theorem IY (w:World) (os:OsState):W.topRun treeTable pwX w 11 hA1 (12+(1+(196+(361+(264+(398+(393+(60+(363+(395+(387+(383+(63+(2)))))))))))))) ⟨W.boot_heap w.params,Array.mk [],W.boot_drawn,W.boot_toks,os⟩ (W.topStub pwX)=some ⟨hp1 w.params,Array.mk [],{},950,os⟩:=by
 refine W.go_top (congrFun (IV w) os) (W.piece_block (congrFun (Br w) os) ?_);rw [IX];exact (W.piece_app (W.segRun_of (congrFun (r0 w) os)) (W.piece_app (W.segRun_of (congrFun (r1 w) os)) (W.piece_app (W.segRun_of (congrFun (r2 w) os)) (W.piece_app (W.segRun_of (congrFun (r3 w) os)) (W.piece_app (W.segRun_of (congrFun (r4 w) os)) (W.piece_app (W.segRun_of (congrFun (r5 w) os)) (W.piece_app (W.segRun_of (congrFun (r6 w) os)) (W.piece_app (W.segRun_of (congrFun (r7 w) os)) (W.piece_app (W.segRun_of (congrFun (r8 w) os)) (W.piece_app (W.segRun_of (congrFun (r9 w) os)) (W.piece_app (W.segRun_of (congrFun (r10 w) os)) (show W.topRun treeTable pwX w 11 hA1 2 _ (W.restOf [] dN hCo ⟨460,0,477,15⟩ hB1)=_ from congrFun (IW w) os))))))))))))
def hK:Params->W.Frag:=λP =>
 (nat_lit 3,o3 P) :: (nat_lit 4,o4 P) :: (nat_lit 6,o6 P) :: (nat_lit 15,o15) :: (nat_lit 22,o11) :: (nat_lit 23,o23 P) :: (nat_lit 24,o24) :: (nat_lit 25,o25) :: (nat_lit 28,o28) :: (nat_lit 35,o11) :: (nat_lit 36,o36 P) :: (nat_lit 37,o37) :: (nat_lit 45,o45) :: (nat_lit 46,o46) :: (nat_lit 52,o52) :: (nat_lit 53,o53) :: (nat_lit 57,o57) :: (nat_lit 58,o58) :: (nat_lit 59,o59 P) :: (nat_lit 60,o60) :: (nat_lit 61,o61) :: (nat_lit 62,o62) :: (nat_lit 63,o63) :: (nat_lit 64,o64 P) :: (nat_lit 65,o65) :: (nat_lit 66,o66) :: (nat_lit 67,o67) :: (nat_lit 68,o68) :: (nat_lit 69,o69) :: (nat_lit 70,o70) :: (nat_lit 71,o71) :: (nat_lit 72,o72) :: (nat_lit 73,o11) :: (nat_lit 74,o74) :: (nat_lit 75,o75 P) :: (nat_lit 76,o76) :: (nat_lit 77,o77) :: (nat_lit 78,o78) :: (nat_lit 79,o79) :: (nat_lit 80,o80) :: (nat_lit 81,o81) :: (nat_lit 82,o82) :: (nat_lit 83,o83) :: (nat_lit 84,o84) :: (nat_lit 85,o85) :: (nat_lit 91,o91) :: (nat_lit 92,o92) :: (nat_lit 96,o96) :: (nat_lit 97,o97) :: (nat_lit 103,zb P) :: (nat_lit 104,zc P) :: (nat_lit 108,zd P) :: (nat_lit 109,ze P) :: (nat_lit 113,zf P) :: (nat_lit 114,zg P) :: (nat_lit 120,zh P) :: (nat_lit 121,zi P) :: (nat_lit 127,zj P) :: (nat_lit 128,zk P) :: (nat_lit 134,zm P) :: (nat_lit 135,zn P) :: (nat_lit 139,zo P) :: (nat_lit 140,zp P) :: (nat_lit 146,zq P) :: (nat_lit 147,zr P) :: (nat_lit 153,zt P) :: (nat_lit 154,zu P) :: (nat_lit 160,zw P) :: (nat_lit 161,zx P) :: (nat_lit 167,zy P) :: (nat_lit 168,zA P) :: (nat_lit 174,zB P) :: (nat_lit 175,zC P) :: (nat_lit 176,zD P) :: (nat_lit 182,zE P) :: (nat_lit 183,zF P) :: (nat_lit 189,zG P) :: (nat_lit 190,zH P) :: (nat_lit 196,zI P) :: (nat_lit 197,zJ P) :: (nat_lit 201,zK P) :: (nat_lit 202,zL P) :: (nat_lit 208,zM P) :: (nat_lit 209,zN P) :: (nat_lit 222,zO P) :: (nat_lit 223,zP P) :: (nat_lit 229,zQ P) :: (nat_lit 230,zR P) :: (nat_lit 236,zS P) :: (nat_lit 237,zT P) :: (nat_lit 243,zU P) :: (nat_lit 244,zV P) :: (nat_lit 250,zW P) :: (nat_lit 251,zX P) :: (nat_lit 252,zY P) :: (nat_lit 253,zZ P) :: (nat_lit 254,z6 P) :: (nat_lit 255,z7 P) :: (nat_lit 256,z8 P) :: (nat_lit 259,z9 P) :: (nat_lit 260,Aa P) :: (nat_lit 261,Ab P) :: (nat_lit 262,Ac P) :: (nat_lit 263,Ad P) :: (nat_lit 269,Ae P) :: (nat_lit 270,Af P) :: (nat_lit 276,Ag P) :: (nat_lit 277,Ah P) :: (nat_lit 283,Ai P) :: (nat_lit 284,Aj P) :: (nat_lit 290,Ak P) :: (nat_lit 291,Al P) :: (nat_lit 297,Am P) :: (nat_lit 298,An P) :: (nat_lit 304,Ao P) :: (nat_lit 305,Ap P) :: (nat_lit 311,Aq P) :: (nat_lit 312,Ar P) :: (nat_lit 318,As P) :: (nat_lit 319,At P) :: (nat_lit 325,Au P) :: (nat_lit 326,Av P) :: (nat_lit 332,Aw P) :: (nat_lit 333,Ax P) :: (nat_lit 339,Ay P) :: (nat_lit 340,Az P) :: (nat_lit 346,AA P) :: (nat_lit 347,AB P) :: (nat_lit 353,AC P) :: (nat_lit 354,AD P) :: (nat_lit 360,AE P) :: (nat_lit 361,AF P) :: (nat_lit 367,AG P) :: (nat_lit 368,AH P) :: (nat_lit 374,AI P) :: (nat_lit 375,AJ P) :: (nat_lit 379,AK P) :: (nat_lit 380,AL P) :: (nat_lit 386,AM P) :: (nat_lit 387,AN P) :: (nat_lit 393,AO P) :: (nat_lit 394,AQ P) :: (nat_lit 400,AR P) :: (nat_lit 401,AS P) :: (nat_lit 407,AT P) :: (nat_lit 408,AU P) :: (nat_lit 414,AV P) :: (nat_lit 415,AW P) :: (nat_lit 419,AX P) :: (nat_lit 420,AY P) :: (nat_lit 426,AZ P) :: (nat_lit 427,A0 P) :: (nat_lit 433,A1 P) :: (nat_lit 434,A2 P) :: (nat_lit 440,A3 P) :: (nat_lit 441,A4 P) :: (nat_lit 447,A5 P) :: (nat_lit 448,A6 P) :: (nat_lit 454,A7 P) :: (nat_lit 455,A8 P) :: (nat_lit 459,A9 P) :: (nat_lit 460,Ba P) :: (nat_lit 464,Bb P) :: (nat_lit 465,Bc P) :: (nat_lit 469,Bd P) :: (nat_lit 470,Be P) :: (nat_lit 476,Bf P) :: (nat_lit 477,Bg P) :: (nat_lit 481,Bh P) :: (nat_lit 482,Bi P) :: (nat_lit 486,Bj P) :: (nat_lit 487,Bk P) :: (nat_lit 493,Bl P) :: (nat_lit 494,Bm P) :: (nat_lit 498,Bn P) :: (nat_lit 499,Bo P) :: (nat_lit 505,Bp P) :: (nat_lit 506,Bq P) :: []
def hA:List Addr:=[3,4,6,15,22,23,24,25,28,35,36,37,45,46,52,53,57,58,59,60,61,62,63,64,65,66,67,68,69,70,71,72,73,74,75,76,77,78,79,80,81,82,83,84,85,91,92,96,97,103,104,108,109,113,114,120,121,127,128,134,135,139,140,146,147,153,154,160,161,167,168,174,175,176,182,183,189,190,196,197,201,202,208,209,222,223,229,230,236,237,243,244,250,251,252,253,254,255,256,259,260,261,262,263,269,270,276,277,283,284,290,291,297,298,304,305,311,312,318,319,325,326,332,333,339,340,346,347,353,354,360,361,367,368,374,375,379,380,386,387,393,394,400,401,407,408,414,415,419,420,426,427,433,434,440,441,447,448,454,455,459,460,464,465,469,470,476,477,481,482,486,487,493,494,498,499,505,506]
theorem hKA:∀ P,hA=(hK P).map (·.1):=λ_=>by kernel_rfl
abbrev hH:W.Hook:=W.kHook hK hA hKA
abbrev hQ:Program:=W.view pwX [86]
def hW:List Str:= "HandError" :: "BadText" :: "LETTERS" :: "LONGEST_NAME" :: "PERCENT" :: "is_sign" :: "FIGURES" :: "figures_of" :: "number_of" :: "KIND_PARTS" :: "TURN_PARTS" :: "PIECE_PARTS" :: "parts_behind" :: "kind_text" :: "most_exchanged" :: "value_text" :: "turn_text" :: "piece_text" :: "path_text" :: "change_text" :: "form_text" :: "part_text" :: "in_brackets" :: "with_commas" :: "pair_text" :: "quoted" :: "BLANK" :: "QUOTE" :: "MINUS" :: "OPENING" :: "CLOSING" :: "MARKS" :: "MOST_FIGURES" :: "MOST_BRACKETS" :: "END" :: "words_of" :: "word_end" :: "run_end" :: "made_word" :: "deepest_brackets" :: "WordRow" :: "PAIR_SORTS" :: "BRACKETED" :: "read_path" :: "read_change" :: "read_all" :: "part_read" :: "pair_read" :: "kind_read" :: "value_read" :: "turn_read" :: "path_read" :: "form_read" :: "list_read" :: "at_least_one" :: "_law_cell_at" :: "_law_mixed" :: "_law_own" :: "_law_digit" :: "_law_names" :: "_law_number_kind" :: "_law_leaf_kind" :: "_law_record_kind" :: "_law_rows_kind" :: "_law_kind" :: "_law_text" :: "_law_kind_words" :: "_law_value_words" :: "_law_turn_words" :: "_law_piece_words" :: "_law_path_words" :: "_law_tight" :: "_law_loose" :: "_law_word" :: "_law_any_number" :: "_law_any_value" :: "_law_any_turn" :: "_law_any_piece" :: "_law_any_path" :: []
abbrev hX (s:Shared):Bool:=W.recOk (W.RowW.records (W.OpenRow.toRowW PySem.Challenge.rw_oldhands_k88_changes_in_words.row)) s
theorem HD:∀ w:World,((W.boot_heap w.params).isNs mainGlobals && (Array.mk []:Array GenState).size == 0,(W.boot_heap w.params).objs.size,(W.boot_heap w.params).nsMap mainGlobals "__annotations__")=(true,11,hA1):=λw=>by kernel_rfl
theorem rL1:∀ w:World,(λos=>(W.staticsOk (importedModules pwX.main.body) (W.boot_heap w.params) (hp1 w.params) && W.namesBound pwX (hp1 w.params) && W.gensDone ⟨hp1 w.params,Array.mk [],{},950,os⟩ && W.laidKept (W.boot_heap w.params) (hp1 w.params)))=λ_=>true:=λw=>by kernel_rfl
theorem rL2:∀ w:World,(λos=>W.openSeen hQ hW (importedModules pwX.main.body) hX true ⟨hp1 w.params,Array.mk [],{},950,os⟩)=λ_=>W.openGood hQ hW:=λw=>by kernel_rfl
theorem rL3:∀ w:World,(λos=>hH.obs ⟨hp1 w.params,Array.mk [],{},950,os⟩)=λ_=>hH.val w:=λw=>by kernel_rfl
theorem hl:W.LeftO pwX hQ hW hX hH.obs hH.val 4278 :=
 W.LeftO.of_pieces (H₀:=W.boot_heap) (H₁:=hp1) (gs₀:=Array.mk []) (gs₁:=Array.mk []) (d₀:=W.boot_drawn) (d₁:={}) (k₀:=W.boot_toks) (k₁:=950) (m₀:=11) (ann:=hA1) (M:=12+(1+(196+(361+(264+(398+(393+(60+(363+(395+(387+(383+(63+(2))))))))))))))
  (W.boot_open (by kernel_rfl) (by rfl) (λs=>by rfl)) HD IY (1) (λw=>funext λos=>W.looks_pair (congrFun (rL1 w) os) (W.looks_pair (congrFun (rL2 w) os) (congrFun (rL3 w) os)))
theorem said:PySem.Challenge.rw_oldhands_k88_changes_in_words.wellSaid=true:=by
 unfold W.OpenLaw.wellSaid W.OpenRow.wellSaid W.OpenRow.partSaid W.looksOpen
 repeat' (with_reducible refine W.look_both ?_ ?_)
 all_goals decide +kernel
end K88
namespace L2
open PySem PySem.Spec PyProof.Rows
abbrev Key:=Sum Int Str
def mU:Key->Value->Bool
 | .inl k,v=>Value.isInt k v
 | .inr x,v=>Value.isStrOf x v
def IZ (w:World):Key->Int
 | .inl k=>hashInt k
 | .inr x=>hashStr w x
theorem bp:∀ {k:Key} {v:Value},mU k v=true->(∃ i t,k=Sum.inl i/\v=Value.int i t)\/(∃ x t,k=Sum.inr x/\v=Value.str x t)
 | .inl i,v,h=>by
  obtain ⟨t,e⟩:=Value.isInt_shape (k:=i) (v:=v) h;exact .inl ⟨i,t,rfl,e⟩
 | .inr x,v,h=>by
  obtain ⟨t,e⟩:=Value.isStrOf_shape (x:=x) (v:=v) h;exact .inr ⟨x,t,rfl,e⟩
theorem uq (i:Int) (t:Tok):mU (.inl i) (.int i t)=true:=by simp [mU,Value.isInt]
theorem ur (x:Str) (t:Tok):mU (.inr x) (.str x t)=true:=by simp [mU,Value.isStrOf]
theorem Bs (a b:Int):decide ((Sum.inl a:Key)=Sum.inl b)=(a == b):=by
 by_cases e:a=b
 ·subst e;simp
 ·have h:¬ (Sum.inl a:Key)=Sum.inl b:=λq=>e (Sum.inl.inj q);rw [decide_eq_false h];exact (beq_eq_false_iff_ne.mpr e).symm
theorem Bt (a b:Str):decide ((Sum.inr a:Key)=Sum.inr b)=decide (a=b):=by
 by_cases e:a=b
 ·subst e;simp
 ·have h:¬ (Sum.inr a:Key)=Sum.inr b:=λq=>e (Sum.inr.inj q);rw [decide_eq_false h,decide_eq_false e]
theorem Bu (a:Int) (b:Str):decide ((Sum.inl a:Key)=Sum.inr b)=false:=decide_eq_false (λq=>nomatch q)
theorem Bv (a:Str) (b:Int):decide ((Sum.inr a:Key)=Sum.inl b)=false:=decide_eq_false (λq=>nomatch q)
def a8 (prog:Program) (w:World):PySem.KeyKind prog w Key where
 is:=mU
 hash:=IZ w
 inj:=λv a b ha hb=>by
  rcases bp ha with ⟨i,t,rfl,rfl⟩ | ⟨x,t,rfl,rfl⟩
  ·rcases bp hb with ⟨j,u,rfl,e⟩ | ⟨y,u,rfl,e⟩
   ·injection e with e1 _;rw [e1]
   ·exact nomatch e
  ·rcases bp hb with ⟨j,u,rfl,e⟩ | ⟨y,u,rfl,e⟩
   ·exact nomatch e
   ·injection e with e1 _;rw [e1]
 byValue:=λk v h=>by
  rcases bp h with ⟨i,t,rfl,rfl⟩ | ⟨x,t,rfl,rfl⟩ <;> rfl
 pyHash:=λhv h=>by
  rcases bp hv with ⟨i,t,rfl,rfl⟩ | ⟨x,t,rfl,rfl⟩
  ·exact wpAny_pyHash_int h
  ·exact wpAny_pyHash_str h
 eqBool:=λhu hv h=>by
  rcases bp hu with ⟨i,t,rfl,rfl⟩ | ⟨x,t,rfl,rfl⟩
  ·rcases bp hv with ⟨j,u,rfl,rfl⟩ | ⟨y,u,rfl,rfl⟩
   ·rw [Bs] at h;exact wpAny_eqBool_int h
   ·rw [Bu] at h;exact SeqAt.EqAt.int_str i t y u _ _ _ _ h
  ·rcases bp hv with ⟨j,u,rfl,rfl⟩ | ⟨y,u,rfl,rfl⟩
   ·rw [Bv] at h;exact SeqAt.EqAt.str_int x t j u _ _ _ _ h
   ·rw [Bt] at h;exact wpAny_eqBool_str h
 «strs»:=λk x t v h=>by
  rcases bp h with ⟨i,u,rfl,e⟩ | ⟨y,u,rfl,e⟩
  ·exact nomatch e
  ·injection e with e1 _
   subst e1
   cases v <;> rfl
theorem pN (prog:Program) (w:World) (i:Int) (t:Tok):(a8 prog w).is (.inl i) (.int i t)=true:=uq i t
theorem pO (prog:Program) (w:World) (x:Str) (t:Tok):(a8 prog w).is (.inr x) (.str x t)=true:=ur x t
inductive V where
 | non | bl (b:Bool) | int (i:Int) | str (x:Str) | byt (b:Array UInt8) | flt (b:UInt64) | ref (a:Addr) | ty (n:String)
 deriving DecidableEq
def RelV:V->Value->Prop
 | .non,u=>u=Value.none
 | .bl b,u=>u=Value.bool b
 | .int i,u=>∃ t,u=Value.int i t
 | .str x,u=>∃ t,u=Value.str x t
 | .byt b,u=>∃ t,u=Value.bytes b t
 | .flt b,u=>∃ t,u=Value.float b t
 | .ref a,u=>u=Value.ref a
 | .ty n,u=>u=Value.type n
abbrev Vals:List V->List Value->Prop:=Paired RelV
theorem Vals.length {xs:List V} {us:List Value} (r:Vals xs us):xs.length=us.length:=Paired.length r
theorem Vals.get:∀ {xs:List V} {us:List Value} {i:Nat} {x:V},Vals xs us->xs[i]?=some x->∃ u,us[i]?=some u/\RelV x u
 | _,_,_,_,.nil,e=>by simp at e
 | _,_,0,_,.cons r _,e=>by simp at e;subst e;exact ⟨_,rfl,r⟩
 | _,_,i+1,x,.cons _ t,e=>by
  obtain ⟨u,h1,h2⟩:=Vals.get (i:=i) (x:=x) t (by simpa using e);exact ⟨u,by simpa using h1,h2⟩
theorem Vals.set {x:V} {u:Value} (r:RelV x u):∀ {xs:List V} {us:List Value} (i:Nat),Vals xs us->Vals (xs.set i x) (us.set i u)
 | _,_,_,.nil=>.nil
 | _,_,0,.cons _ t=>.cons r t
 | _,_,i+1,.cons q t=>.cons q (Vals.set r i t)
theorem Vals.append:∀ {xs ys:List V} {us ws:List Value},Vals xs us->Vals ys ws->Vals (xs++ys) (us++ws)
 | _,_,_,_,.nil,s=>s
 | _,_,_,_,.cons r t,s=>.cons r (Vals.append t s)
theorem Vals.take:∀ {xs:List V} {us:List Value} (n:Nat),Vals xs us->Vals (xs.take n) (us.take n)
 | _,_,0,_=>.nil
 | _,_,_+1,.nil=>.nil
 | _,_,n+1,.cons r t=>.cons r (Vals.take n t)
theorem Vals.drop:∀ {xs:List V} {us:List Value} (n:Nat),Vals xs us->Vals (xs.drop n) (us.drop n)
 | _,_,0,r=>r
 | _,_,_+1,.nil=>.nil
 | _,_,n+1,.cons _ t=>Vals.drop n t
def RelO:Option V->Option Value->Prop
 | some v,some u=>RelV v u
 | none,none=>True
 | _,_=>False
def KV {κ:Type}:List (κ×V)->List (κ×Value)->Prop:=Paired λ(p:κ×V) (q:κ×Value)=>p.1=q.1/\RelV p.2 q.2
def kV:Key->V
 | .inl i=>.int i
 | .inr x=>.str x
inductive HO where
 | lst (xs:List V)
 | tup (xs:List V)
 | dK (kvs:List (Key×V)) | dT (kvs:List (List Key×V))
 | set (S:Int->Bool) (n:Nat)
 | ins (C dx:Addr) (fs:List (Str×V))
 | own (x:Addr)
 | xd (fs:List (Str×V))
 | met (f x:Addr)
 | rng (lo hi:Int)
 | frz (o:Obj) (u:HO)
 | tbl (ps:Array Value)
 | ext (φ:Heap->Prop)
abbrev Hp:=Addr->Option HO
def upd (H:Hp) (a:Addr) (o:HO):Hp:=λb=>if b=a then some o else H b
theorem aa {H:Hp} {a:Addr} {o:HO}:upd H a o a=some o:=by unfold upd;rw [if_pos rfl]
theorem ac {H:Hp} {a b:Addr} {o:HO} (h:b≠a):upd H a o b=H b:=by unfold upd;rw [if_neg h]
theorem xF {H:Hp} {a:Addr} {o u:HO}:upd (upd H a o) a u=upd H a u:=by
 funext b;unfold upd;split <;> rfl
theorem mV {H:Hp} {a b:Addr} {o u:HO} (h:H a=some o) (h':H b=some u) (d:o≠u):a≠b:=by
 intro e;subst e;rw [h] at h';exact d (Option.some.inj h')
theorem ah {H:Hp} {a b:Addr} {o:HO} (h:H a=some o) (h':H b=none):a≠b:=by
 intro e;subst e;rw [h] at h';cases h'
section
variable (P:Program) (w:World)
def ObjOk (H:Hp) (h:Heap) (a:Addr):HO->Prop
 | .lst xs=>xs.length<=sizeLine/\∃ (its:List Value) (n:Nat),Vals xs its/\h.get? a=some { cls:=.type "list",data:=.seq its.toArray n }
 | .tup xs=>xs.length<=sizeLine/\∃ its:List Value,Vals xs its/\IsTup h a its.toArray
 | .dK kvs=>kvs.length<=sizeLine/\(a == sysModules)=false/\∃ vs,KV kvs vs/\h.DictOf (a8 P w) a vs
 | .dT kvs=>kvs.length<=sizeLine/\(a == sysModules)=false/\∃ xs:List (List Key×Addr×Value),
   Paired (λ(p:List Key×V) (q:List Key×Addr×Value)=>p.1=q.1/\H q.2.1=some (.tup (p.1.map kV))/\RelV p.2 q.2.2) kvs xs /\
   ∃ o es ep,h.get? a=some o/\o.ExactDict/\o.data=.dict es ep/\es.toList=xs.map (entryOfKey (tupleKind (a8 P w)))/\(xs.map (·.1)).Nodup
 | .set S n=>h.SetOf (intKind P w) a S n
 | .ins C dx fs=>H dx=some (.own a)/\fs.length<=1000/\dx≠a/\h.get? a=some (W.instObj C dx) /\
   ∃ mA,h.Ns1 dx mA/\(∀ f,RelO (fs.lookup f) (mA f))/\PySem.Within mA (fs.map (·.1))
 | .own _=>∃ o,h.get? a=some o
 | .xd fs=>∃ mA,h.Ns1 a mA/\∀ f,RelO (fs.lookup f) (mA f)
 | .rng lo hi=>∃ t u v,h.get? a=some { cls:=.type "range",data:=.fields #[.int lo t,.int hi u,.int 1 v] }
 | .frz o u=>h.get? a=some o/\ObjOk H h a u
 | .tbl ps=>h.get? a=some { cls:=.none,data:=.fields ps }
 | .met f x=>h.get? a=some (W.methodObj (.ref f) (.ref x))
 | .ext φ=>φ h/\(∃ o,h.get? a=some o)/\∀ h1 h2:Heap,φ h1->(∀ o,h1.get? a=some o->h2.get? a=some o)->φ h2
def HOk (H:Hp) (h:Heap):Prop:=∀ a o,H a=some o->ObjOk P w H h a o
end
section
variable {P:Program} {w:World} {H H':Hp} {h h':Heap} {a:Addr} {o:HO}
theorem ObjOk.lt (x:ObjOk P w H h a o):a < h.objs.size:=by
 cases o with
 | lst xs=>obtain ⟨_,_,_,_,e⟩:=x;exact aAu e
 | tup xs=>obtain ⟨_,_,_,p⟩:=x;exact p.lt
 | dK kvs=>obtain ⟨_,_,_,_,o,_,_,e,_⟩:=x;exact aAu e
 | dT kvs=>obtain ⟨_,_,_,_,o,_,_,e,_⟩:=x;exact aAu e
 | set S n=>obtain ⟨o,_,_,_,e,_⟩:=x;exact aAu e
 | ins C dx fs=>obtain ⟨_,_,_,e,_⟩:=x;exact aAu e
 | own y=>obtain ⟨_,e⟩:=x;exact aAu e
 | xd fs=>obtain ⟨_,⟨_,_,_,e,_⟩,_⟩:=x;exact aAu e
 | rng lo hi=>obtain ⟨_,_,_,e⟩:=x;exact aAu e
 | frz ob u=>obtain ⟨e,_⟩:=x;exact aAu e
 | tbl ps=>exact aAu (show h.get? a=some _ from x)
 | met f y=>exact aAu (show h.get? a=some _ from x)
 | ext φ=>obtain ⟨_,⟨_,e⟩,_⟩:=x;exact aAu e
theorem Paired.mapP {α β:Type} {F G:α->β->Prop}:∀ {l₁:List α} {l₂:List β},Paired F l₁ l₂->(∀ a b,F a b->G a b)->Paired G l₁ l₂
 | _,_,.nil,_=>.nil
 | _,_,.cons r t,f=>.cons (f _ _ r) (Paired.mapP t f)
theorem ObjOk.stay (x:ObjOk P w H h a o) (k:∀ b u,(b=a\/H b=some (.own a))->h.get? b=some u->h'.get? b=some u)
  (ho:∀ b,H b=some (.own a)->H' b=some (.own a)) (ht:∀ b xs,H b=some (.tup xs)->H' b=some (.tup xs)):ObjOk P w H' h' a o:=by
 induction o with
 | lst xs=>obtain ⟨z,its,n,r,e⟩:=x;exact ⟨z,its,n,r,k _ _ (.inl rfl) e⟩
 | tup xs=>obtain ⟨z,its,r,ob,e,c⟩:=x;exact ⟨z,its,r,ob,k _ _ (.inl rfl) e,c⟩
 | dK kvs=>obtain ⟨z,y,vs,r,ob,es,ep,e,c⟩:=x;exact ⟨z,y,vs,r,ob,es,ep,k _ _ (.inl rfl) e,c⟩
 | dT kvs =>
  obtain ⟨z,y,xs,r,ob,es,ep,e,c⟩:=x;exact ⟨z,y,xs,Paired.mapP r λp q z=>⟨z.1,ht _ _ z.2.1,z.2.2⟩,ob,es,ep,k _ _ (.inl rfl) e,c⟩
 | set S n=>obtain ⟨ob,es,ep,t,e,c⟩:=x;exact ⟨ob,es,ep,t,k _ _ (.inl rfl) e,c⟩
 | ins C dx fs =>
  obtain ⟨d,z,ne,e,mA,⟨od,es,ep,e2,c⟩,r⟩:=x;exact ⟨ho _ d,z,ne,k _ _ (.inl rfl) e,mA,⟨od,es,ep,k _ _ (.inr d) e2,c⟩,r⟩
 | own y=>obtain ⟨ob,e⟩:=x;exact ⟨ob,k _ _ (.inl rfl) e⟩
 | xd fs=>obtain ⟨mA,⟨od,es,ep,e,c⟩,r⟩:=x;exact ⟨mA,⟨od,es,ep,k _ _ (.inl rfl) e,c⟩,r⟩
 | rng lo hi=>obtain ⟨t,u,v,e⟩:=x;exact ⟨t,u,v,k _ _ (.inl rfl) e⟩
 | frz ob u ih=>obtain ⟨e,q⟩:=x;exact ⟨k _ _ (.inl rfl) e,ih q⟩
 | tbl ps =>
  have e:h.get? a=some { cls:=.none,data:=.fields ps }:=x;show h'.get? a=some { cls:=.none,data:=.fields ps };exact k a _ (.inl rfl) e
 | met f y =>
  have e:h.get? a=some (W.methodObj (.ref f) (.ref y)):=x;show h'.get? a=some (W.methodObj (.ref f) (.ref y));exact k a _ (.inl rfl) e
 | ext φ=>obtain ⟨p,⟨o,e⟩,st⟩:=x;exact ⟨st _ _ p λo q=>k _ _ (.inl rfl) q,⟨o,k _ _ (.inl rfl) e⟩,st⟩
theorem HOk.lt (x:HOk P w H h) (e:H a=some o):a < h.objs.size:=(x a o e).lt
theorem HOk.fresh (x:HOk P w H h) (e:h.objs.size<=a):H a=none:=by
 cases q:H a with
 | none=>rfl
 | some u=>exact absurd (aAk (x.lt q) e) (aAS _)
theorem HOk.kept (x:HOk P w H h) (k:∀ b u,h.get? b=some u->h'.get? b=some u):HOk P w H h':=λa o e =>
 (x a o e).stay (λb u _ q=>k b u q) (λ_ q=>q) λ_ _ q=>q
theorem HOk.laid (x:HOk P w H h) (k:∀ b u,h.get? b=some u->h'.get? b=some u) (hp:h.objs.size<=a) (new:ObjOk P w (upd H a o) h' a o):HOk P w (upd H a o) h':=λb u e=>by
 have hn:=x.fresh hp
 by_cases hb:b=a
 ·subst hb;rw [aa] at e;cases e;exact new
 ·rw [ac hb] at e;exact (x b u e).stay (λc v _ q=>k c v q) (λc q=>by rw [ac (ah q hn)];exact q) λc xs q=>by rw [ac (ah q hn)];exact q
end
def Rd (H:Hp) (a:Addr) (u:HO):Prop:=H a=some u\/∃ o,H a=some (.frz o u)
theorem Rd.ok {P:Program} {w:World} {H:Hp} {h:Heap} {a:Addr} {u:HO} (r:Rd H a u) (x:HOk P w H h):ObjOk P w H h a u:=by
 rcases r with r | ⟨o,r⟩
 ·exact x a u r
 ·obtain ⟨_,q⟩:=x a _ r;exact q
def Mut:Option HO->Prop
 | some (.lst _)=>True
 | some (.dK _)=>True
 | some (.dT _)=>True
 | some (.set _ _)=>True
 | some (.ins _ _ _)=>True
 | some (.ext _)=>True
 | _=>False
section
variable {P:Program} {w:World} {H:Hp} {h h':Heap} {x e:Addr} {o':HO}
theorem HOk.write (ok:HOk P w H h) (mu:Mut (H x)) (he:e=x\/H e=some (.own x)) (k:∀ b u,b≠e->h.get? b=some u->h'.get? b=some u) (heo:∃ u,h'.get? e=some u)
  (new:ObjOk P w (upd H x o') h' x o'):HOk P w (upd H x o') h':=λb u q=>by
 have nown:∀ c y,H c=some (.own y)->c≠x:=λc y r z=>by subst z;rw [r] at mu;exact mu
 have ntup:∀ c xs,H c=some (.tup xs)->c≠x:=λc xs r z=>by subst z;rw [r] at mu;exact mu
 by_cases hb:b=x
 ·subst hb;rw [aa] at q;cases q;exact new
 ·rw [ac hb] at q
  by_cases hbe:b=e
  ·have q':H b=some (.own x):=by
    rcases he with z | z
    ·exact absurd (hbe.trans z) hb
    ·rw [hbe];exact z
   rw [q] at q';cases q';obtain ⟨v,hv⟩:=heo;exact ⟨v,by rw [hbe];exact hv⟩
  ·refine (ok b u q).stay (λc v hc r=>k c v ?_ r) (λc r=>by rw [ac (nown c b r)];exact r) λc xs r=>by rw [ac (ntup c xs r)];exact r
   rcases hc with rfl | hc
   ·exact hbe
   ·rintro rfl;rcases he with z | z
    ·exact nown c b hc z
    ·rw [hc] at z;cases z;exact hb rfl
end
structure Un (fs ex:List Addr) (H H':Hp) (h h':Heap):Prop where
 keep:∀ b o,h.get? b=some o->H b=none->b∉fs->b∉ex->h'.get? b=some o
 slot:∀ b o,h.get? b=some o->H b=none->b∈fs->b∉ex->∃ sl,h'.get? b=some { o with slots:=sl }
 free:∀ b o,h.get? b=some o->H b=none->b∉ex->H' b=none
 there:∀ b o,h.get? b=some o->b∉ex->∃ o',h'.get? b=some o'
 tups:∀ b xs,H b=some (.tup xs)->H' b=some (.tup xs)
 frzs:∀ b o u,H b=some (.frz o u)->H' b=some (.frz o u)
 tbls:∀ b ps,H b=some (.tbl ps)->∃ more,H' b=some (.tbl (ps++more))
section
variable {fs fs' ex ex':List Addr} {H H1 H2:Hp} {h h1 h2 h':Heap} {a x e:Addr} {o:HO}
theorem Un.any (u:Un fs ex H H1 h h1) {b:Addr} {ob:Obj} (q:h.get? b=some ob) (n:H b=none) (hx:b∉ex):∃ sl,h1.get? b=some { ob with slots:=sl }:=by
 by_cases hb:b∈fs
 ·exact u.slot b ob q n hb hx
 ·exact ⟨ob.slots,u.keep b ob q n hb hx⟩
theorem Un.trans (a:Un fs ex H H1 h h1) (b:Un fs ex H1 H2 h1 h2):Un fs ex H H2 h h2 where
 keep:=λc ob q n hc hx=>b.keep c ob (a.keep c ob q n hc hx) (a.free c ob q n hx) hc hx
 slot:=λc ob q n hc hx=>by
  obtain ⟨sl,e1⟩:=a.slot c ob q n hc hx;obtain ⟨sl',e2⟩:=b.slot c _ e1 (a.free c ob q n hx) hc hx;exact ⟨sl',e2⟩
 free:=λc ob q n hx=>by
  obtain ⟨o',e1⟩:=a.there c ob q hx;exact b.free c o' e1 (a.free c ob q n hx) hx
 there:=λc ob q hx=>by
  obtain ⟨o',e1⟩:=a.there c ob q hx;exact b.there c o' e1 hx
 tups:=λc xs q=>b.tups c xs (a.tups c xs q)
 frzs:=λc ob xs q=>b.frzs c ob xs (a.frzs c ob xs q)
 tbls:=λc ps q=>by
  obtain ⟨m1,e1⟩:=a.tbls c ps q;obtain ⟨m2,e2⟩:=b.tbls c _ e1;exact ⟨m1++m2,by rw [e2,aBD]⟩
theorem Un.kept (k:∀ b u,h.get? b=some u->h'.get? b=some u):Un fs ex H H h h' :=
 ⟨λb ob q _ _ _=>k b ob q,λb ob q _ _ _=>⟨ob.slots,k b ob q⟩,λ_ _ _ n _=>n,λb ob q _=>⟨ob,k b ob q⟩,λ_ _ q=>q,λ_ _ _ q=>q,λ_ ps q=>⟨#[],by rw [q];simp⟩⟩
theorem Un.refl:Un fs ex H H h h:=Un.kept λ_ _ q=>q
theorem Un.laid (k:∀ b u,h.get? b=some u->h'.get? b=some u) (hp:h.objs.size<=a) (hn:H a=none):Un fs ex H (upd H a o) h h' where
 keep:=λb u q _ _ _=>k b u q
 slot:=λb u q _ _ _=>⟨u.slots,k b u q⟩
 free:=λb u q n _=>by rw [ac (aAI (aAk (aAu q) hp))];exact n
 there:=λb u q _=>⟨u,k b u q⟩
 tups:=λb xs q=>by rw [ac (ah q hn)];exact q
 frzs:=λb u xs q=>by rw [ac (ah q hn)];exact q
 tbls:=λb ps q=>⟨#[],by rw [ac (ah q hn),q];simp⟩
theorem Un.write (mu:Mut (H x)) (he:e=x\/H e=some (.own x)) (k:∀ b u,b≠e->h.get? b=some u->h'.get? b=some u) (heo:∃ u,h'.get? e=some u):Un fs ex H (upd H x o) h h':=by
 have hx:∀ b,H b=none->b≠x:=λb n z=>by subst z;rw [n] at mu;exact mu
 have hb:∀ b,H b=none->b≠e:=λb n z=>by
  subst z;rcases he with r | r
  ·exact hx b n r
  ·rw [n] at r;cases r
 have hm:∀ b u,H b=some u->¬ Mut (some u)->b≠x:=λb u q nm z=>by subst z;rw [q] at mu;exact nm mu
 refine ⟨λb u q n _ _=>k b u (hb b n) q,λb u q n _ _=>⟨u.slots,k b u (hb b n) q⟩,λb u q n _=>by rw [ac (hx b n)];exact n,λb u q _=>?_,
  λb xs q=>by rw [ac (hm b _ q λz=>z)];exact q,λb u xs q=>by rw [ac (hm b _ q λz=>z)];exact q,λb ps q=>⟨#[],by rw [ac (hm b _ q λz=>z),q];simp⟩⟩
 by_cases hbe:b=e
 ·subst hbe;exact heo
 ·exact ⟨u,k b u hbe q⟩
end
def trk (h:Heap) (H:Hp):List Addr:=(List.range h.objs.size).filter λa=>(H a).isSome
def nR (h:Heap) (H:Hp):Heap:=W.hideAll h (trk h H)
theorem ut (h:Heap) (H:Hp):(nR h H).objs.size=h.objs.size:=W.hideAll_size _ _
theorem vq {h:Heap} {H:Hp} {b:Addr} {o:Obj} (e:h.get? b=some o) (n:H b=none):(nR h H).get? b=some o :=
 W.hideAll_get _ e λhm=>by
  have q:(H b).isSome=true:=(List.mem_filter.mp hm).2;rw [n] at q;simp at q
theorem xG {h:Heap} {H:Hp} {b:Addr} {o:Obj} (e:(nR h H).get? b=some o):h.get? b=some o/\H b=none:=by
 have e':h.get? b=some o:=W.of_hideAll (trk h H) e;refine ⟨e',?_⟩
 cases q:H b with
 | none=>rfl
 | some x =>
  have hm:b∈trk h H:=List.mem_filter.mpr ⟨aBB.mpr (aAu e'),by simp [q]⟩;have z:(nR h H).get? b=none:=W.hideAll_none (trk h H) hm;rw [z] at e;cases e
def xH (g h:Heap) (L:Addr):List (Addr×Obj):=(List.range h.objs.size).filterMap λa=>if a=L\/(g.get? a).isSome=true then none else (h.get? a).map λo=>(a,o)
def rest (g h:Heap) (L d:Addr):List (Addr×Obj):=(xH g h L).filter λp=>decide (p.1≠d)
structure Mod (K:W.Frag) (mg:Str->Option Value) (base:Heap):Prop where
 kin:K.In base
 glob:base.Ns mainGlobals mg
 blt:∃ mb,base.Ns builtinsNs mb/\∀ x:Str,x≠ "__name__" ->mb x=bootBuiltins x
 nolimit:base.NoLimit
structure Cx where
 prog:Program
 w:World
 K:W.Frag
 mg:Str->Option Value
 base:Heap
 A:Around
 N:List Str
 s₀:Shared
 H₀:Hp
 env:Env
 outer:List Env
 stack:List Env
 ex:List Addr
 fn:Str->Bool
 calm:Bool
 pn:List (Addr×Obj)
 xe:Value->Shared->Prop
def frs (l:List Env):List Addr:=l.filterMap (·.frame)
abbrev Cx.fs (X:Cx):List Addr:=frs X.outer
def Vis (sc:Scope) (x:Str):Prop:=sc.names.lookup x=some .local\/sc.names.lookup x=some .cell\/sc.names.lookup x=some .free
def Loc (sc:Scope) (x:Str):Prop:=sc.names.lookup x=some .local\/sc.names.lookup x=some .cell
def I8 (env:Env) (h:Heap) (m:Str->Option Value) (x:Str) (u:Value):Prop :=
 (env.kindOf x=some .local/\m x=some u)\/((env.kindOf x=some .cell\/env.kindOf x=some .free)/\∃ c,env.cells.lookup x=some c/\h.IsCell c (some u))
structure Cx.Ok (X:Cx):Prop where
 mod:Mod X.K X.mg X.base
 kind:X.env.scope.kind=.function
 glob:X.env.globals=mainGlobals
 blt:X.env.builtins=builtinsNs
 above:X.s₀.heap.objs.size<=X.env.locals
 inj:∀ x y c,X.env.cells.lookup x=some c->X.env.cells.lookup y=some c->x=y
 has:∀ x,(X.env.kindOf x=some .cell\/X.env.kindOf x=some .free)->∃ c,X.env.cells.lookup x=some c
 cab:∀ x c,X.fn x=true->X.env.cells.lookup x=some c->X.s₀.heap.objs.size<=c
 hd:X.calm=true->X.A.handled=none
 frames:X.A.frames=some X.stack
 stk:X.stack=X.outer\/(X.stack=X.env :: X.outer/\X.env.frame=some X.env.locals)
 exf:∀ b∈X.ex,b≠X.env.locals/\∀ x c,X.env.cells.lookup x=some c->c≠b
 bs:∀ b o,X.base.get? b=some o->X.s₀.heap.get? b=some o/\X.H₀ b=none
 bsz:X.base.objs.size<=X.s₀.heap.objs.size
 noex:∀ b o,X.base.get? b=some o->b∉X.ex
 exfs:∀ b∈X.ex,b∉X.fs
 funs:X.s₀.heap.FunFrames X.base X.outer
 frf:∀ b∈X.fs,X.H₀ b=none
structure Inv (X:Cx) (pins:List (Addr×Obj)) (σ:List (Option V)) (H:Hp) (s:Shared):Prop where
 ok:X.Ok
 os:s.os=X.s₀.os
 bare:AllBare s.gens
 base:Un X.fs X.ex X.H₀ H X.s₀.heap s.heap
 loc:∃ m,s.heap.Ns X.env.locals m/\∀ (i:Nat) (x:Str) (v:V),X.N[i]?=some x->σ[i]?=some (some v)->Vis X.env.scope x->∃ u,RelV v u/\I8 X.env s.heap m x u
 cell:∀ x c,X.env.cells.lookup x=some c->∃ v,s.heap.IsCell c v
 free:H X.env.locals=none
 freeC:∀ x c,X.env.cells.lookup x=some c->H c=none
 pin:∀ p∈X.pn++pins,s.heap.get? p.1=some p.2/\H p.1=none/\p.1≠X.env.locals/\p.1∉X.fs/\∀ v,p.2.data≠.cell v
 hok:HOk X.prog X.w H s.heap
 len:σ.length=X.N.length
section
variable {X:Cx} {pins:List (Addr×Obj)} {σ:List (Option V)} {H H':Hp} {s:Shared} {h':Heap}
theorem Cx.Ok.nofr (ok:X.Ok) {b:Addr} {o:Obj} (e:X.base.get? b=some o):b∉X.fs:=λhb=>by
 have:=(ok.funs.mem hb).1;rw [e] at this;cases this
theorem Inv.bs (I:Inv X pins σ H s):∀ b o,X.base.get? b=some o->s.heap.get? b=some o/\H b=none:=λb o e =>
 ⟨I.base.keep b o (I.ok.bs b o e).1 (I.ok.bs b o e).2 (I.ok.nofr e) (I.ok.noex b o e),I.base.free b o (I.ok.bs b o e).1 (I.ok.bs b o e).2 (I.ok.noex b o e)⟩
theorem Inv.bk (I:Inv X pins σ H s):∀ b o,X.base.get? b=some o->s.heap.get? b=some o:=λb o e=>(I.bs b o e).1
theorem Inv.mod (I:Inv X pins σ H s):Mod X.K X.mg X.base:=I.ok.mod
theorem Inv.kIn (I:Inv X pins σ H s):X.K.In s.heap:=I.ok.mod.kin.keeps I.bk
theorem Inv.lt (I:Inv X pins σ H s):X.env.locals < s.heap.objs.size:=let ⟨_,hn,_⟩:=I.loc;hn.lt
theorem Inv.sz (I:Inv X pins σ H s):X.s₀.heap.objs.size<=s.heap.objs.size:=aAz I.ok.above (aBa I.lt)
theorem Inv.nofs (I:Inv X pins σ H s) {a:Addr} (h:s.heap.objs.size<=a):a∉X.fs:=λhb=>by
 obtain ⟨_,o,ho,_⟩:=I.ok.funs.mem hb;exact absurd (aAk (aAu ho) (aAz I.sz h)) (aAS _)
theorem Inv.cne (I:Inv X pins σ H s):∀ x c,X.env.cells.lookup x=some c->c≠X.env.locals:=λx c e z=>by
 obtain ⟨v,o,ho,hd⟩:=I.cell x c e;obtain ⟨m,⟨o',es,ep,ho',hd',_⟩,_⟩:=I.loc;rw [z,ho'] at ho;cases ho;rw [hd'] at hd;cases hd
theorem Inv.funs (I:Inv X pins σ H s):s.heap.FunFrames X.base X.outer:=by
 have all:∀ (l:List Env),(∀ b∈frs l,b∈X.fs)->X.s₀.heap.FunFrames X.base l->s.heap.FunFrames X.base l:=by
  intro l
  induction l with
  | nil=>intro _ _;trivial
  | cons env r ih =>
   intro hs hl;obtain ⟨hk,⟨L,o,hf,hn,ho,hd⟩,hr⟩:=hl;have hL:L∈X.fs:=hs L (by unfold frs;rw [aBy,hf];exact aAh);obtain ⟨sl,e⟩:=I.base.slot L o ho (I.ok.frf L hL) hL λz=>I.ok.exfs L z hL;exact ⟨hk,⟨L,_,hf,hn,e,hd⟩,ih (λb hb=>hs b (by unfold frs;rw [aBy,hf];exact aAf _ hb)) hr⟩
 exact all X.outer (λ_ hb=>hb) I.ok.funs
theorem Inv.stack (I:Inv X pins σ H s):s.heap.FunFrames X.base X.stack:=by
 rcases I.ok.stk with e | ⟨e,hf⟩
 ·rw [e];exact I.funs
 ·rw [e];obtain ⟨m,hn,_⟩:=I.loc;refine .cons (by rw [I.ok.kind];decide) hf hn ?_ I.funs;exact Heap.get?_none_of_le (aAz I.ok.bsz I.ok.above)
theorem Inv.stkSub (I:Inv X pins σ H s):∀ b∈frs X.stack,b∈X.env.locals :: X.fs:=λb hb=>by
 rcases I.ok.stk with e | ⟨e,hf⟩
 ·rw [e] at hb;exact aAf _ hb
 ·rw [e] at hb;unfold frs at hb;rw [aBy,hf] at hb;exact hb
theorem Inv.stkFree (I:Inv X pins σ H s):∀ b∈frs X.stack,H b=none:=λb hb=>by
 rcases aAn.mp (I.stkSub b hb) with e | hb
 ·rw [e];exact I.free
 ·obtain ⟨_,o,ho,_⟩:=I.ok.funs.mem hb;exact I.base.free b o ho (I.ok.frf b hb) λz=>I.ok.exfs b z hb
theorem Inv.step {g':Array GenState} {t':Nat} {d':Drawn} {ch:List Addr} (I:Inv X pins σ H s)
  (hch:∀ b∈ch,(b∈X.ex\/X.s₀.heap.objs.size<=b)/\b≠X.env.locals/\(∀ x c,X.env.cells.lookup x=some c->c≠b)/\∀ p∈X.pn++pins,p.1≠b)
  (keep:∀ b o,b≠X.env.locals->b∉X.fs->b∉ch->s.heap.get? b=some o->H b=none->h'.get? b=some o)
  (slot:∀ b o,b≠X.env.locals->b∈X.fs->b∉ch->s.heap.get? b=some o->H b=none->∃ sl,h'.get? b=some { o with slots:=sl }) (free:∀ b o,b∉ch->s.heap.get? b=some o->H b=none->H' b=none)
  (there:∀ b o,b∉ch->s.heap.get? b=some o->∃ o',h'.get? b=some o')
  (tups:∀ b xs,H b=some (.tup xs)->H' b=some (.tup xs)) (frzs:∀ b o u,H b=some (.frz o u)->H' b=some (.frz o u)) (tbls:∀ b ps,H b=some (.tbl ps)->∃ more,H' b=some (.tbl (ps++more)))
  (ns:∀ m,s.heap.Ns X.env.locals m->h'.Ns X.env.locals m) (hok:HOk X.prog X.w H' h') (hg:AllBare g') :
  Inv X pins σ H' { s with heap:=h',gens:=g',drawn:=d',toks:=t' }:=by
 have neL:∀ b o,X.s₀.heap.get? b=some o->b≠X.env.locals:=λb o e=>aAI (aAk (aAu e) I.ok.above);have neC:∀ b o,X.s₀.heap.get? b=some o->b∉X.ex->b∉ch:=λb o e hx hb=>by
  rcases (hch b hb).1 with z | z
  ·exact hx z
  ·exact absurd (aAk (aAu e) z) (aAS _)
 have cellK:∀ x c,X.env.cells.lookup x=some c->∀ v,s.heap.IsCell c v->h'.IsCell c v:=λx c e v ⟨o,ho,hd⟩=>by
  have nch:c∉ch:=λz=>(hch c z).2.2.1 x c e rfl
  by_cases hc:c∈X.fs
  ·obtain ⟨sl,q⟩:=slot c o (I.cne x c e) hc nch ho (I.freeC x c e);exact ⟨_,q,hd⟩
  ·exact ⟨o,keep c o (I.cne x c e) hc nch ho (I.freeC x c e),hd⟩
 refine ⟨I.ok,I.os,hg,⟨λb o e n hb hx=>?_,λb o e n hb hx=>?_,λb o e n hx=>?_,λb o e hx=>?_,λb xs e=>tups b xs (I.base.tups b xs e),λb o xs e=>frzs b o xs (I.base.frzs b o xs e),λb ps e=>?_⟩,?_,λx c e=>?_,?_,λx c e=>?_,λp hp=>?_,hok,I.len⟩
 ·exact keep b o (neL b o e) hb (neC b o e hx) (I.base.keep b o e n hb hx) (I.base.free b o e n hx)
 ·obtain ⟨sl,e1⟩:=I.base.slot b o e n hb hx;obtain ⟨sl',e2⟩:=slot b _ (neL b o e) hb (neC b o e hx) e1 (I.base.free b o e n hx);exact ⟨sl',e2⟩
 ·obtain ⟨o',e1⟩:=I.base.there b o e hx;exact free b o' (neC b o e hx) e1 (I.base.free b o e n hx)
 ·obtain ⟨o',e1⟩:=I.base.there b o e hx;exact there b o' (neC b o e hx) e1
 ·obtain ⟨m1,e1⟩:=I.base.tbls b ps e;obtain ⟨m2,e2⟩:=tbls b _ e1;exact ⟨m1++m2,by rw [e2,aBD]⟩
 ·obtain ⟨m,hn,hl⟩:=I.loc;refine ⟨m,ns m hn,λi x v e1 e2 e3=>?_⟩;obtain ⟨u,r,l⟩:=hl i x v e1 e2 e3;refine ⟨u,r,?_⟩;rcases l with l | ⟨k,c,e,z⟩
  ·exact .inl l
  ·exact .inr ⟨k,c,e,cellK x c e _ z⟩
 ·obtain ⟨v,z⟩:=I.cell x c e;exact ⟨v,cellK x c e v z⟩
 ·obtain ⟨m,⟨o,_,_,ho,_⟩,_⟩:=I.loc;exact free _ o (λz=>(hch _ z).2.1 rfl) ho I.free
 ·obtain ⟨v,o,ho,hd⟩:=I.cell x c e;exact free c o (λz=>(hch c z).2.2.1 x c e rfl) ho (I.freeC x c e)
 ·obtain ⟨e,n,ne,nf,d⟩:=I.pin p hp;have nch:p.1∉ch:=λz=>(hch p.1 z).2.2.2 p hp rfl;exact ⟨keep p.1 p.2 ne nf nch e n,free p.1 p.2 nch e n,ne,nf,d⟩
theorem Inv.un {t':Nat} (I:Inv X pins σ H s) (u:Un X.fs [] H H' s.heap h') (hok:HOk X.prog X.w H' h'):Inv X pins σ H' { s with heap:=h',toks:=t' }:=by
 obtain ⟨m,⟨o,es,ep,ho,r⟩,_⟩:=id I.loc;obtain ⟨sl,hL⟩:=u.any ho I.free (by simp);exact I.step (g':=s.gens) (d':=s.drawn) (ch:=[]) (λ_ z=>nomatch z) (λb o _ hb _ e n=>u.keep b o e n hb (by simp)) (λb o _ hb _ e n=>u.slot b o e n hb (by simp)) (λb o _ e n=>u.free b o e n (by simp)) (λb o _ e=>u.there b o e (by simp)) u.tups u.frzs u.tbls (λm' hm=>by
  obtain ⟨o',es',ep',ho',r'⟩:=hm;rw [ho] at ho';cases ho';exact ⟨_,es',ep',hL,r'⟩) hok I.bare
theorem Inv.call {g':Array GenState} {t':Nat} {d':Drawn} {ch:List Addr} (I:Inv X pins σ H s) (u:Un (frs X.stack) ch H H' s.heap h') (hok:HOk X.prog X.w H' h') (hg:AllBare g')
  (hch:∀ b∈ch,(b∈X.ex\/X.s₀.heap.objs.size<=b)/\b≠X.env.locals/\(∀ x c,X.env.cells.lookup x=some c->c≠b)/\∀ p∈X.pn++pins,p.1≠b) :
  Inv X pins σ H' { s with heap:=h',gens:=g',drawn:=d',toks:=t' }:=by
 obtain ⟨m,⟨o,es,ep,ho,r⟩,_⟩:=id I.loc;obtain ⟨sl,hL⟩:=u.any ho I.free λz=>(hch _ z).2.1 rfl;exact I.step (ch:=ch) hch (λb o hL hb hc e n=>u.keep b o e n (λz=>(aAn.mp (I.stkSub b z)).elim hL hb) hc) (λb o _ _ hc e n=>u.any e n hc) (λb o hc e n=>u.free b o e n hc) (λb o hc e=>u.there b o e hc) u.tups u.frzs u.tbls (λm' hm=>by
  obtain ⟨o',es',ep',ho',r'⟩:=hm;rw [ho] at ho';cases ho';exact ⟨_,es',ep',hL,r'⟩) hok hg
theorem Inv.turned {t':Nat} {it:Addr} (I:Inv X pins σ H s) (k:∀ b o,b≠it->s.heap.get? b=some o->h'.get? b=some o) (hn:H it=none) (hL:it≠X.env.locals)
  (h1:it∈X.ex\/X.s₀.heap.objs.size<=it) (h2:∀ x c,X.env.cells.lookup x=some c->c≠it) (h3:∀ p∈X.pn++pins,p.1≠it):Inv X pins σ H { s with heap:=h',toks:=t' }:=by
 have nit:∀ b u,H b=some u->b≠it:=λb u e z=>by rw [z,hn] at e;cases e
 refine I.step (g':=s.gens) (d':=s.drawn) (ch:=[it]) (λb hb=>?_) (λb o _ _ hc e _=>k b o (λz=>hc (by simp [z])) e) (λb o _ _ hc e _=>⟨o.slots,k b o (λz=>hc (by simp [z])) e⟩) (λ_ _ _ _ n=>n)
  (λb o hc e=>⟨o,k b o (λz=>hc (by simp [z])) e⟩) (λ_ _ e=>e) (λ_ _ _ e=>e) (λb ps e=>⟨#[],by rw [e];simp⟩) (λm hm=>?_) (λb u e=>?_) I.bare
 ·have e:b=it:=by simpa using hb
  subst e;exact ⟨h1,hL,h2,h3⟩
 ·obtain ⟨o,es,ep,ho,r⟩:=hm;exact ⟨o,es,ep,k _ o (Ne.symm hL) ho,r⟩
 ·refine (I.hok b u e).stay (λc v hc q=>k c v ?_ q) (λ_ q=>q) λ_ _ q=>q;rcases hc with z | z
  ·rw [z];exact nit b u e
  ·exact nit c _ z
theorem Inv.tok (I:Inv X pins σ H s) (t:Nat):Inv X pins σ H { s with toks:=t }:=I.un (h':=s.heap) (t':=t) Un.refl I.hok
theorem Inv.kept {t':Nat} (I:Inv X pins σ H s) (k:∀ b u,s.heap.get? b=some u->h'.get? b=some u):Inv X pins σ H { s with heap:=h',toks:=t' }:=I.un (Un.kept k) (I.hok.kept k)
theorem Inv.laid {a:Addr} {o:HO} {t':Nat} (I:Inv X pins σ H s) (k:∀ b u,s.heap.get? b=some u->h'.get? b=some u) (hp:s.heap.objs.size<=a) (new:ObjOk X.prog X.w (upd H a o) h' a o) :
  Inv X pins σ (upd H a o) { s with heap:=h',toks:=t' }:=I.un (Un.laid k hp (I.hok.fresh hp)) (I.hok.laid k hp new)
theorem Inv.write {x e:Addr} {o:HO} {t':Nat} (I:Inv X pins σ H s) (mu:Mut (H x)) (he:e=x\/H e=some (.own x)) (k:∀ b u,b≠e->s.heap.get? b=some u->h'.get? b=some u) (heo:∃ u,h'.get? e=some u)
  (new:ObjOk X.prog X.w (upd H x o) h' x o):Inv X pins σ (upd H x o) { s with heap:=h',toks:=t' }:=I.un (Un.write mu he k heo) (I.hok.write mu he k heo new)
theorem Inv.pins_of {pins':List (Addr×Obj)} (I:Inv X pins σ H s) (h:∀ p∈pins',s.heap.get? p.1=some p.2/\H p.1=none/\p.1≠X.env.locals/\p.1∉X.fs/\∀ v,p.2.data≠.cell v):Inv X pins' σ H s :=
 ⟨I.ok,I.os,I.bare,I.base,I.loc,I.cell,I.free,I.freeC,λp hp=>(aAG.mp hp).elim (λz=>I.pin p (List.mem_append_left _ z)) (h p),I.hok,I.len⟩
theorem pP {N:List Str} (hN:N.Nodup) {i j:Nat} {x:Str} (a:N[i]?=some x) (b:N[j]?=some x):i=j:=by
 obtain ⟨h1,e1⟩:=aAj.mp a;obtain ⟨h2,e2⟩:=aAj.mp b;exact (List.getElem_inj hN).mp (e1.trans e2.symm)
theorem uu {M:Model} {A:Around} {E:Value->Shared->Prop} {i:Nat} {x:Str} {v:V} {u:Value} {Q:Unit->Shared->Prop} (I:Inv X pins σ H s) (hN:X.N.Nodup) (hi:X.N[i]?=some x) (hx:Loc X.env.scope x) (r:RelV v u)
  (h:∀ s',Inv X pins (σ.set i (some v)) H s'->(∃ a,Heap.SameBut a s.heap s'.heap/\(a=X.env.locals\/X.env.cells.lookup x=some a))->Q () s') (hf:X.fn x=true\/X.env.scope.names.lookup x=some .local:=by first | exact .inl rfl | exact .inr rfl | assumption):wpAny M A (storeName X.env x u) Q E s:=by
 obtain ⟨m,hn,hl⟩:=id I.loc;have hcls:(X.env.scope.kind == .class || (X.env.scope.kind == .module && X.env.locals != X.env.globals))=false:=by rw [I.ok.kind];rfl
 have hiσ:i < σ.length:=by rw [I.len];exact (aAj.mp hi).1
 have cne:=I.cne;have tracked:∀ {a:Addr} {h':Heap},(∃ o,s.heap.get? a=some o/\H a=none)->Heap.SameBut a s.heap h'->HOk X.prog X.w H h':=λ{a h'} ha hs b ob e=>by
  obtain ⟨_,_,hfree⟩:=ha;refine (I.hok b ob e).stay (λc w' hc q=>(hs.2 c ?_).trans q) (λ_ q=>q) λ_ _ q=>q;rintro rfl;rcases hc with rfl | hc
  ·rw [hfree] at e;cases e
  ·rw [hfree] at hc;cases hc
 rcases hx with hk | hk
 ·refine wpAny_storeName_local hk hn (λh' hn' hs=>?_) hcls;obtain ⟨oL,_,_,hoL,_⟩:=id hn;refine h _ ⟨I.ok,I.os,I.bare,⟨λb o e n hb hx=>?_,λb o e n hb hx=>?_,I.base.free,λb o e hx=>?_,I.base.tups,I.base.frzs,I.base.tbls⟩,⟨_,hn',λj y v' e1 e2 e3=>?_⟩,λy c e=>?_,I.free,I.freeC,λp hp=>?_,tracked ⟨oL,hoL,I.free⟩ hs,by simpa using I.len⟩ ⟨_,hs,.inl rfl⟩
  ·exact (hs.2 b (aAI (aAk (aAu e) I.ok.above))).trans (I.base.keep b o e n hb hx)
  ·obtain ⟨sl,e1⟩:=I.base.slot b o e n hb hx;exact ⟨sl,(hs.2 b (aAI (aAk (aAu e) I.ok.above))).trans e1⟩
  ·obtain ⟨o',e1⟩:=I.base.there b o e hx;exact ⟨o',(hs.2 b (aAI (aAk (aAu e) I.ok.above))).trans e1⟩
  ·by_cases hj:j=i
   ·subst hj;rw [hi] at e1;cases e1;rw [aBW hiσ] at e2
    cases e2
    exact ⟨u,r,.inl ⟨hk,by simp⟩⟩
   ·rw [List.getElem?_set_ne (Ne.symm hj)] at e2;obtain ⟨u',r',q⟩:=hl j y v' e1 e2 e3;refine ⟨u',r',?_⟩;rcases q with ⟨k,e⟩ | ⟨k,c,e,z⟩
    ·refine .inl ⟨k,?_⟩;have:y≠x:=λe=>hj (pP hN e1 (e ▸ hi));simp [this,e]
    ·exact .inr ⟨k,c,e,z.sameBut hs (cne y c e)⟩
  ·obtain ⟨w',z⟩:=I.cell y c e;exact ⟨w',z.sameBut hs (cne y c e)⟩
  ·obtain ⟨e,n,ne,nf,d⟩:=I.pin p hp;exact ⟨(hs.2 p.1 ne).trans e,n,ne,nf,d⟩
 ·have hfn:X.fn x=true:=by
   rcases hf with z | z
   ·exact z
   ·rw [z] at hk;cases hk
  obtain ⟨c,hc⟩:=I.ok.has x (.inl hk);obtain ⟨w',z⟩:=I.cell x c hc;refine wpAny_storeName_cell I.ok.kind hk hc z (λh' hc' hs=>?_);obtain ⟨oc,hoc,hocd⟩:=id z;refine h { s with heap:=h' } ⟨I.ok,I.os,I.bare,⟨λb o e n hb hx=>?_,λb o e n hb hx=>?_,I.base.free,λb o e hx=>?_,I.base.tups,I.base.frzs,I.base.tbls⟩,⟨m,hn.sameBut hs (Ne.symm (cne x c hc)),λj y v' e1 e2 e3=>?_⟩,λy c' e=>?_,I.free,I.freeC,λp hp=>?_,tracked ⟨oc,hoc,I.freeC x c hc⟩ hs,by simpa using I.len⟩ ⟨c,hs,.inr hc⟩
  ·exact (hs.2 b (aAI (aAk (aAu e) (I.ok.cab x c hfn hc)))).trans (I.base.keep b o e n hb hx)
  ·obtain ⟨sl,e1⟩:=I.base.slot b o e n hb hx;exact ⟨sl,(hs.2 b (aAI (aAk (aAu e) (I.ok.cab x c hfn hc)))).trans e1⟩
  ·obtain ⟨o',e1⟩:=I.base.there b o e hx;exact ⟨o',(hs.2 b (aAI (aAk (aAu e) (I.ok.cab x c hfn hc)))).trans e1⟩
  ·by_cases hj:j=i
   ·subst hj;rw [hi] at e1;cases e1;rw [aBW hiσ] at e2
    cases e2
    exact ⟨u,r,.inr ⟨.inl hk,c,hc,hc'⟩⟩
   ·rw [List.getElem?_set_ne (Ne.symm hj)] at e2;obtain ⟨u',r',q⟩:=hl j y v' e1 e2 e3;refine ⟨u',r',?_⟩;rcases q with q | ⟨k,c',e,z'⟩
    ·exact .inl q
    ·refine .inr ⟨k,c',e,z'.sameBut hs ?_⟩;rintro rfl;exact hj (pP hN e1 (I.ok.inj _ _ _ e hc ▸ hi))
  ·by_cases hcc:c'=c
   ·subst hcc;exact ⟨_,hc'⟩
   ·obtain ⟨w2,z2⟩:=I.cell y c' e;exact ⟨w2,z2.sameBut hs hcc⟩
  ·obtain ⟨e,n,ne,nf,d⟩:=I.pin p hp;refine ⟨(hs.2 p.1 ?_).trans e,n,ne,nf,d⟩;intro q;rw [q,hoc] at e;have q':oc=p.2:=Option.some.inj e;exact d w' (by rw [<- q'];exact hocd)
theorem kU {M:Model} {A:Around} {E:Value->Shared->Prop} {i:Nat} {x:Str} {v:V} {u:Value} {Q:Unit->Shared->Prop} (I:Inv X pins σ H s) (hN:X.N.Nodup) (hi:X.N[i]?=some x) (hx:Loc X.env.scope x) (r:RelV v u)
  (h:∀ s',Inv X pins (σ.set i (some v)) H s'->Q () s') (hf:X.fn x=true\/X.env.scope.names.lookup x=some .local:=by first | exact .inl rfl | exact .inr rfl | assumption):wpAny M A (storeName X.env x u) Q E s :=
 uu I hN hi hx r (λs' I' _=>h s' I') hf
theorem Inv.call' {s':Shared} {ch:List Addr} (I:Inv X pins σ H s) (ho:s'.os=s.os) (u:Un (frs X.stack) ch H H' s.heap s'.heap) (hok:HOk X.prog X.w H' s'.heap) (hg:AllBare s'.gens)
  (hch:∀ b∈ch,(b∈X.ex\/X.s₀.heap.objs.size<=b)/\b≠X.env.locals/\(∀ x c,X.env.cells.lookup x=some c->c≠b)/\∀ p∈X.pn++pins,p.1≠b):Inv X pins σ H' s':=by
 obtain ⟨h',g',d',t',o'⟩:=s';have e:o'=s.os:=ho;subst e;exact I.call (g':=g') (t':=t') (d':=d') u hok hg hch
end
abbrev XK:=Value->Option Addr->Hp->Prop
abbrev St:=List (Option V)
abbrev VK:=V->Hp->Prop
abbrev TE:=St->Hp->VK->Prop
abbrev TT:=St->Hp->(Bool->Hp->Prop)->Prop
abbrev TA:=St->Hp->(List V->Hp->Prop)->Prop
structure Ends where
 nx:St->Hp->Prop
 rt:VK
 bk:St->Hp->Prop:=λ_ _=>False
 ct:St->Hp->Prop:=λ_ _=>False
abbrev TS:=Ends->St->Hp->Prop
def EP (X:Cx) (pins:List (Addr×Obj)) (σ:St) (Q:VK) (u:Value) (s':Shared):Prop:=∃ v H',Inv X pins σ H' s'/\RelV v u/\Q v H'
def TP (X:Cx) (pins:List (Addr×Obj)) (σ:St) (Q:Bool->Hp->Prop) (b:Bool) (s':Shared):Prop:=∃ H',Inv X pins σ H' s'/\Q b H'
def AP (X:Cx) (pins:List (Addr×Obj)) (σ:St) (Q:List V->Hp->Prop) (us:List Value) (s':Shared):Prop:=∃ vs H',Inv X pins σ H' s'/\Vals vs us/\Q vs H'
def SP (X:Cx) (pins:List (Addr×Obj)) (D:Ends) (f:Flow) (s':Shared):Prop :=
 match f with
 | .next=>∃ σ' H',Inv X pins σ' H' s'/\D.nx σ' H'
 | .brk=>∃ σ' H',Inv X pins σ' H' s'/\D.bk σ' H'
 | .cont=>∃ σ' H',Inv X pins σ' H' s'/\D.ct σ' H'
 | .ret u=>∃ v σ' H',Inv X pins σ' H' s'/\RelV v u/\D.rt v H'
def PE (X:Cx) (e:Expr) (t:TE):Prop :=
 ∀ (pins:List (Addr×Obj)) (s:Shared) (σ:St) (H:Hp) (Q:VK),Inv X pins σ H s->t σ H Q->wpAny (model X.prog X.w) X.A (eval e X.env) (EP X pins σ Q) X.xe s
def PT (X:Cx) (e:Expr) (t:TT):Prop :=
 ∀ (pins:List (Addr×Obj)) (s:Shared) (σ:St) (H:Hp) (Q:Bool->Hp->Prop),Inv X pins σ H s->t σ H Q->wpAny (model X.prog X.w) X.A (isTrue e X.env (eval e X.env)) (TP X pins σ Q) X.xe s
def PW (X:Cx) (e:Expr) (t:TT):Prop :=
 ∀ (whole:Sem Value) (pins:List (Addr×Obj)) (s:Shared) (σ:St) (H:Hp) (Q:Bool->Hp->Prop),Inv X pins σ H s->t σ H Q->wpAny (model X.prog X.w) X.A (isTrue e X.env whole) (TP X pins σ Q) X.xe s
theorem PW.pt {X:Cx} {e:Expr} {t:TT} (h:PW X e t):PT X e t:=h _
def PA (X:Cx) (es:List Expr) (t:TA):Prop :=
 ∀ (pos:Pos) (pins:List (Addr×Obj)) (s:Shared) (σ:St) (H:Hp) (Q:List V->Hp->Prop),Inv X pins σ H s->t σ H Q->wpAny (model X.prog X.w) X.A (spliced (backTo pos (starEach es X.env))) (AP X pins σ Q) X.xe s
def PS (X:Cx) (st:Stmt) (t:TS):Prop :=
 ∀ (pins:List (Addr×Obj)) (s:Shared) (σ:St) (H:Hp) (D:Ends),Inv X pins σ H s->t D σ H->wpAny (model X.prog X.w) X.A (exec st X.env) (SP X pins D) X.xe s
def PSs (X:Cx) (st:List Stmt) (t:TS):Prop :=
 ∀ (pins:List (Addr×Obj)) (s:Shared) (σ:St) (H:Hp) (D:Ends),Inv X pins σ H s->t D σ H->wpAny (model X.prog X.w) X.A (execs st X.env) (SP X pins D) X.xe s
theorem thn {α:Type} {t:Sem α} {Q Q':α->Shared->Prop} {M:Model} {A:Around} {E:Value->Shared->Prop} {s:Shared} (h:wpAny M A t Q E s) (hQ:∀ a s,Q a s->Q' a s):wpAny M A t Q' E s:=wpAny_mono h hQ λ_ _ x=>x
section
variable {X:Cx}
inductive IVar (i:Nat) (σ:St) (H:Hp) (Q:VK):Prop
 | mk (v:V):(σ[i]?=some (some v))->(Q v H)->IVar i σ H Q
def iH (i:Nat):TE:=λσ H Q=>IVar i σ H Q
def tC (v:V):TE:=λ_ H Q=>Q v H
theorem Bw {i:Nat} {x:Str} {pos:Pos} (hN:X.N[i]?=some x) (hv:Vis X.env.scope x) (hd:(x == ("__debug__" : Str))=false:=by decide) (hcd:(x == ("__classdict__" : Str))=false:=by decide):PE X (.Name x pos) (iH i):=by
 intro pins s σ H Q I h;obtain ⟨v,e,h⟩:=h;obtain ⟨m,hn,hl⟩:=I.loc;obtain ⟨u,r,l⟩:=hl i x v hN e hv;have fin:EP X pins σ Q u s:=⟨v,H,I,r,h⟩;rcases l with ⟨hk,hm⟩ | ⟨hk,c,hc,hcell⟩
 ·exact wpAny_Name (wpAny_loadName_local I.ok.kind hk hn hm fin) hd
 ·rcases hk with hk | hk
  ·exact wpAny_Name (wpAny_loadName_cell I.ok.kind hk hc hcell fin) hd
  ·exact wpAny_Name (wpAny_loadName_free I.ok.kind hk hc hcell fin hcd) hd
theorem pe_int {i j pos}:PE X (.Constant (.int i) j pos) (tC (.int i)):=λ_ _ _ H _ I h=>wpAny_Constant_int ⟨.int i,H,I.tok _,⟨_,rfl⟩,h⟩
theorem pQ {b j pos}:PE X (.Constant (.bool b) j pos) (tC (.bl b)):=λ_ _ _ H _ I h=>Constant_bool ⟨.bl b,H,I,rfl,h⟩
theorem pe_non {j pos}:PE X (.Constant .none j pos) (tC .non):=λ_ _ _ H _ I h=>Constant_none ⟨.non,H,I,rfl,h⟩
theorem pe_str {x j pos}:PE X (.Constant (.str x) j pos) (tC (.str x)):=λ_ _ _ H _ I h=>Calls.Constant_str ⟨.str x,H,I.tok _,⟨_,rfl⟩,h⟩
def Gl (X:Cx) (x:Str):Prop:=X.env.kindOf x=some .globalImplicit
theorem iI {E:Value->Shared->Prop} {pins:List (Addr×Obj)} {s:Shared} {σ:St} {H:Hp} {x:Str} {u:Value} {pos:Pos} {Q:Value->Shared->Prop} (I:Inv X pins σ H s) (hg:Gl X x) (hm:X.mg x=some u) (h:Q u s)
  (hd:(x == ("__debug__" : Str))=false:=by decide):wpAny (model X.prog X.w) X.A (eval (.Name x pos) X.env) Q E s :=
 Calls.Name_function_global I.ok.kind hg (Calls.loadGlobal_global (by rw [I.ok.glob];exact I.mod.glob.keeps I.bk) hm h) hd
theorem jw {E:Value->Shared->Prop} {pins:List (Addr×Obj)} {s:Shared} {σ:St} {H:Hp} {x:Str} {u:Value} {pos:Pos} {Q:Value->Shared->Prop} (I:Inv X pins σ H s) (hg:Gl X x) (hm:X.mg x=none) (hv:bootBuiltins x=some u) (h:Q u s)
  (hn:x≠ "__name__" :=by decide) (hd:(x == ("__debug__" : Str))=false:=by decide):wpAny (model X.prog X.w) X.A (eval (.Name x pos) X.env) Q E s:=by
 obtain ⟨mb,h1,h2⟩:=I.mod.blt;exact Calls.Name_function_global I.ok.kind hg (Calls.loadGlobal_builtin (by rw [I.ok.glob];exact I.mod.glob.keeps I.bk) hm (by rw [I.ok.blt];exact h1.keeps I.bk) ((h2 x hn).trans hv) h) hd
theorem nS {x:Str} {v:V} {u:Value} {pos:Pos} (hg:Gl X x) (hm:X.mg x=some u) (r:RelV v u) (hd:(x == ("__debug__" : Str))=false:=by decide):PE X (.Name x pos) (tC v) :=
 λ_ _ _ H _ I h=>iI I hg hm ⟨v,H,I,r,h⟩ hd
theorem xI {x:Str} {v:V} {u:Value} {pos:Pos} (hg:Gl X x) (hm:X.mg x=none) (hv:bootBuiltins x=some u) (r:RelV v u) (hn:x≠ "__name__" :=by decide) (hd:(x == ("__debug__" : Str))=false:=by decide):PE X (.Name x pos) (tC v) :=
 λ_ _ _ H _ I h=>jw I hg hm hv ⟨v,H,I,r,h⟩ hn hd
variable {a b:Expr} {ta tb:TE} {pos:Pos}
def tB (t:TE):TT:=λσ H Q=>t σ H λx H1=>∃ c,x=.bl c/\Q c H1
theorem pt_val {e:Expr} {t:TE} (h:PE X e t) (he:∀ whole,isTrue e X.env whole=(do let v <- whole;standAt e.pos;holding [v] (truthy v)):=by intro _;rfl):PT X e (tB t):=by
 intro pins s σ H Q I hw;refine isTrue_plain (thn (h pins s σ H _ I hw) λv s1 ⟨x,H1,I1,r1,q1⟩=>?_) (he _);obtain ⟨d,rfl,q⟩:=q1
 cases r1
 exact wpAny_truthy_bool ⟨H1,I1,q⟩
variable {tA tB':TT} {rest:List Expr}
def Bx (t u:TT):TT:=λσ H Q=>t σ H λc H1=>if c=true then u σ H1 Q else Q false H1
def tOr (t u:TT):TT:=λσ H Q=>t σ H λc H1=>if c=true then Q true H1 else u σ H1 Q
def I9 (t:TT):TT:=λσ H Q=>t σ H λc H1=>Q (!c) H1
theorem pw_and1 (ha:PT X a tA):PW X (.BoolOp .And [a] pos) tA:=by
 intro wh pins s σ H Q I h;refine isTrue_and (thn (ha pins s σ H Q I h) λc s1 e=>?_)
 cases c with
 | true=>exact isTrue_and_nil e
 | false=>exact e
theorem ii (ha:PT X a tA):PW X (.BoolOp .Or [a] pos) tA:=by
 intro wh pins s σ H Q I h;refine isTrue_or (thn (ha pins s σ H Q I h) λc s1 e=>?_)
 cases c with
 | false=>exact isTrue_or_nil e
 | true=>exact e
theorem pw_and (ha:PT X a tA) (hb:PW X (.BoolOp .And (b :: rest) pos) tB'):PW X (.BoolOp .And (a :: b :: rest) pos) (Bx tA tB'):=by
 intro wh pins s σ H Q I h;refine isTrue_and (thn (ha pins s σ H _ I h) λc s1 ⟨H1,I1,q1⟩=>?_)
 cases c with
 | true=>exact hb wh pins s1 σ H1 Q I1 q1
 | false=>exact ⟨H1,I1,q1⟩
theorem j6 (ha:PT X a tA) (hb:PW X (.BoolOp .Or (b :: rest) pos) tB'):PW X (.BoolOp .Or (a :: b :: rest) pos) (tOr tA tB'):=by
 intro wh pins s σ H Q I h;refine isTrue_or (thn (ha pins s σ H _ I h) λc s1 ⟨H1,I1,q1⟩=>?_)
 cases c with
 | true=>exact ⟨H1,I1,q1⟩
 | false=>exact hb wh pins s1 σ H1 Q I1 q1
theorem re (ha:PT X a tA):PT X (.UnaryOp .Not a pos) (I9 tA):=by
 intro pins s σ H Q I h;exact isTrue_not (ha pins s σ H (λc H1=>Q (!c) H1) I h)
def HE (ta tb:TE):TE:=λσ H Q=>ta σ H λx H1=>∃ c,x=.bl c/\if c=true then tb σ H1 Q else Q (.bl false) H1
theorem By {op} {t:TE} (h:PE X a t):PE X (.BoolOp op [a] pos) t:=λpins s σ H Q I hw=>BoolOp_one (h pins s σ H Q I hw)
theorem vv (ha:PE X a ta) (hb:PE X (.BoolOp .And (b :: rest) pos) tb):PE X (.BoolOp .And (a :: b :: rest) pos) (HE ta tb):=by
 intro pins s σ H Q I h;refine BoolOp_and (thn (ha pins s σ H _ I h) λv s1 ⟨x,H1,I1,r1,q1⟩=>?_);obtain ⟨c,rfl,q1⟩:=q1
 cases r1
 refine wpAny_truthy_bool ?_
 cases c with
 | true=>exact hb pins s1 σ H1 Q I1 q1
 | false=>exact ⟨.bl false,H1,I1,rfl,q1⟩
def tIf (t:TT) (ta tb:TE):TE:=λσ H Q=>t σ H λc H1=>if c=true then ta σ H1 Q else tb σ H1 Q
theorem kW {c:Expr} (hc:PT X c tA) (ha:PE X a ta) (hb:PE X b tb):PE X (.IfExp c a b pos) (tIf tA ta tb):=by
 intro pins s σ H Q I h;refine wpAny_IfExp (thn (hc pins s σ H _ I h) λd s1 ⟨H1,I1,q1⟩=>?_)
 cases d with
 | true=>exact ha pins s1 σ H1 Q I1 q1
 | false=>exact hb pins s1 σ H1 Q I1 q1
end
def SqL (K:W.Frag) (H:Hp) (a:Addr) (xs:List V):Prop :=
 Rd H a (.lst xs) \/
  ∃ (o:Obj) (its:Array Value) (n:Nat),K.lookup a=some o/\o.cls=.type "list" /\o.dict=none/\o.data=.seq its n/\its.size<=sizeLine/\Vals xs its.toList
def SqT (K:W.Frag) (H:Hp) (a:Addr) (xs:List V):Prop :=
 Rd H a (.tup xs) \/
  ∃ (o:Obj) (its:Array Value) (n:Nat),K.lookup a=some o/\o.cls=.type "tuple" /\o.data=.seq its n/\its.size<=sizeLine/\Vals xs its.toList
def Ja:Value->Option V
 | .none=>some .non
 | .bool b=>some (.bl b)
 | .int i _=>some (.int i)
 | .str x _=>some (.str x)
 | .bytes b _=>some (.byt b)
 | .float b _=>some (.flt b)
 | .ref a=>some (.ref a)
 | .type n=>some (.ty n)
 | _=>none
theorem RelV.abs {x:V} {u:Value} (r:RelV x u):Ja u=some x:=by
 cases x with
 | non=>cases r;rfl
 | bl _=>cases r;rfl
 | int _=>obtain ⟨t,rfl⟩:=r;rfl
 | str _=>obtain ⟨t,rfl⟩:=r;rfl
 | byt _=>obtain ⟨t,rfl⟩:=r;rfl
 | flt _=>obtain ⟨t,rfl⟩:=r;rfl
 | ref _=>cases r;rfl
 | ty _=>cases r;rfl
theorem RelV.inj {x y:V} {u:Value} (r:RelV x u) (q:RelV y u):x=y:=Option.some.inj (r.abs.symm.trans q.abs)
theorem Vals.inj:∀ {xs ys:List V} {us:List Value},Vals xs us->Vals ys us->xs=ys
 | _,_,_,.nil,.nil=>rfl
 | _,_,_,.cons r t,.cons r' t'=>by rw [r.inj r',Vals.inj t t']
section
variable {X:Cx} {pins:List (Addr×Obj)} {σ:St} {H:Hp} {s:Shared} {a:Addr} {xs ys:List V}
theorem SqL.of {K:W.Frag} (h:H a=some (.lst xs)):SqL K H a xs:=.inl (.inl h)
theorem SqT.of {K:W.Frag} (h:H a=some (.tup xs)):SqT K H a xs:=.inl (.inl h)
theorem Inv.list (I:Inv X pins σ H s) (h:SqL X.K H a xs):∃ its:List Value,Vals xs its/\PlainL s.heap a its.toArray/\xs.length<=sizeLine:=by
 rcases h with h | ⟨o,its,n,hk,hc,hd,hs,hz,r⟩
 ·obtain ⟨z,its,n,r,e⟩:=h.ok I.hok;exact ⟨its,r,⟨_,n,e,rfl,rfl,rfl⟩,z⟩
 ·refine ⟨its.toList,r,⟨o,n,I.kIn a o hk,hc,hd,by simpa using hs⟩,?_⟩;have e:=r.length;simp only [aAU] at e;lia
theorem Inv.tuple (I:Inv X pins σ H s) (h:SqT X.K H a xs):∃ its:List Value,Vals xs its/\IsTup s.heap a its.toArray/\xs.length<=sizeLine:=by
 rcases h with h | ⟨o,its,n,hk,hc,hs,hz,r⟩
 ·obtain ⟨z,its,r,p⟩:=h.ok I.hok;exact ⟨its,r,p,z⟩
 ·refine ⟨its.toList,r,⟨o,I.kIn a o hk,hc,n,by simpa using hs⟩,?_⟩;have e:=r.length;simp only [aAU] at e;lia
theorem Inv.list_inj (I:Inv X pins σ H s) (h:SqL X.K H a xs) (h':SqL X.K H a ys):xs=ys:=by
 obtain ⟨its,r,⟨o,n,e,_,_,d⟩,_⟩:=I.list h;obtain ⟨its',r',⟨o',n',e',_,_,d'⟩,_⟩:=I.list h';rw [e] at e';cases e';rw [d] at d';injection d' with d1 _
 have:its=its':=by simpa using congrArg Array.toList d1
 subst this;exact r.inj r'
theorem Inv.tuple_inj (I:Inv X pins σ H s) (h:SqT X.K H a xs) (h':SqT X.K H a ys):xs=ys:=by
 obtain ⟨its,r,⟨o,e,_,n,d⟩,_⟩:=I.tuple h;obtain ⟨its',r',⟨o',e',_,n',d'⟩,_⟩:=I.tuple h';rw [e] at e';cases e';rw [d] at d';injection d' with d1 _
 have:its=its':=by simpa using congrArg Array.toList d1
 subst this;exact r.inj r'
end
abbrev Cx.wish (X:Cx) (E:Value->Shared->Prop):Cx:={ X with xe:=E }
abbrev Cx.nox (X:Cx):Cx:=X.wish λ_ _=>False
theorem Cx.Ok.wish {X:Cx} (ok:X.Ok) (E:Value->Shared->Prop):(X.wish E).Ok :=
 ⟨ok.mod,ok.kind,ok.glob,ok.blt,ok.above,ok.inj,ok.has,ok.cab,ok.hd,ok.frames,ok.stk,ok.exf,ok.bs,ok.bsz,ok.noex,ok.exfs,ok.funs,ok.frf⟩
theorem Cx.Ok.unwish {X:Cx} {E:Value->Shared->Prop} (ok:(X.wish E).Ok):X.Ok :=
 ⟨ok.mod,ok.kind,ok.glob,ok.blt,ok.above,ok.inj,ok.has,ok.cab,ok.hd,ok.frames,ok.stk,ok.exf,ok.bs,ok.bsz,ok.noex,ok.exfs,ok.funs,ok.frf⟩
section
variable {X:Cx} {pins:List (Addr×Obj)} {σ:St} {H:Hp} {s:Shared} {E:Value->Shared->Prop}
theorem Inv.wish (I:Inv X pins σ H s) (E:Value->Shared->Prop):Inv (X.wish E) pins σ H s:=⟨I.ok.wish E,I.os,I.bare,I.base,I.loc,I.cell,I.free,I.freeC,I.pin,I.hok,I.len⟩
theorem Inv.unwish (I:Inv (X.wish E) pins σ H s):Inv X pins σ H s:=⟨I.ok.unwish,I.os,I.bare,I.base,I.loc,I.cell,I.free,I.freeC,I.pin,I.hok,I.len⟩
theorem SP.unwish {D:Ends} {f:Flow} {s':Shared} (h:SP (X.wish E) pins D f s'):SP X pins D f s':=by
 cases f with
 | next=>obtain ⟨σ',H',I,q⟩:=h;exact ⟨σ',H',I.unwish,q⟩
 | brk=>obtain ⟨σ',H',I,q⟩:=h;exact ⟨σ',H',I.unwish,q⟩
 | cont=>obtain ⟨σ',H',I,q⟩:=h;exact ⟨σ',H',I.unwish,q⟩
 | ret u=>obtain ⟨v,σ',H',I,r,q⟩:=h;exact ⟨v,σ',H',I.unwish,r,q⟩
theorem PSs.nox {st:List Stmt} {t:TS} (h:PSs X.nox st t):PSs X st t:=λpins s σ H D I hw =>
 wpAny_mono (h pins s σ H D (I.wish _) hw) (λ_ _ q=>q.unwish) λ_ _ z=>False.elim z
end
section
variable {X:Cx} {st:Stmt} {rest:List Stmt} {t u:TS} {e:Expr} {te:TE} {pos:Pos}
def yJ:TS:=λD σ H=>D.nx σ H
def HF (t u:TS):TS:=λD σ H=>t { D with nx:=u D } σ H
theorem pss_nil:PSs X [] yJ:=λ_ _ σ H _ I h=>wpAny_execs_nil ⟨σ,H,I,h⟩
theorem pss_cons (h1:PS X st t) (h2:PSs X rest u):PSs X (st :: rest) (HF t u):=by
 intro pins s σ H D I h;refine wpAny_execs_cons (thn (h1 pins s σ H { D with nx:=u D } I h) λf s1 q=>?_)
 cases f with
 | next =>
  obtain ⟨σ',H',I',q⟩:=q;exact h2 pins s1 σ' H' D I' q
 | ret v=>exact q
 | brk=>exact q
 | cont=>exact q
theorem pss_one (h1:PS X st t):PSs X [st] t:=by
 intro pins s σ H D I h;refine wpAny_execs_cons (thn (h1 pins s σ H D I h) λf s1 q=>?_)
 cases f with
 | next=>exact wpAny_execs_nil q
 | ret v=>exact q
 | brk=>exact q
 | cont=>exact q
theorem Inv.quiet {pins:List (Addr×Obj)} {σ:St} {H:Hp} {s:Shared} (I:Inv X pins σ H s):interactive X.env=false:=by simp [interactive,I.ok.kind]
def HG (te:TE):TS:=λD σ H=>te σ H λ_ H1=>D.nx σ H1
theorem ps_expr (he:PE X e te) (hs:swapsWith e none pos.line X.env=pure false:=by rfl):PS X (.Expr e pos) (HG te):=by
 intro pins s σ H D I h;exact wpAny_Expr_any (thn (he pins s σ H _ I h) λv s1 ⟨x,H1,I1,r1,q1⟩=>⟨σ,H1,I1,q1⟩) I.quiet hs
def Bz (te:TE):TS:=λD σ H=>te σ H D.rt
theorem ps_ret (he:PE X e te):PS X (.Return (some e) pos) (Bz te):=by
 intro pins s σ H D I h;exact wpAny_Return_some (thn (he pins s σ H _ I h) λv s1 ⟨x,H1,I1,r1,q1⟩=>⟨x,σ,H1,I1,r1,q1⟩)
def Jb (c:TT) (t u:TS):TS:=λD σ H=>c σ H λb H1=>if b=true then t D σ H1 else u D σ H1
theorem ps_if {c:Expr} {a b:List Stmt} {tc:TT} (hc:PT X c tc) (ha:PSs X a t) (hb:PSs X b u):PS X (.If c a b pos) (Jb tc t u):=by
 intro pins s σ H D I h;refine wpAny_If (thn (hc pins s σ H _ I h) λd s1 ⟨H1,I1,q1⟩=>?_)
 cases d with
 | true=>exact ha pins s1 σ H1 D I1 q1
 | false=>exact hb pins s1 σ H1 D I1 q1
end
abbrev TG:=V->St->Hp->(St->Hp->Prop)->Prop
abbrev TGs:=List V->St->Hp->(St->Hp->Prop)->Prop
def PG (X:Cx) (target:Expr) (t:TG):Prop :=
 ∀ (pins:List (Addr×Obj)) (s:Shared) (σ:St) (H:Hp) (v:V) (u:Value) (Q:St->Hp->Prop),Inv X pins σ H s->RelV v u->t v σ H Q ->
  wpAny (model X.prog X.w) X.A (assign target X.env u) (λ_ s'=>∃ σ' H',Inv X pins σ' H' s'/\Q σ' H') X.xe s
def PGs (X:Cx) (ts:List Expr) (t:TGs):Prop :=
 ∀ (pins:List (Addr×Obj)) (s:Shared) (σ:St) (H:Hp) (vs:List V) (us:List Value) (Q:St->Hp->Prop),Inv X pins σ H s->Vals vs us->t vs σ H Q ->
  wpAny (model X.prog X.w) X.A (assignInOrder ((assignEach ts X.env).map (·.2)) us) (λ_ s'=>∃ σ' H',Inv X pins σ' H' s'/\Q σ' H') X.xe s
abbrev BA:=V->V->V->Hp->(Hp->Prop)->Prop
def HH (X:Cx) (t:BA):Prop :=
 ∀ (pins:List (Addr×Obj)) (s:Shared) (σ:St) (H:Hp) (o i v:V) (ov iv u:Value) (Q:Hp->Prop),Inv X pins σ H s->RelV o ov->RelV i iv->RelV v u->t o i v H Q ->
  wpAny (model X.prog X.w) X.A (setItem ov iv u) (λ_ s'=>∃ H',Inv X pins σ H' s'/\Q H') X.xe s
abbrev TIp:=V->V->Hp->VK->Prop
def PIp (X:Cx) (op:Operator) (t:TIp):Prop :=
 ∀ (pins:List (Addr×Obj)) (s:Shared) (σ:St) (H:Hp) (x y:V) (v u:Value) (Q:VK),Inv X pins σ H s->RelV x v->RelV y u->t x y H Q ->
  wpAny (model X.prog X.w) X.A (inplaceOp op v u) (EP X pins σ Q) X.xe s
section
variable {X:Cx} {pos:Pos}
def cR (i:Nat):TG:=λv σ H Q=>Q (σ.set i (some v)) H
theorem aj {i:Nat} {x:Str} (hN:X.N.Nodup) (hi:X.N[i]?=some x) (hx:Loc X.env.scope x) (hf:X.fn x=true\/X.env.scope.names.lookup x=some .local:=by first | exact .inl rfl | exact .inr rfl | assumption):PG X (.Name x pos) (cR i):=by
 intro pins s σ H v u Q I r h;exact wpAny_assign_Name (kU I hN hi hx r (λs' I'=>⟨_,H,I',h⟩) hf)
def Jc:TGs:=λvs σ H Q=>vs=[]/\Q σ H
def HI (t:TG) (u:TGs):TGs:=λvs σ H Q=>∃ v r,vs=v :: r/\t v σ H λσ' H'=>u r σ' H' Q
theorem dD:PGs X [] Jc:=by
 intro pins s σ H vs us Q I r h;obtain ⟨e,h⟩:=h;subst e
 cases r
 exact assignInOrder_nil ⟨σ,H,I,h⟩
theorem aJ {e:Expr} {es:List Expr} {t:TG} {u:TGs} (h1:PG X e t) (h2:PGs X es u)
  (hs:(assignEach (e :: es) X.env).map (·.2)=assign e X.env :: (assignEach es X.env).map (·.2):=by rfl):PGs X (e :: es) (HI t u):=by
 intro pins s σ H vs us Q I r h;obtain ⟨v,vr,e1,h⟩:=h;subst e1
 cases r with
 | cons r rr =>
  rw [hs];refine assignInOrder_cons (thn (h1 pins s σ H _ _ _ I r h) λ_ s1 ⟨σ1,H1,I1,q1⟩=>?_);exact h2 pins s1 σ1 H1 _ _ Q I1 rr q1
def HJ (K:W.Frag) (n:Nat) (t:TGs):TG:=λv σ H Q=>∃ a xs,v=.ref a/\SqT K H a xs/\xs.length=n/\t xs σ H Q
theorem jx {es:List Expr} {k:Nat} {t:TGs} {n:Nat} (hc:X.calm=true) (h:PGs X es t)
  (hn:(assignEach es X.env).length=n:=by rfl) (hst:(assignEach es X.env).findIdx? (·.1)=none:=by rfl):PG X (.Tuple es k pos) (HJ X.K n t):=by
 intro pins s σ H v u Q I r hw;obtain ⟨a,xs,e1,hq,hl,hw⟩:=hw;subst e1
 cases r
 obtain ⟨its,rv,ht,hz⟩:=I.tuple hq;refine assign_Tuple_tuple (I.ok.hd hc) ht (by simp [hn,<- hl,rv.length]) hst λh' hx=>?_;have I1:Inv X pins σ H { s with heap:=h' }:=I.kept (t':=s.toks) λb o e=>hx b o (aAI (aAu e)) e;exact h pins _ σ H xs _ Q I1 (by simpa using rv) hw
def gSub (to ti:TE) (t:BA):TG:=λv σ H Q=>to σ H λo H1=>ti σ H1 λi H2=>t o i v H2 λH3=>Q σ H3
theorem rf {o i:Expr} {to ti:TE} {t:BA} (ho:PE X o to) (hi:PE X i ti) (hs:HH X t)
  (ha:∀ v,assign (.Subscript o i pos) X.env v=(do
   let ov <- holding [v] (eval o X.env)
   let iv <- holding [v,ov] (eval i X.env)
   standAt pos
   holding [v,ov,iv] (setItem ov iv v)
   release [v,ov,iv] []):=by intro _;rfl):PG X (.Subscript o i pos) (gSub to ti t):=by
 intro pins s σ H v u Q I r h;rw [ha];refine wpAny_bind (wpAny_holding (thn (ho pins s σ H _ I h) λov s1 ⟨x,H1,I1,r1,q1⟩=>?_));refine wpAny_bind (wpAny_holding (thn (hi pins s1 σ H1 _ I1 q1) λiv s2 ⟨y,H2,I2,r2,q2⟩=>?_));refine wpAny_bind (wpAny_standAt (wpAny_bind (wpAny_holding (thn (hs pins s2 σ H2 x y v ov iv u _ I2 r1 r2 r q2) λ_ s3 ⟨H3,I3,q3⟩=>?_))));exact wpAny_release ⟨σ,H3,I3,q3⟩
def HK (te:TE) (g:TG):TS:=λD σ H=>te σ H λx H1=>g x σ H1 D.nx
theorem nU {tg e:Expr} {te:TE} {g:TG} (he:PE X e te) (hg:PG X tg g) (hs:swapsWithSole [tg] e pos.line X.env=pure false:=by rfl) (hw:swappedStores [tg] e X.env=pure none:=by rfl)
  (h1:(assignEach [tg] X.env).map (·.2)=[assign tg X.env]:=by rfl):PS X (.Assign [tg] e pos) (HK te g):=by
 intro pins s σ H D I h;refine wpAny_Assign_stores (thn (he pins s σ H _ I h) λv s1 ⟨x,H1,I1,r1,q1⟩=>?_) hs hw;rw [h1];exact thn (hg pins s1 σ H1 x v _ I1 r1 q1) λ_ s2 q=>q
theorem ps_set {i:Nat} {x:Str} {e:Expr} {te:TE} {pos':Pos} (hN:X.N.Nodup) (hi:X.N[i]?=some x) (hx:Loc X.env.scope x) (he:PE X e te) (hs:swapsWith e (some (.Name x pos')) pos.line X.env=pure false:=by rfl) (hf:X.fn x=true\/X.env.scope.names.lookup x=some .local:=by first | exact .inl rfl | exact .inr rfl | assumption) :
  PS X (.Assign [.Name x pos'] e pos) (HK te (cR i)):=by
 intro pins s σ H D I h;refine wpAny_Assign_Name (thn (he pins s σ H _ I h) λv s1 ⟨y,H1,I1,r1,q1⟩=>?_) hs;exact kU I1 hN hi hx r1 (λs2 I2=>⟨_,H1,I2,q1⟩) hf
def Jd (i:Nat) (te:TE) (ti:TIp):TS:=λD σ H=>∃ x,σ[i]?=some (some x)/\te σ H λy H1=>ti x y H1 λz H2=>D.nx (σ.set i (some z)) H2
theorem rg {i:Nat} {x:Str} {e:Expr} {te:TE} {op:Operator} {ti:TIp} {pos':Pos} (hN:X.N.Nodup) (hi:X.N[i]?=some x) (hx:Loc X.env.scope x) (he:PE X e te) (ho:PIp X op ti) (hf:X.fn x=true\/X.env.scope.names.lookup x=some .local:=by first | exact .inl rfl | exact .inr rfl | assumption) :
  PS X (.AugAssign (.Name x pos') op e pos) (Jd i te ti):=by
 intro pins s σ H D I h;obtain ⟨v,e1,h⟩:=h;obtain ⟨m,hn,hl⟩:=I.loc;have vis:Vis X.env.scope x:=by rcases hx with k | k;exact .inl k;exact .inr (.inl k)
 obtain ⟨u,r,l⟩:=hl i x v hi e1 vis;refine wpAny_AugAssign_Name ?_;have go:wpAny (model X.prog X.w) X.A (eval e X.env) (λw s₂=>wpAny (model X.prog X.w) X.A (inplaceOp op u w) (λr s₃=>wpAny (model X.prog X.w) X.A (storeName X.env x r) (λ_=>SP X pins D .next) X.xe s₃) X.xe s₂) X.xe s:=by
  refine thn (he pins s σ H _ I h) λw s1 ⟨y,H1,I1,r1,q1⟩=>?_;refine thn (ho pins s1 σ H1 v y u w _ I1 r r1 q1) λz s2 ⟨zv,H2,I2,r2,q2⟩=>?_;exact kU I2 hN hi hx r2 (λs3 I3=>⟨_,H2,I3,q2⟩) hf
 rcases l with ⟨hk,hm⟩ | ⟨hk,c,hc,hcell⟩
 ·exact wpAny_loadName_local I.ok.kind hk hn hm go
 ·rcases hk with hk | hk
  ·exact wpAny_loadName_cell I.ok.kind hk hc hcell go
  ·rcases hx with k | k
   ·have:X.env.scope.names.lookup x=some .free:=hk;rw [k] at this;cases this
   ·have:X.env.scope.names.lookup x=some .free:=hk;rw [k] at this;cases this
def ipI (f:Int->Int->Int):TIp:=λx y H Q=>∃ i j,x=.int i/\y=.int j/\Q (.int (f i j)) H
theorem ip_add:PIp X .Add (ipI λi j=>i+j):=by
 intro pins s σ H x y v u Q I r1 r2 h;obtain ⟨i,j,e1,e2,q⟩:=h;subst e1;subst e2;obtain ⟨t,rfl⟩:=r1;obtain ⟨t',rfl⟩:=r2;exact iadd_int ⟨.int _,H,I.tok _,⟨_,rfl⟩,q⟩
theorem BB:PIp X .Sub (ipI λi j=>i - j):=by
 intro pins s σ H x y v u Q I r1 r2 h;obtain ⟨i,j,e1,e2,q⟩:=h;subst e1;subst e2;obtain ⟨t,rfl⟩:=r1;obtain ⟨t',rfl⟩:=r2;exact isub_int ⟨.int _,H,I.tok _,⟨_,rfl⟩,q⟩
end
section
variable {X:Cx} {pos:Pos}
def BC (c:TT) (tb:TS):TS:=λD σ H=>∃ W:Nat->St->Hp->Prop,(∃ m,W m σ H)/\∀ m σ H,W m σ H ->
 c σ H λb H1=>if b=true then ∃ N:St->Hp->Prop,(∀ σ' H',N σ' H'->∃ m',m' < m/\W m' σ' H')/\tb { D with nx:=N,ct:=N,bk:=D.nx } σ H1 else D.nx σ H1
theorem iJ {c:Expr} {body:List Stmt} {tc:TT} {tb:TS} (hp:PassesOwn (model X.prog X.w) X.A X.env X.xe) (hc:PT X c tc) (hb:PSs X body tb):PS X (.While c body [] pos) (BC tc tb):=by
 intro pins s σ H D I h;obtain ⟨W,⟨m0,w0⟩,turn⟩:=h;refine wpAny_While (codeAny_whileLoop (λn s'=>∃ σ' H',Inv X pins σ' H' s'/\W n σ' H') ?_ m0 ⟨σ,H,I,w0⟩);rintro n s1 ⟨σ1,H1,I1,w1⟩;refine wpAny_passesOwn hp (thn (hc pins s1 σ1 H1 _ I1 (turn n σ1 H1 w1)) λb s2 ⟨H2,I2,q2⟩=>?_)
 cases b with
 | true =>
  obtain ⟨N,hN,q2⟩:=q2;rw [if_pos rfl];refine wpAny_passesOwn hp (thn (hb pins s2 σ1 H2 _ I2 q2) λf s3 q3=>?_)
  cases f with
  | next =>
   obtain ⟨σ3,H3,I3,n3⟩:=q3;obtain ⟨m',hm,w3⟩:=hN σ3 H3 n3;exact ⟨m',hm,σ3,H3,I3,w3⟩
  | cont =>
   obtain ⟨σ3,H3,I3,n3⟩:=q3;obtain ⟨m',hm,w3⟩:=hN σ3 H3 n3;exact ⟨m',hm,σ3,H3,I3,w3⟩
  | brk=>exact q3
  | ret v=>exact q3
 | false =>
  rw [if_neg aAy];exact wpAny_execs_nil ⟨σ1,H2,I2,q2⟩
end
structure It where
 go:Nat->Hp->Prop
 yld:Nat->Hp->V->Hp->Prop
 stop:Nat->Hp->Prop
def iK (X:Cx) (pins:List (Addr×Obj)) (H:Hp) (b:Addr):Prop :=
 H b=none/\b≠X.env.locals/\b∉X.fs/\(b∈X.ex\/X.s₀.heap.objs.size<=b)/\(∀ x c,X.env.cells.lookup x=some c->c≠b)/\∀ p∈X.pn++pins,p.1≠b
theorem Inv.fpOk {X:Cx} {pins:List (Addr×Obj)} {σ:St} {H H':Hp} {s:Shared} {b:Addr} (I:Inv X pins σ H s) (hb:s.heap.objs.size<=b) (hn:H' b=none):iK X pins H' b:=by
 refine ⟨hn,aBK (aAk I.lt hb),I.nofs hb,.inr (aAz I.sz hb),λx c e z=>?_,λp hp z=>?_⟩
 ·obtain ⟨v,q⟩:=I.cell x c e;exact absurd (aAk q.lt (by rw [z];exact hb)) (aAS _)
 ·exact absurd (aAk (aAu (I.pin p hp).1) (by rw [z];exact hb)) (aAS _)
structure Turn (P:Program) (w:World) (K:W.Frag) (tg:Expr) (J:It) (fp:List Addr) (it:Addr) (tn:Nat->Heap->Prop):Prop where
 mem:it∈fp
 obj:∀ i h,tn i h->∀ b∈fp,∃ o,h.get? b=some o/\∀ v,o.data≠.cell v
 keep:∀ i h h',tn i h->(∀ b∈fp,∀ o,h.get? b=some o->h'.get? b=some o)->tn i h'
 item:∀ (X:Cx),X.prog=P->X.w=w->X.K=K->X.calm=true->∀ (i:Nat) (pins:List (Addr×Obj)) (s:Shared) (σ:St) (H:Hp) (E:Value->Shared->Prop),Inv X pins σ H s->(∀ b∈fp,iK X pins H b)->tn i s.heap->J.go i H ->
  wpAny (model P w) X.A (pyNext (.ref it)) (λr s1=>∃ u,r=some u /\
   wpAny (model P w) X.A (letOwnedTupleGo tg (.ref it) u) (λ_ s2=>∃ x H',Inv X pins σ H' s2/\RelV x u/\J.yld i H x H'/\tn (i+1) s2.heap/\∀ b∈fp,H' b=none) E s1) E s
 done:∀ (X:Cx),X.prog=P->X.w=w->X.K=K->X.calm=true->∀ (i:Nat) (pins:List (Addr×Obj)) (s:Shared) (σ:St) (H:Hp) (E:Value->Shared->Prop),Inv X pins σ H s->(∀ b∈fp,iK X pins H b)->tn i s.heap->J.stop i H ->
  wpAny (model P w) X.A (pyNext (.ref it)) (λr s1=>r=none/\Inv X pins σ H s1) E s
 self:∀ (A:Around) (i:Nat) (s:Shared) (Q:Value->Shared->Prop) (E:Value->Shared->Prop),tn i s.heap->Q (.ref it) s->wpAny (model P w) A (pyIter (.ref it)) Q E s
abbrev TI:=St->Hp->(It->Hp->Prop)->Prop
def PIE (X:Cx) (pins:List (Addr×Obj)) (σ:St) (tg:Expr) (R:It->Hp->Prop) (itv:Value) (s2:Shared):Prop :=
 ∃ (it:Addr) (fp:List Addr) (tn:Nat->Heap->Prop) (J:It) (H':Hp),itv=.ref it/\Inv X pins σ H' s2/\Turn X.prog X.w X.K tg J fp it tn/\tn 0 s2.heap/\(∀ b∈fp,iK X pins H' b)/\R J H'
def PI (X:Cx) (tg iter:Expr) (wi:TI):Prop :=
 ∀ (pins:List (Addr×Obj)) (s:Shared) (σ:St) (H:Hp) (R:It->Hp->Prop),Inv X pins σ H s->wi σ H R ->
  wpAny (model X.prog X.w) X.A (eval iter X.env) (λv s1=>wpAny (model X.prog X.w) X.A (pyIter v) (PIE X pins σ tg R) X.xe s1) X.xe s
theorem sL {M:Model} {A:Around} {E:Value->Shared->Prop} {s:Shared} {tg:Expr} {it:Addr} {u:Value} {o:Obj} {n:String} {vs:Array Value} {Q:Unit->Shared->Prop} (ho:s.heap.get? it=some o) (hc:o.cls=.type n) (hd:o.data=.fields vs)
    (hn:["enumerate","zip","dict_itemiterator","dict_reverseitemiterator","odict_iterator","itertools.zip_longest","itertools.pairwise"].contains n=false) (hQ:Q () s):wpAny M A (letOwnedTupleGo tg (.ref it) u) Q E s:=by
  unfold letOwnedTupleGo
  cases tg <;> first
    | exact wpAny_pure hQ
    | (cases u <;> first
        | exact wpAny_pure hQ
        | (refine wpAny_bind (wpAny_load ho ?_)
           rw [hc,hd];show wpAny M A (if (["enumerate","zip","dict_itemiterator","dict_reverseitemiterator","odict_iterator","itertools.zip_longest","itertools.pairwise"].contains n && vs[0]? == some (rawInt _))=true then _ else _) Q E s;rw [if_neg (by intro h;rw [hn,Bool.false_and] at h;cases h)];exact wpAny_pure hQ))
def Itl (K:W.Frag) (a:Addr):It :=
 ⟨λi H=>∃ xs x,SqL K H a xs/\xs[i]?=some x,λi H x H'=>H'=H/\∀ xs,SqL K H a xs->xs[i]?=some x,λi H=>∃ xs,SqL K H a xs/\xs.length<=i⟩
def Itt (K:W.Frag) (a:Addr):It :=
 ⟨λi H=>∃ xs x,SqT K H a xs/\xs[i]?=some x,λi H x H'=>H'=H/\∀ xs,SqT K H a xs->xs[i]?=some x,λi H=>∃ xs,SqT K H a xs/\xs.length<=i⟩
def Itr (lo:Int) (n:Nat):It:=⟨λi _=>i < n,λi H x H'=>H'=H/\x=.int (lo+i),λi _=>n<=i⟩
theorem uv {P:Program} {w:World} {K:W.Frag} {tg:Expr} (a it:Addr):Turn P w K tg (Itl K a) [it] it (λi h=>h.IsListIter it a i) where
 mem:=by simp
 obj:=λi h st b hb=>by
  have e:b=it:=by simpa using hb
  subst e;obtain ⟨o,e,c,d⟩:=st;exact ⟨o,e,λv z=>by rw [d] at z;cases z⟩
 keep:=λi h h' st k=>st.at λo e=>k it (by simp) o e
 item:=by
  intro X hP hw hK hc i pins s σ H E I hf st hg;subst hP hw hK;obtain ⟨xs,x,hq,hx⟩:=hg;obtain ⟨its,rv,p,hz⟩:=I.list hq;obtain ⟨u,hu,ru⟩:=rv.get hx;obtain ⟨f0,f1,f2,f3,f4,f5⟩:=hf it (by simp);refine wpAny_pyNext_list_item st p.isList (x:=u) (by simpa using hu) λh' st' sb=>?_;have I1:Inv X pins σ H { s with heap:=h' }:=I.turned (t':=s.toks) (λb o hb e=>(sb.2 b hb).trans e) f0 f1 f3 f4 f5;obtain ⟨o,e,c,d⟩:=id st';exact ⟨u,rfl,sL (s:={ s with heap:=h' }) e c d (by decide) ⟨x,H,I1,ru,⟨rfl,λys hy=>by rw [I.list_inj hy hq];exact hx⟩,st',λb hb=>(hf b hb).1⟩⟩
 done:=by
  intro X hP hw hK hc i pins s σ H E I hf st hg;subst hP hw hK;obtain ⟨xs,hq,hx⟩:=hg;obtain ⟨its,rv,p,hz⟩:=I.list hq;obtain ⟨f0,f1,f2,f3,f4,f5⟩:=hf it (by simp);have hl:=rv.length;exact wpAny_pyNext_list_end (I.ok.hd hc) st p.isList (by simp;lia) λh' eb=>⟨rfl,I.turned (t':=s.toks) (λb o hb e=>eb b o hb e) f0 f1 f3 f4 f5⟩
 self:=λ_ _ _ _ _ st h=>wpAny_pyIter_listiter st h
theorem rh {P:Program} {w:World} {K:W.Frag} {tg:Expr} (a it:Addr):Turn P w K tg (Itt K a) [it] it (λi h=>h.IsTupleIter it a i) where
 mem:=by simp
 obj:=λi h st b hb=>by
  have e:b=it:=by simpa using hb
  subst e;obtain ⟨o,e,c,d⟩:=st;exact ⟨o,e,λv z=>by rw [d] at z;cases z⟩
 keep:=λi h h' st k=>st.at λo e=>k it (by simp) o e
 item:=by
  intro X hP hw hK hc i pins s σ H E I hf st hg;subst hP hw hK;obtain ⟨xs,x,hq,hx⟩:=hg;obtain ⟨its,rv,p,hz⟩:=I.tuple hq;obtain ⟨u,hu,ru⟩:=rv.get hx;obtain ⟨f0,f1,f2,f3,f4,f5⟩:=hf it (by simp);refine wpAny_pyNext_tuple_item st (show s.heap.IsTuple a its.toArray from p) (x:=u) (by simpa using hu) λh' st' sb=>?_;have I1:Inv X pins σ H { s with heap:=h' }:=I.turned (t':=s.toks) (λb o hb e=>(sb.2 b hb).trans e) f0 f1 f3 f4 f5;obtain ⟨o,e,c,d⟩:=id st';exact ⟨u,rfl,sL (s:={ s with heap:=h' }) e c d (by decide) ⟨x,H,I1,ru,⟨rfl,λys hy=>by rw [I.tuple_inj hy hq];exact hx⟩,st',λb hb=>(hf b hb).1⟩⟩
 done:=by
  intro X hP hw hK hc i pins s σ H E I hf st hg;subst hP hw hK;obtain ⟨xs,hq,hx⟩:=hg;obtain ⟨its,rv,p,hz⟩:=I.tuple hq;obtain ⟨f0,f1,f2,f3,f4,f5⟩:=hf it (by simp);have hl:=rv.length;exact wpAny_pyNext_tuple_end (I.ok.hd hc) st (show s.heap.IsTuple a its.toArray from p) (by simp;lia) λh' eb=>⟨rfl,I.turned (t':=s.toks) (λb o hb e=>eb b o hb e) f0 f1 f3 f4 f5⟩
 self:=λ_ _ _ _ _ st h=>wpAny_pyIter_tupleiter st h
theorem rj {P:Program} {w:World} {K:W.Frag} {tg:Expr} (it:Addr) (lo:Int) (n:Nat):Turn P w K tg (Itr lo n) [it] it (λi h=>IsRangeIter h it (lo+(i:Nat)*1) ((n:Int) - (i:Nat)) 1) where
 mem:=by simp
 obj:=λi h st b hb=>by
  have e:b=it:=by simpa using hb
  subst e;exact ⟨_,st,λv z=>by
   have z':Data.fields _=Data.cell v:=z
   cases z'⟩
 keep:=λi h h' st k=>k it (by simp) _ st
 item:=by
  intro X hP hw hK hc i pins s σ H E I hf st hg;subst hP hw hK;obtain ⟨f0,f1,f2,f3,f4,f5⟩:=hf it (by simp);have W:=Walks.range (prog:=X.prog) (w:=X.w) (I.ok.hd hc) it lo 1 n;refine W.item i s _ _ hg st λv h' tk hv st' kk=>?_;obtain ⟨t,rfl⟩:=hv;have I1:Inv X pins σ H { s with heap:=h',toks:=tk }:=I.turned (λb o hb e=>kk b o (by simpa using hb) e) f0 f1 f3 f4 f5;refine ⟨_,rfl,sL (s:={ s with heap:=h',toks:=tk }) (n:= "range_iterator") st' rfl rfl (by decide) ⟨.int (lo+i),H,I1,⟨t,?_⟩,⟨rfl,rfl⟩,st',λb hb=>(hf b hb).1⟩⟩;rw [Int.mul_one]
 done:=by
  intro X hP hw hK hc i pins s σ H E I hf st hg;subst hP hw hK;obtain ⟨f0,f1,f2,f3,f4,f5⟩:=hf it (by simp);exact wpAny_pyNext_range_end (I.ok.hd hc) st (by have:n<=i:=hg;lia) λh' eb=>⟨rfl,I.turned (t':=s.toks) (λb o hb e=>eb b o hb e) f0 f1 f3 f4 f5⟩
 self:=λ_ _ _ _ _ st h=>wpAny_pyIter_rangeiter st h
section
variable {X:Cx} {tg:Expr}
def yK (K:W.Frag) (tl:TE):TI:=λσ H R=>tl σ H λx H1=>∃ a,x=.ref a/\(∃ xs,SqL K H1 a xs)/\R (Itl K a) H1
def HL (K:W.Frag) (tl:TE):TI:=λσ H R=>tl σ H λx H1=>∃ a,x=.ref a/\(∃ xs,SqT K H1 a xs)/\R (Itt K a) H1
theorem xJ {l:Expr} {tl:TE} (hl:PE X l tl):PI X tg l (yK X.K tl):=by
 intro pins s σ H R I h;refine thn (hl pins s σ H _ I h) λv s1 ⟨x,H1,I1,r1,q1⟩=>?_;obtain ⟨a,e,⟨xs,hq⟩,q⟩:=q1;subst e
 cases r1
 obtain ⟨its,rv,p,hz⟩:=I1.list hq;refine wpAny_pyIter_list p.isList ?_;refine ⟨s1.heap.objs.size,[s1.heap.objs.size],_,_,H1,rfl,I1.kept (t':=s1.toks) λb o e=>aAe _ e,uv a _,⟨_,aAA _ rfl,rfl,rfl⟩,λb hb=>?_,q⟩;have e:b=s1.heap.objs.size:=by simpa using hb
 subst e;exact I1.fpOk (aAo _) (I1.hok.fresh (aAo _))
theorem BE {l:Expr} {tl:TE} (hl:PE X l tl):PI X tg l (HL X.K tl):=by
 intro pins s σ H R I h;refine thn (hl pins s σ H _ I h) λv s1 ⟨x,H1,I1,r1,q1⟩=>?_;obtain ⟨a,e,⟨xs,hq⟩,q⟩:=q1;subst e
 cases r1
 obtain ⟨its,rv,p,hz⟩:=I1.tuple hq;refine wpAny_pyIter_tuple (show s1.heap.IsTuple a its.toArray from p) ?_;refine ⟨s1.heap.objs.size,[s1.heap.objs.size],_,_,H1,rfl,I1.kept (t':=s1.toks) λb o e=>aAe _ e,rh a _,⟨_,aAA _ rfl,rfl,rfl⟩,λb hb=>?_,q⟩;have e:b=s1.heap.objs.size:=by simpa using hb
 subst e;exact I1.fpOk (aAo _) (I1.hok.fresh (aAo _))
theorem pR {pins:List (Addr×Obj)} {σ:St} {H:Hp} {s:Shared} {R:It->Hp->Prop} {E:Value->Shared->Prop} {lo hi:Int} {t u v:Tok} {tk:Nat} (I:Inv X pins σ H s) (h1:-(2 ^ 62)<=lo) (h2:lo < 2 ^ 62) (h3:-(2 ^ 62)<=hi) (h4:hi < 2 ^ 62)
  (q:R (Itr lo (hi - lo).toNat) H):wpAny (model X.prog X.w) X.A (pyIter (.ref s.heap.objs.size)) (PIE X pins σ tg R) E { s with heap:=s.heap.push { cls:=.type "range",data:=.fields #[.int lo t,.int hi u,.int 1 v] },toks:=tk }:=by
 refine wpAny_pyIter_range (IsRange.new ..) (small_one h1 h2 h3 h4) ?_;have I1:Inv X pins σ H { s with heap:=s.heap.push { cls:=.type "range",data:=.fields #[.int lo t,.int hi u,.int 1 v] },toks:=tk }:=I.kept λb o e=>aAe _ e;refine ⟨(s.heap.push { cls:=.type "range",data:=.fields #[.int lo t,.int hi u,.int 1 v] }).objs.size,[(s.heap.push { cls:=.type "range",data:=.fields #[.int lo t,.int hi u,.int 1 v] }).objs.size],_,_,H,rfl,
  I1.kept (t':=tk) λb o e=>aAe _ e,rj _ lo (hi - lo).toNat,?_,λb hb=>?_,q⟩
 ·have e1:lo+((0:Nat):Int)*1=lo:=by simp
  have e2:(((hi - lo).toNat:Nat):Int) - ((0:Nat):Int)=Builtin.Range.rangeSize lo hi 1:=by rw [rangeSize_one];split <;> lia
  show IsRangeIter _ _ (lo+((0:Nat):Int)*1) ((((hi - lo).toNat:Nat):Int) - ((0:Nat):Int)) 1;rw [e1,e2];exact aAA _ rfl
 ·have e:b=(s.heap.push { cls:=.type "range",data:=.fields #[.int lo t,.int hi u,.int 1 v] }).objs.size:=by simpa using hb
  subst e;exact I1.fpOk (aAo _) (I1.hok.fresh (aAo _))
def HM (ta:TA):TI:=λσ H R=>ta σ H λvs H1=>∃ j:Int,vs=[.int j]/\-(2 ^ 62)<=j/\j < 2 ^ 62/\R (Itr 0 j.toNat) H1
def HN (ta:TA):TI:=λσ H R=>ta σ H λvs H1=>∃ i j:Int,vs=[.int i,.int j]/\(-(2 ^ 62)<=i/\i < 2 ^ 62/\-(2 ^ 62)<=j/\j < 2 ^ 62)/\R (Itr i (j - i).toNat) H1
theorem bf {a:Expr} {ta:TA} {p pos:Pos} (hg:Gl X "range") (hm:X.mg "range" = none) (ha:PA X [a] ta) (hs:starEach [a] X.env=[(false,eval a X.env)]:=by rfl):PI X tg (.Call (.Name "range" p) [a] [] pos) (HM ta):=by
 intro pins s σ H R I h;refine Call_ (jw I hg hm boot_range (PyProof.Rows.callWith_type1 (thn (ha pos pins s σ H _ I h) λus s1 ⟨vs,H1,I1,r1,q1⟩=>?_) hs rfl));obtain ⟨j,e,q1,q2,q⟩:=q1;subst e
 cases r1 with
 | cons r rr =>
  cases rr
  obtain ⟨t,rfl⟩:=r;exact call_range_1 (pR I1 (3) (3) q1 q2 (by simpa using q))
theorem uw {a b:Expr} {ta:TA} {p pos:Pos} (hg:Gl X "range") (hm:X.mg "range" = none) (ha:PA X [a,b] ta) (hs:starEach [a,b] X.env=[(false,eval a X.env),(false,eval b X.env)]:=by rfl) (hs2:starEach [b] X.env=[(false,eval b X.env)]:=by rfl) :
  PI X tg (.Call (.Name "range" p) [a,b] [] pos) (HN ta):=by
 intro pins s σ H R I h;refine Call_ (jw I hg hm boot_range (PyProof.Rows.callWith_type1 (thn (ha pos pins s σ H _ I h) λus s1 ⟨vs,H1,I1,r1,q1⟩=>?_) (by rw [hs,hs2]) (by rw [hs2];rfl)));obtain ⟨i,j,e,⟨q1,q2,q3,q4⟩,q⟩:=q1;subst e
 cases r1 with
 | cons r rr =>
  cases rr with
  | cons r' rr =>
   cases rr
   obtain ⟨t,rfl⟩:=r;obtain ⟨t',rfl⟩:=r';exact call_range_2 (pR I1 q1 q2 q3 q4 q)
def tFor (wi:TI) (g:TG) (tb:TS):TS:=λD σ H=>wi σ H λJ H1=>∃ W:Nat->Nat->St->Hp->Prop,(∃ m,W 0 m σ H1)/\∀ i m σ H,W i m σ H ->
 (J.stop i H/\D.nx σ H)\/(J.go i H/\∃ N:St->Hp->Prop,(∀ σ' H',N σ' H'->∃ m',m' < m/\W (i+1) m' σ' H')/\∀ x H',J.yld i H x H'->g x σ H' λσ2 H2=>tb { D with nx:=N,ct:=N,bk:=D.nx } σ2 H2)
def nV (fp:List Addr) (h:Heap):List (Addr×Obj):=fp.filterMap λb=>(h.get? b).map λo=>(b,o)
theorem fi {fp:List Addr} {h:Heap} {b:Addr} {o:Obj} (hb:b∈fp) (e:h.get? b=some o):(b,o)∈nV fp h:=aAL.mpr ⟨b,hb,by rw [e];rfl⟩
theorem ux {fp:List Addr} {h:Heap} {p:Addr×Obj} (hp:p∈nV fp h):p.1∈fp/\h.get? p.1=some p.2:=by
 obtain ⟨b,hb,e⟩:=aAL.mp hp
 cases q:h.get? b with
 | none=>rw [q] at e;cases e
 | some o =>
  rw [q] at e;have e':(b,o)=p:=Option.some.inj e;subst e';exact ⟨hb,q⟩
theorem Inv.pinned {pins:List (Addr×Obj)} {σ:St} {H:Hp} {s:Shared} {fp:List Addr} (I:Inv X pins σ H s) (hf:∀ b∈fp,iK X pins H b) (ho:∀ b∈fp,∃ o,s.heap.get? b=some o/\∀ v,o.data≠.cell v):Inv X (pins++nV fp s.heap) σ H s :=
 I.pins_of λp hp=>(aAG.mp hp).elim (λz=>I.pin p (aAN _ z)) λz=>by
  obtain ⟨hb,e⟩:=ux z;obtain ⟨f0,f1,f2,_⟩:=hf p.1 hb;obtain ⟨o,e',d⟩:=ho p.1 hb;rw [e] at e';cases e';exact ⟨e,f0,f1,f2,d⟩
theorem Inv.unpinned {pins pl:List (Addr×Obj)} {σ:St} {H:Hp} {s:Shared} (I:Inv X (pins++pl) σ H s):Inv X pins σ H s:=I.pins_of λp hp=>I.pin p (aAN _ (List.mem_append_left _ hp))
theorem ps_for {iter:Expr} {body:List Stmt} {wi:TI} {g:TG} {tb:TS} {pos:Pos} (hp:PassesOwn (model X.prog X.w) X.A X.env X.xe) (hc:X.calm=true) (hi:PI X tg iter wi) (hg:PG X tg g) (hb:PSs X body tb)
  (hs:∀ x,foldedSetIterable iter X.env x=pure x:=by intro _;rfl):PS X (.For tg iter body [] pos) (tFor wi g tb):=by
 intro pins s σ H D I h;refine wpAny_For (thn (hi pins s σ H _ I h) λv s1 h1=>thn h1 λitv s2 h2=>?_) hs;obtain ⟨it,fp,tn,J,H2,e,I2,T,st2,f2,W,⟨m0,w0⟩,turn⟩:=h2;subst e;have stat:∀ {H':Hp},(∀ b∈fp,H' b=none)->∀ b∈fp,iK X pins H' b:=λhn b hb=>⟨hn b hb,(f2 b hb).2⟩;refine codeAny_forLoop_any (λn s'=>∃ i σ' H',Inv X pins σ' H' s'/\tn i s'.heap/\(∀ b∈fp,H' b=none)/\W i n σ' H') ?_ m0 ⟨0,σ,H2,I2,st2,λb hb=>(f2 b hb).1,w0⟩;rintro n s3 ⟨i,σ3,H3,I3,st3,fr3,w3⟩;rcases turn i n σ3 H3 w3 with ⟨stop,qn⟩ | ⟨go,N,hN,step⟩
 ·refine wpAny_passesOwn hp (thn (T.done X rfl rfl rfl hc i pins s3 σ3 H3 X.xe I3 (stat fr3) st3 stop) λr s4 ⟨hr,I4⟩=>?_);subst hr;exact wpAny_execs_nil ⟨σ3,H3,I4,qn⟩
 ·refine wpAny_passesOwn hp (thn (T.item X rfl rfl rfl hc i pins s3 σ3 H3 X.xe I3 (stat fr3) st3 go) λr s4 ⟨u,hr,h4⟩=>?_);subst hr;refine wpAny_passesOwn hp (thn h4 λ_ s5 ⟨x,H5,I5,r5,y5,st5,fr5⟩=>?_);have I5':=I5.pinned (stat fr5) (T.obj _ _ st5);refine wpAny_passesOwn hp (thn (hg _ s5 σ3 H5 x u _ I5' r5 (step x H5 y5)) λ_ s6 ⟨σ6,H6,I6,q6⟩=>?_);refine wpAny_passesOwn hp (thn (hb _ s6 σ6 H6 _ I6 q6) λf s7 q7=>?_);have again:∀ {σ7:St} {H7:Hp},Inv X (pins++nV fp s5.heap) σ7 H7 s7->N σ7 H7->∃ m,m < n/\∃ i σ' H',Inv X pins σ' H' s7/\tn i s7.heap/\(∀ b∈fp,H' b=none)/\W i m σ' H':=λ{σ7 H7} I7 n7=>by
   obtain ⟨m',hm,w7⟩:=hN σ7 H7 n7;refine ⟨m',hm,i+1,σ7,H7,I7.unpinned,T.keep _ _ _ st5 λb hb o e=>(I7.pin (b,o) (aAN _ (aAN _ (fi hb e)))).1,λb hb=>?_,w7⟩;obtain ⟨o,e,d⟩:=T.obj _ _ st5 b hb;exact (I7.pin (b,o) (aAN _ (aAN _ (fi hb e)))).2.1
  cases f with
  | next=>obtain ⟨σ7,H7,I7,n7⟩:=q7;exact again I7 n7
  | cont=>obtain ⟨σ7,H7,I7,n7⟩:=q7;exact again I7 n7
  | brk=>obtain ⟨σ7,H7,I7,q7⟩:=q7;exact ⟨σ7,H7,I7.unpinned,q7⟩
  | ret v=>obtain ⟨x7,σ7,H7,I7,r7,q7⟩:=q7;exact ⟨x7,σ7,H7,I7.unpinned,r7,q7⟩
end
theorem kX {K:W.Frag} {a:Addr} {xs:List V} {g:TG} {tb:TS} {D:Ends} {σ:St} {H:Hp} (Pv:Nat->St->Hp->Prop) (h0:Pv 0 σ H) (hl:∀ i σ H,i<=xs.length->Pv i σ H->SqL K H a xs)
  (hs:∀ i x σ H,xs[i]?=some x->Pv i σ H->g x σ H λσ2 H2=>tb { D with nx:=Pv (i+1),ct:=Pv (i+1),bk:=D.nx } σ2 H2) (hd:∀ σ H,Pv xs.length σ H->D.nx σ H) :
  ∃ W:Nat->Nat->St->Hp->Prop,(∃ m,W 0 m σ H)/\∀ i m σ H,W i m σ H ->
   ((Itl K a).stop i H/\D.nx σ H)\/((Itl K a).go i H/\∃ N:St->Hp->Prop,(∀ σ' H',N σ' H'->∃ m',m' < m/\W (i+1) m' σ' H')/\∀ x H',(Itl K a).yld i H x H'->g x σ H' λσ2 H2=>tb { D with nx:=N,ct:=N,bk:=D.nx } σ2 H2):=by
 refine ⟨λi m σ H=>m=xs.length - i/\i<=xs.length/\Pv i σ H,⟨xs.length,by simp,aAE _,h0⟩,?_⟩;rintro i m σ H ⟨rfl,hi,p⟩;have q:=hl i σ H hi p
 by_cases hlt:i < xs.length
 ·refine .inr ⟨⟨xs,xs[i],q,by simp [hlt]⟩,Pv (i+1),λσ' H' p'=>⟨xs.length - (i+1),(3),rfl,hlt,p'⟩,λx H' y=>?_⟩;obtain ⟨e,y⟩:=y;subst e;exact hs i x σ _ (y xs q) p
 ·have e:i=xs.length:=(3)
  subst e;exact .inl ⟨⟨xs,q,aAo _⟩,hd σ H p⟩
theorem cQ {K:W.Frag} {a:Addr} {xs:List V} {g:TG} {tb:TS} {D:Ends} {σ:St} {H:Hp} (Pv:Nat->St->Hp->Prop) (h0:Pv 0 σ H) (hl:∀ i σ H,i<=xs.length->Pv i σ H->SqT K H a xs)
  (hs:∀ i x σ H,xs[i]?=some x->Pv i σ H->g x σ H λσ2 H2=>tb { D with nx:=Pv (i+1),ct:=Pv (i+1),bk:=D.nx } σ2 H2) (hd:∀ σ H,Pv xs.length σ H->D.nx σ H) :
  ∃ W:Nat->Nat->St->Hp->Prop,(∃ m,W 0 m σ H)/\∀ i m σ H,W i m σ H ->
   ((Itt K a).stop i H/\D.nx σ H)\/((Itt K a).go i H/\∃ N:St->Hp->Prop,(∀ σ' H',N σ' H'->∃ m',m' < m/\W (i+1) m' σ' H')/\∀ x H',(Itt K a).yld i H x H'->g x σ H' λσ2 H2=>tb { D with nx:=N,ct:=N,bk:=D.nx } σ2 H2):=by
 refine ⟨λi m σ H=>m=xs.length - i/\i<=xs.length/\Pv i σ H,⟨xs.length,by simp,aAE _,h0⟩,?_⟩;rintro i m σ H ⟨rfl,hi,p⟩;have q:=hl i σ H hi p
 by_cases hlt:i < xs.length
 ·refine .inr ⟨⟨xs,xs[i],q,by simp [hlt]⟩,Pv (i+1),λσ' H' p'=>⟨xs.length - (i+1),(3),rfl,hlt,p'⟩,λx H' y=>?_⟩;obtain ⟨e,y⟩:=y;subst e;exact hs i x σ _ (y xs q) p
 ·have e:i=xs.length:=(3)
  subst e;exact .inl ⟨⟨xs,q,aAo _⟩,hd σ H p⟩
theorem gT {lo:Int} {n:Nat} {g:TG} {tb:TS} {D:Ends} {σ:St} {H:Hp} (Pv:Nat->St->Hp->Prop) (h0:Pv 0 σ H)
  (hs:∀ i σ H,i < n->Pv i σ H->g (.int (lo+i)) σ H λσ2 H2=>tb { D with nx:=Pv (i+1),ct:=Pv (i+1),bk:=D.nx } σ2 H2) (hd:∀ σ H,Pv n σ H->D.nx σ H) :
  ∃ W:Nat->Nat->St->Hp->Prop,(∃ m,W 0 m σ H)/\∀ i m σ H,W i m σ H ->
   ((Itr lo n).stop i H/\D.nx σ H)\/((Itr lo n).go i H/\∃ N:St->Hp->Prop,(∀ σ' H',N σ' H'->∃ m',m' < m/\W (i+1) m' σ' H')/\∀ x H',(Itr lo n).yld i H x H'->g x σ H' λσ2 H2=>tb { D with nx:=N,ct:=N,bk:=D.nx } σ2 H2):=by
 refine ⟨λi m σ H=>m=n - i/\i<=n/\Pv i σ H,⟨n,by simp,aAE _,h0⟩,?_⟩;rintro i m σ H ⟨rfl,hi,p⟩
 by_cases hlt:i < n
 ·refine .inr ⟨hlt,Pv (i+1),λσ' H' p'=>⟨n - (i+1),(3),rfl,hlt,p'⟩,λx H' y=>?_⟩;obtain ⟨e,y⟩:=y;subst e y;exact hs i σ _ hlt p
 ·have e:i=n:=(3)
  subst e;exact .inl ⟨aAo _,hd σ H p⟩
abbrev R2:=V->V->Hp->VK->Prop
def OpR (X:Cx) (f:Value->Value->Sem Value) (r:R2):Prop :=
 ∀ (pins:List (Addr×Obj)) (s:Shared) (σ:St) (H:Hp) (x y:V) (v u:Value) (Q:VK),Inv X pins σ H s->RelV x v->RelV y u->r x y H Q ->
  wpAny (model X.prog X.w) X.A (f v u) (EP X pins σ Q) X.xe s
def UnR (X:Cx) (f:Value->Sem Value) (r:V->Hp->VK->Prop):Prop :=
 ∀ (pins:List (Addr×Obj)) (s:Shared) (σ:St) (H:Hp) (x:V) (v:Value) (Q:VK),Inv X pins σ H s->RelV x v->r x H Q ->
  wpAny (model X.prog X.w) X.A (f v) (EP X pins σ Q) X.xe s
def bJ (X:Cx) (f:Value) (r:List V->Hp->VK->Prop):Prop :=
 ∀ (pins:List (Addr×Obj)) (s:Shared) (σ:St) (H:Hp) (xs:List V) (us:List Value) (Q:VK),Inv X pins σ H s->Vals xs us->r xs H Q ->
  wpAny (model X.prog X.w) X.A (call f us) (EP X pins σ Q) X.xe s
def tOp (r:R2) (ta tb:TE):TE:=λσ H Q=>ta σ H λx H1=>tb σ H1 λy H2=>r x y H2 Q
def tUn (r:V->Hp->VK->Prop) (ta:TE):TE:=λσ H Q=>ta σ H λx H1=>r x H1 Q
inductive IRI (C:Int->Int->Prop) (g:Int->Int->V) (x y:V) (H:Hp) (Q:VK):Prop
 | mk (i j:Int):(x=.int i)->(y=.int j)->(C i j)->(Q (g i j) H)->IRI C g x y H Q
def rI (C:Int->Int->Prop) (g:Int->Int->V):R2:=λx y H Q=>IRI C g x y H Q
inductive IRI0 (g:Int->Int->V) (x y:V) (H:Hp) (Q:VK):Prop
 | mk (i j:Int):(x=.int i)->(y=.int j)->(Q (g i j) H)->IRI0 g x y H Q
def rI0 (g:Int->Int->V):R2:=λx y H Q=>IRI0 g x y H Q
def rU (g:Int->V):V->Hp->VK->Prop:=λx H Q=>∃ i,x=.int i/\Q (g i) H
section
variable {X:Cx} {a b c:Expr} {ta tb tc:TE} {pos:Pos}
theorem BF (ha:PE X a ta) (hb:PE X b tb) {pins:List (Addr×Obj)} {s:Shared} {σ:St} {H:Hp} {R:V->V->Hp->Prop} (I:Inv X pins σ H s)
  (h:ta σ H λx H1=>tb σ H1 λy H2=>R x y H2) {Q:Value->Shared->Prop} {f:Value->Value->Sem Value}
  (hf:∀ v u s2 x y H2,Inv X pins σ H2 s2->RelV x v->RelV y u->R x y H2->wpAny (model X.prog X.w) X.A (f v u) Q X.xe s2) :
  wpAny (model X.prog X.w) X.A (eval a X.env) (λv s₁=>wpAny (model X.prog X.w) X.A (eval b X.env) (λu s₂=>wpAny (model X.prog X.w) X.A (f v u) Q X.xe s₂) X.xe s₁) X.xe s:=by
 refine thn (ha pins s σ H _ I h) λv s1 ⟨x,H1,I1,r1,q1⟩=>?_;refine thn (hb pins s1 σ H1 _ I1 q1) λu s2 ⟨y,H2,I2,r2,q2⟩=>?_;exact hf v u s2 x y H2 I2 r1 r2 q2
theorem pe_op {op:Operator} {r:R2} (ho:OpR X (binaryOp op) r) (ha:PE X a ta) (hb:PE X b tb):PE X (.BinOp a op b pos) (tOp r ta tb):=by
 intro pins s σ H Q I h;exact wpAny_BinOp (BF ha hb I h λv u s2 x y H2 I2 rx ry q=>ho pins s2 σ H2 x y v u Q I2 rx ry q)
theorem pe_un {op:UnaryOp} {r:V->Hp->VK->Prop} (ho:UnR X (unaryOp op) r) (ha:PE X a ta):PE X (.UnaryOp op a pos) (tUn r ta):=by
 intro pins s σ H Q I h;exact UnaryOp_ (thn (ha pins s σ H _ I h) λv s1 ⟨x,H1,I1,r1,q1⟩=>ho pins s1 σ H1 x v Q I1 r1 q1)
theorem opI {f:Value->Value->Sem Value} {C:Int->Int->Prop} {g:Int->Int->Int}
  (rule:∀ (i j:Int) (t u:Tok) (s:Shared) (Q:Value->Shared->Prop) (E:Value->Shared->Prop),C i j->Q (.int (g i j) s.toks) { s with toks:=s.toks+1 }->wpAny (model X.prog X.w) X.A (f (.int i t) (.int j u)) Q E s) :
  OpR X f (rI C λi j=>.int (g i j)):=by
 intro pins s σ H x y v u Q I rx ry h;obtain ⟨i,j,rfl,rfl,hc,q⟩:=h;obtain ⟨t,rfl⟩:=rx;obtain ⟨t',rfl⟩:=ry;exact rule i j t t' s _ _ hc ⟨.int (g i j),H,I.tok _,⟨_,rfl⟩,q⟩
theorem HP {f:Value->Value->Sem Value} {g:Int->Int->Int}
  (rule:∀ (i j:Int) (t u:Tok) (s:Shared) (Q:Value->Shared->Prop) (E:Value->Shared->Prop),Q (.int (g i j) s.toks) { s with toks:=s.toks+1 }->wpAny (model X.prog X.w) X.A (f (.int i t) (.int j u)) Q E s) :
  OpR X f (rI0 λi j=>.int (g i j)):=by
 intro pins s σ H x y v u Q I rx ry h;obtain ⟨i,j,rfl,rfl,q⟩:=h;obtain ⟨t,rfl⟩:=rx;obtain ⟨t',rfl⟩:=ry;exact rule i j t t' s _ _ ⟨.int (g i j),H,I.tok _,⟨_,rfl⟩,q⟩
theorem xK {f:Value->Value->Sem Value} {g:Int->Int->Bool}
  (rule:∀ (i j:Int) (t u:Tok) (s:Shared) (Q:Value->Shared->Prop) (E:Value->Shared->Prop),Q (.bool (g i j)) s->wpAny (model X.prog X.w) X.A (f (.int i t) (.int j u)) Q E s) :
  OpR X f (rI0 λi j=>.bl (g i j)):=by
 intro pins s σ H x y v u Q I rx ry h;obtain ⟨i,j,rfl,rfl,q⟩:=h;obtain ⟨t,rfl⟩:=rx;obtain ⟨t',rfl⟩:=ry;exact rule i j t t' s _ _ ⟨.bl (g i j),H,I,rfl,q⟩
def Je (i j:Int):Prop:=0<=j/\j<=1000000/\i.natAbs < 2 ^ 64
def CMul (i j:Int):Prop:=(-(2 ^ 64) < i/\i < 2 ^ 64)\/(-(2 ^ 64) < j/\j < 2 ^ 64)
theorem CMul.ok {i j:Int} (h:CMul i j):IntMulOk i j:=by
 rcases h with ⟨h1,h2⟩ | ⟨h1,h2⟩
 ·exact .of_left (intBits_le_64 h1 h2)
 ·exact .of_right (intBits_le_64 h1 h2)
theorem aZ:OpR X (binaryOp .Add) (rI0 λi j=>.int (i+j)):=HP λ_ _ _ _ _ _ _ q=>add_int q
theorem cc:OpR X (binaryOp .Sub) (rI0 λi j=>.int (i - j)):=HP λ_ _ _ _ _ _ _ q=>sub_int q
theorem fZ:OpR X (binaryOp .Mult) (rI CMul λi j=>.int (i*j)):=opI λ_ _ _ _ _ _ _ hc q=>mul_int q hc.ok
theorem dO:OpR X (binaryOp .Mod) (rI (λ_ j=>0 < j) λi j=>.int (i % j)):=opI λi j _ _ _ _ _ hc q=>by
 have h1:(0:Int) < j:=hc;exact mod_int' (3) (by rw [Int.fmod_eq_emod_of_nonneg i (3)];exact q)
theorem eK:OpR X (binaryOp .Pow) (rI Je λi j=>.int (i ^ j.toNat)):=opI λ_ _ _ _ _ _ _ hc q=>pow_int_small hc.1 hc.2.1 hc.2.2 q
theorem unI {f:Value->Sem Value} {g:Int->Int}
  (rule:∀ (i:Int) (t:Tok) (s:Shared) (Q:Value->Shared->Prop) (E:Value->Shared->Prop),Q (.int (g i) s.toks) { s with toks:=s.toks+1 }->wpAny (model X.prog X.w) X.A (f (.int i t)) Q E s) :
  UnR X f (rU λi=>.int (g i)):=by
 intro pins s σ H x v Q I rx h;obtain ⟨i,rfl,q⟩:=h;obtain ⟨t,rfl⟩:=rx;exact rule i t s _ _ ⟨.int (g i),H,I.tok _,⟨_,rfl⟩,q⟩
theorem un_neg:UnR X (unaryOp .USub) (rU λi=>.int (-i)):=unI λ_ _ _ _ _ q=>neg_int q
end
def HQ:V->V->Bool
 | .non,.non=>true | .non,.int _=>true | .int _,.non=>true | .non,.bl _=>true | .bl _,.non=>true | .non,.str _=>true | .str _,.non=>true
 | .int _,.int _=>true | .bl _,.bl _=>true | .str _,.str _=>true | .byt _,.byt _=>true
 | .int _,.str _=>true | .str _,.int _=>true | .bl _,.str _=>true | .str _,.bl _=>true
 | _,_=>false
def rEq:R2:=λx y H Q=>HQ x y=true/\Q (.bl (decide (x=y))) H
def rNe:R2:=λx y H Q=>HQ x y=true/\Q (.bl (!decide (x=y))) H
theorem sM {i j:Int}:decide (V.int i=V.int j)=(i == j):=by
 rw [aA1];simp
theorem vx {i j:Bool}:decide (V.bl i=V.bl j)=(i == j):=by
 rw [aA1];simp
theorem sN {i j:Str}:decide (V.str i=V.str j)=(i == j):=by
 rw [aA1];simp
theorem sO {i j:Array UInt8}:decide (V.byt i=V.byt j)=(i.toList == j.toList):=by
 rw [aA1]
 cases i
 cases j
 simp
section
variable {X:Cx} {a b c:Expr} {ta tb tc:TE} {pos:Pos}
theorem aL {pins:List (Addr×Obj)} {σ:St} {H:Hp} {s:Shared} {Q:VK} {k k':Bool} (I:Inv X pins σ H s) (q:Q (.bl k) H) (e:k=k'):EP X pins σ Q (.bool k') s:=by
 subst e;exact ⟨.bl k,H,I,rfl,q⟩
theorem op_eq:OpR X (compareOp .Eq) rEq:=by
 intro pins s σ H x y v u Q I rx ry h;obtain ⟨hs,q⟩:=h
 cases x with
 | non =>
  cases rx
  cases y with
  | non=>cases ry;exact PySem.EqNone.eq_none_none (aL I q (by simp))
  | bl j=>cases ry;exact PySem.EqNone.eq_none_bool (aL I q (by simp))
  | int j=>obtain ⟨t',rfl⟩:=ry;exact PySem.EqNone.eq_none_int (aL I q (by simp))
  | str j=>obtain ⟨t',rfl⟩:=ry;exact PySem.EqNone.eq_none_str (aL I q (by simp))
  | _=>exact absurd (show false=true from hs) aAy
 | bl i =>
  cases rx
  cases y with
  | non=>cases ry;exact PySem.EqNone.eq_bool_none (aL I q (by simp))
  | bl j=>cases ry;exact eq_bool (aL I q vx)
  | str j=>obtain ⟨t',rfl⟩:=ry;exact PySem.EqMixed.eq_bool_str (aL I q (by simp))
  | _=>exact absurd (show false=true from hs) aAy
 | int i =>
  obtain ⟨t,rfl⟩:=rx
  cases y with
  | non=>cases ry;exact PySem.EqNone.eq_int_none (aL I q (by simp))
  | int j=>obtain ⟨t',rfl⟩:=ry;exact eq_int (aL I q sM)
  | str j=>obtain ⟨t',rfl⟩:=ry;exact PySem.EqMixed.eq_int_str (aL I q (by simp))
  | _=>exact absurd (show false=true from hs) aAy
 | str i =>
  obtain ⟨t,rfl⟩:=rx
  cases y with
  | non=>cases ry;exact PySem.EqNone.eq_str_none (aL I q (by simp))
  | bl j=>cases ry;exact PySem.EqMixed.eq_str_bool (aL I q (by simp))
  | int j=>obtain ⟨t',rfl⟩:=ry;exact PySem.EqMixed.eq_str_int (aL I q (by simp))
  | str j=>obtain ⟨t',rfl⟩:=ry;exact eq_str (aL I q sN)
  | _=>exact absurd (show false=true from hs) aAy
 | byt i =>
  obtain ⟨t,rfl⟩:=rx
  cases y with
  | byt j=>obtain ⟨t',rfl⟩:=ry;exact W.eq_bytes (aL I q sO)
  | _=>exact absurd (show false=true from hs) aAy
 | _=>cases y <;> exact absurd (show false=true from hs) aAy
theorem op_ne:OpR X (compareOp .NotEq) rNe:=by
 intro pins s σ H x y v u Q I rx ry h;obtain ⟨hs,q⟩:=h
 cases x with
 | non =>
  cases rx
  cases y with
  | non=>cases ry;exact PySem.EqNone.ne_none_none (aL I q (by simp))
  | bl j=>cases ry;exact PySem.EqNone.ne_none_bool (aL I q (by simp))
  | int j=>obtain ⟨t',rfl⟩:=ry;exact PySem.EqNone.ne_none_int (aL I q (by simp))
  | str j=>obtain ⟨t',rfl⟩:=ry;exact PySem.EqNone.ne_none_str (aL I q (by simp))
  | _=>exact absurd (show false=true from hs) aAy
 | bl i =>
  cases rx
  cases y with
  | non=>cases ry;exact PySem.EqNone.ne_bool_none (aL I q (by simp))
  | bl j=>cases ry;exact ne_bool (aL I q (congrArg not vx))
  | str j=>obtain ⟨t',rfl⟩:=ry;exact PySem.EqMixed.ne_bool_str (aL I q (by simp))
  | _=>exact absurd (show false=true from hs) aAy
 | int i =>
  obtain ⟨t,rfl⟩:=rx
  cases y with
  | non=>cases ry;exact PySem.EqNone.ne_int_none (aL I q (by simp))
  | int j=>obtain ⟨t',rfl⟩:=ry;exact ne_int (aL I q (congrArg not sM))
  | str j=>obtain ⟨t',rfl⟩:=ry;exact PySem.EqMixed.ne_int_str (aL I q (by simp))
  | _=>exact absurd (show false=true from hs) aAy
 | str i =>
  obtain ⟨t,rfl⟩:=rx
  cases y with
  | non=>cases ry;exact PySem.EqNone.ne_str_none (aL I q (by simp))
  | bl j=>cases ry;exact PySem.EqMixed.ne_str_bool (aL I q (by simp))
  | int j=>obtain ⟨t',rfl⟩:=ry;exact PySem.EqMixed.ne_str_int (aL I q (by simp))
  | str j=>obtain ⟨t',rfl⟩:=ry;exact ne_str (aL I q (congrArg not sN))
  | _=>exact absurd (show false=true from hs) aAy
 | byt i =>
  obtain ⟨t,rfl⟩:=rx
  cases y with
  | byt j=>obtain ⟨t',rfl⟩:=ry;exact W.ne_bytes (aL I q (congrArg not sO))
  | _=>exact absurd (show false=true from hs) aAy
 | _=>cases y <;> exact absurd (show false=true from hs) aAy
theorem fQ:OpR X (compareOp .Lt) (rI0 λi j=>.bl (decide (i < j))):=xK λ_ _ _ _ _ _ _ q=>lt_int q
theorem yL:OpR X (compareOp .LtE) (rI0 λi j=>.bl (decide (i<=j))):=xK λ_ _ _ _ _ _ _ q=>le_int q
theorem mW:OpR X (compareOp .Gt) (rI0 λi j=>.bl (decide (j < i))):=xK λ_ _ _ _ _ _ _ q=>gt_int q
theorem HR:OpR X (compareOp .GtE) (rI0 λi j=>.bl (decide (j<=i))):=xK λ_ _ _ _ _ _ _ q=>ge_int q
theorem op_in_str:OpR X (compareOp .In) (λx y H Q=>∃ i j,x=.str i/\y=.str j/\Q (.bl (!(Builtin.Str.occurrences j i 0 j.length 1).isEmpty)) H):=by
 intro pins s σ H x y v u Q I rx ry h;obtain ⟨i,j,rfl,rfl,q⟩:=h;obtain ⟨t,rfl⟩:=rx;obtain ⟨t',rfl⟩:=ry;exact in_str (aL I q rfl)
theorem vy:OpR X (compareOp .Is) (λx y H Q=>y=.non/\Q (.bl (decide (x=.non))) H):=by
 intro pins s σ H x y v u Q I rx ry h;obtain ⟨rfl,q⟩:=h
 cases ry
 refine is_none_gen (aL I q ?_)
 cases x <;> first
  | (cases rx;rfl)
  | (obtain ⟨t,rfl⟩:=rx;rfl)
theorem nomark (b:Expr) {op:CmpOp} (h:op≠.In:=by decide) (h2:op≠.NotIn:=by decide):behindInMarks op b=false:=by
 have e1:(op == CmpOp.In)=false:=by cases op <;> first | rfl | exact absurd rfl h
 have e2:(op == CmpOp.NotIn)=false:=by cases op <;> first | rfl | exact absurd rfl h2
 cases b <;> simp [behindInMarks,e1,e2]
theorem fj {op:CmpOp} {r:R2} (ho:OpR X (compareOp op) r) (ha:PE X a ta) (hb:PE X b tb) (hm:behindInMarks op b=false):PE X (.Compare a [op] [b] pos) (tOp r ta tb):=by
 intro pins s σ H Q I h;exact wpAny_Compare1 (BF ha hb I h λv u s2 x y H2 I2 rx ry q=>ho pins s2 σ H2 x y v u Q I2 rx ry q) hm
inductive IBl (x:V) (H':Hp) (Q:Bool->Hp->Prop):Prop
 | mk (k:Bool):(x=.bl k)->(Q k H')->IBl x H' Q
def mX (t:TE):TT:=λσ H Q=>t σ H λx H'=>IBl x H' Q
theorem pt_cmpR {op:CmpOp} {r:R2} (ho:OpR X (compareOp op) r) (ha:PE X a ta) (hb:PE X b tb) (hm:behindInMarks op b=false):PT X (.Compare a [op] [b] pos) (mX (tOp r ta tb)):=by
 intro pins s σ H Q I h;refine wpAny_isTrue_Compare1 (thn (ha pins s σ H _ I h) λv s1 ⟨x,H1,I1,r1,q1⟩=>thn (hb pins s1 σ H1 _ I1 q1) λu s2 ⟨y,H2,I2,r2,q2⟩ =>
  thn (ho pins s2 σ H2 x y v u _ I2 r1 r2 q2) λc s3 ⟨z,H3,I3,r3,k,e,q3⟩=>?_) hm
 subst e
 cases r3
 exact wpAny_truthy_bool ⟨H3,I3,q3⟩
def BG (r r':R2) (ta tb tc:TE):TE:=λσ H Q=>ta σ H λx H1=>tb σ H1 λy H2=>r x y H2 λz H3=>∃ k,z=.bl k /\
 (if k=true then tc σ H3 λw' H4=>r' y w' H4 Q else Q (.bl false) H3)
theorem vz {op op':CmpOp} {r r':R2} (ho:OpR X (compareOp op) r) (ho':OpR X (compareOp op') r') (ha:PE X a ta) (hb:PE X b tb) (hc:PE X c tc)
  (hm:lastMarks [op,op'] [b,c]=false:=by with_unfolding_all rfl):PE X (.Compare a [op,op'] [b,c] pos) (BG r r' ta tb tc):=by
 intro pins s σ H Q I h;refine Compare_chain (thn (ha pins s σ H _ I h) λv s1 ⟨x,H1,I1,r1,q1⟩=>chain_link (thn (hb pins s1 σ H1 _ I1 q1) λu s2 ⟨y,H2,I2,r2,q2⟩ =>
  thn (ho pins s2 σ H2 x y v u _ I2 r1 r2 q2) λd s3 ⟨z,H3,I3,r3,k,e,q3⟩=>?_)) hm
 subst e
 cases r3
 refine wpAny_truthy_bool ?_
 cases k with
 | false=>exact ite_ff ⟨.bl false,H3,I3,rfl,q3⟩
 | true=>exact ite_tt (chain_last (thn (hc pins s3 σ H3 _ I3 q3) λw' s4 ⟨z',H4,I4,r4,q4⟩=>ho' pins s4 σ H4 y z' u w' Q I4 r2 r4 q4))
theorem jy:(sizeLine:Nat) < 2 ^ 63:=by rw [sizeLine_eq];decide
theorem op_add_str:OpR X (binaryOp .Add) (λx y H Q=>∃ i j,x=.str i/\y=.str j/\i.length+j.length<=sizeLine/\Q (.str (i++j)) H):=by
 intro pins s σ H x y v u Q I rx ry h;obtain ⟨i,j,rfl,rfl,hz,q⟩:=h;obtain ⟨t,rfl⟩:=rx;obtain ⟨t',rfl⟩:=ry;exact add_str (λt' tk=>⟨.str (i++j),H,I.tok _,⟨_,rfl⟩,q⟩) hz
theorem du {x:V} {us:List Value} (r:Vals [x] us):∃ u,us=[u]/\RelV x u:=by
 cases r with
 | cons r1 r2=>cases r2;exact ⟨_,rfl,r1⟩
theorem sP {x y:V} {us:List Value} (r:Vals [x,y] us):∃ u w',us=[u,w']/\RelV x u/\RelV y w':=by
 cases r with
 | cons r1 r2 =>
  cases r2 with
  | cons r3 r4=>cases r4;exact ⟨_,_,rfl,r1,r3⟩
theorem mY (hc:X.calm=true):bJ X (.builtin "max") (λxs H Q=>∃ i j,xs=[.int i,.int j]/\Q (.int (if j > i then j else i)) H):=by
 intro pins s σ H xs us Q I r h;obtain ⟨i,j,rfl,q⟩:=h;obtain ⟨u,w',rfl,⟨t,rfl⟩,⟨t',rfl⟩⟩:=sP r;refine max_two_ints (I.ok.hd hc) λh' tk k=>⟨_,H,I.kept k,?_,q⟩
 by_cases hj:j > i
 ·rw [if_pos hj,if_pos hj];exact ⟨_,rfl⟩
 ·rw [if_neg hj,if_neg hj];exact ⟨_,rfl⟩
theorem mZ (hc:X.calm=true):bJ X (.builtin "min") (λxs H Q=>∃ i j,xs=[.int i,.int j]/\Q (.int (if j < i then j else i)) H):=by
 intro pins s σ H xs us Q I r h;obtain ⟨i,j,rfl,q⟩:=h;obtain ⟨u,w',rfl,⟨t,rfl⟩,⟨t',rfl⟩⟩:=sP r;refine min_two_ints (I.ok.hd hc) λh' tk k=>⟨_,H,I.kept k,?_,q⟩
 by_cases hj:j < i
 ·rw [if_pos hj,if_pos hj];exact ⟨_,rfl⟩
 ·rw [if_neg hj,if_neg hj];exact ⟨_,rfl⟩
theorem jz:bJ X (.type "int") (λxs H Q=>(∃ i,xs=[.int i]/\Q (.int i) H)\/∃ k,xs=[.bl k]/\Q (.int (if k then 1 else 0)) H):=by
 intro pins s σ H xs us Q I r h;rcases h with ⟨i,rfl,q⟩ | ⟨k,rfl,q⟩
 ·obtain ⟨u,rfl,t,rfl⟩:=du r;exact call_int_int ⟨.int i,H,I,⟨_,rfl⟩,q⟩
 ·obtain ⟨u,rfl,r1⟩:=du r
  cases r1
  exact call_int_bool ⟨.int (if k then 1 else 0),H,I.tok _,⟨_,rfl⟩,q⟩
theorem call_str_int:bJ X (.type "str") (λxs H Q=>∃ i,xs=[.int i]/\i.natAbs.log2 < 1920/\Q (.str (toString i)) H):=by
 intro pins s σ H xs us Q I r h;obtain ⟨i,rfl,hz,q⟩:=h;obtain ⟨u,rfl,t,rfl⟩:=du r;exact PySem.P.str_of_int hz ⟨.str _,H,I.tok _,⟨_,rfl⟩,q⟩
theorem vA:bJ X (.builtin "ord") (λxs H Q=>∃ x,xs=[.str x]/\x.length=1/\Q (.int (x.cps.getD 0 0:Nat)) H):=by
 intro pins s σ H xs us Q I r h;obtain ⟨x,rfl,hz,q⟩:=h;obtain ⟨u,rfl,t,rfl⟩:=du r;exact ord_of_one hz ⟨.int _,H,I.tok _,⟨_,rfl⟩,q⟩
end
structure ObjM (h:Heap) (x dx C:Addr) (mA:Str->Option Value):Prop where
 obj:h.get? x=some (W.instObj C dx)
 ns:h.Ns1 dx mA
 ne:dx≠x
theorem uy {h:Heap} {dx:Addr} {mA:Str->Option Value} (n:h.Ns1 dx mA):∃ od,h.get? dx=some od/\∀ name,W.lookIn name od=some (mA name):=by
 obtain ⟨o,es,ep,ho,hd,hk,_,hm⟩:=n;refine ⟨o,ho,λname=>?_⟩;have e:=hm name;unfold nsFind findBy at e;rw [<- Array.find?_toList] at e;unfold W.lookIn;rw [hd];dsimp only
 split
 ·rename_i y q
  rw [q] at e;exact congrArg some e
 ·rename_i q
  rw [q] at e;have a:es.toList.any (·.refKey)=false:=by
   rw [List.any_eq_false];intro y hy;obtain ⟨z,t,hkey⟩:=hk y (Array.mem_toList_iff.mp hy);simp [DictEntry.refKey,hkey]
  have a':¬ es.toList.any (·.refKey)=true:=by rw [a];exact aAy
  rw [if_neg a'];exact congrArg some e
theorem ObjM.look {h:Heap} {x dx C:Addr} {mA:Str->Option Value} (I:ObjM h x dx C mA):∃ od,W.InstAt h x (W.instObj C dx) C (some od)/\∀ name,W.lookIn name od=some (mA name) :=
 let ⟨od,ho,hl⟩:=uy I.ns
 ⟨od,⟨I.obj,rfl,rfl,ho⟩,hl⟩
section
variable {prog:Program} {w:World} {A:Around} {E:Value->Shared->Prop} {s:Shared} {K:W.Frag} {x dx C f:Addr} {mA:Str->Option Value} {name:Str} {v:Value}
theorem xL {expr:Bool} {Q:Value->Shared->Prop} (X:K.In s.heap) (I:ObjM s.heap x dx C mA) (hg:W.plainGet K C name=true) (hh:W.hasDictIn K C=true)
  (ha:W.findIn K (.ref C) name=some none) (hv:mA name=some v) (hv':W.handedIn v=true) (h:Q v { s with toks:=s.toks+1 }) :
  wpAny (model prog w) A (getAttr (.ref x) name expr) Q E s:=by
 obtain ⟨od,J,hl⟩:=I.look;exact W.get_value X J (W.plainGet_of hg).1 (W.findObj_own hh ha rfl (by rw [hl,hv])) hv' h
theorem vB {pl:Sem Bool} {Q:Value×List Value->Shared->Prop} (X:K.In s.heap) (I:ObjM s.heap x dx C mA) (hg:W.plainGet K C name=true)
  (hf:W.findIn K (.ref C) name=some (some (.ref f))) (ht:W.isFn K (.ref f)=true) (hv:mA name=none) (h:Q (.ref f,[.ref x]) s) :
  wpAny (model prog w) A (getMethod (.ref x) name pl) Q E s:=by
 obtain ⟨od,J,hl⟩:=I.look;exact W.method_fn X J (W.plainGet_of hg).1 (W.plainGet_of hg).2 hf (beq_iff_eq.mp ht) (by show (W.lookIn name od).map (·.isSome)=some false;rw [hl,hv];rfl) h
theorem xM {ns:List Str} {Q:Unit->Shared->Prop} (X:K.In s.heap) (I:ObjM s.heap x dx C mA)
  (hs:W.findIn K (.ref C) "__setattr__" = some (some (.builtin "object.__setattr__"))) (hp:W.plainOver K C=true) (ht:W.takerIn K C name=some none) (hh:W.hasDictIn K C=true)
  (hw:PySem.Within mA ns) (hsz:ns.length<=sizeLine)
  (h:∀ h',ObjM h' x dx C (λy=>if y=name then some v else mA y)->Heap.SameBut dx s.heap h'->Q () { s with heap:=h',toks:=s.toks+2 }) :
  wpAny (model prog w) A (setAttr (.ref x) name v) Q E s:=by
 obtain ⟨od,J,hl⟩:=I.look;refine W.set_plain X J hs (W.osa_open (s:={ s with toks:=s.toks+1 }) (r:=none) X J hp ht λb=>?_);obtain ⟨cd,hc,hd'⟩:=W.any_some hh;have hx:s.heap.get? x=some ⟨.ref C,some dx,.plain,#[]⟩:=I.obj;refine wpAny_bind (wpAny_pure (wpAny_bind (wpAny_bind (wpAny_loadPart hx (wpAny_bind (W.Looks.here (s:={ s with toks:=s.toks+1 }) (W.looks_clsIn X hc) ?_))))));rw [hd'];refine wpAny_pure (a:=some dx) (wpAny_bind (wpAny_pure (wpAny_bind ?_)));refine wpAny_nsSet1 (s:={ s with toks:=s.toks+1 }) I.ns λh' hn2 hs2=>?_;obtain ⟨oD,esD,epD,hoD,hdD,hcD⟩:=hn2.count (PySem.Within.cons name v hw);refine wpAny_bind (wpAny_lookBehind hoD (by rw [hdD];exact pastItsLine_dict (aAz hcD (by rw [aAb];lia))) ?_);exact wpAny_pure (h _ ⟨(hs2.2 _ (Ne.symm I.ne)).trans I.obj,hn2,I.ne⟩ hs2)
theorem vC {R:Result->Shared->Prop} {vs:List Value} {kw:List (Str×Value)} (X:K.In s.heap) (hm:W.makesIn K C=true)
  (hi:W.findIn K (.ref C) "__init__" = some (some (.ref f))) (hf:W.typeIn K (.ref f)=some (.type "function"))
  (h:codeAny (model prog w) (A.under (.builtin "type.__call__" ⟨.ref C :: vs,kw⟩)) (.call (.ref f) ⟨.ref (s.heap.objs.size+1) :: vs,kw⟩) (W.InitBack (s.heap.objs.size+1) R)
   { s with heap:=(s.heap.push W.emptyDict).push (W.instObj C s.heap.objs.size) }) :
  codeAny (model prog w) A (.call (.ref C) ⟨vs,kw⟩) R s:=by
 obtain ⟨hh,g,d,t,os⟩:=s;exact W.make_core (W.makes_of X hm) (W.looks_findIn X hi) (λself=>W.bind_fn X self hf) (.inl rfl) h
end
def fm (f:Str) (v:V):List (Str×V)->List (Str×V)
 | []=>[(f,v)]
 | (g,x) :: r=>if g=f then (g,v) :: r else (g,x) :: fm f v r
theorem j7 (f g:Str) (v:V):∀ fs:List (Str×V),(fm f v fs).lookup g=if g=f then some v else fs.lookup g
 | []=>by
  show List.lookup g [(f,v)]=_
  by_cases h:g=f
  ·have hb:(g == f)=true:=beq_iff_eq.mpr h;simp only [List.lookup,hb,if_pos h]
  ·have hb:(g == f)=false:=beq_eq_false_iff_ne.mpr h;simp only [List.lookup,hb,if_neg h]
 | (k,x) :: r=>by
  have ih:=j7 f g v r;rw [show fm f v ((k,x) :: r)=(if k=f then (k,v) :: r else (k,x) :: fm f v r) from rfl]
  by_cases hk:k=f
  ·rw [if_pos hk]
   by_cases h:g=k
   ·have hb:(g == k)=true:=beq_iff_eq.mpr h;simp only [List.lookup,hb,if_pos (h.trans hk)]
   ·have hb:(g == k)=false:=beq_eq_false_iff_ne.mpr h;simp only [List.lookup,hb,if_neg (λe:g=f=>h (e.trans hk.symm))]
  ·rw [if_neg hk]
   by_cases h:g=k
   ·have hb:(g == k)=true:=beq_iff_eq.mpr h;simp only [List.lookup,hb,if_neg (λe:g=f=>hk (h.symm.trans e))]
   ·have hb:(g == k)=false:=beq_eq_false_iff_ne.mpr h;simp only [List.lookup,hb];exact ih
theorem jA (f:Str) (v:V):∀ fs:List (Str×V),f∈(fm f v fs).map (·.1)/\∀ g,g∈fs.map (·.1)->g∈(fm f v fs).map (·.1)
 | []=>⟨by simp [fm],λg h=>by simp at h⟩
 | (k,x) :: r=>by
  obtain ⟨i1,i2⟩:=jA f v r;rw [show fm f v ((k,x) :: r)=(if k=f then (k,v) :: r else (k,x) :: fm f v r) from rfl]
  by_cases hk:k=f
  ·rw [if_pos hk];subst hk;exact ⟨by simp,λg h=>by simpa using h⟩
  ·rw [if_neg hk];refine ⟨?_,λg h=>?_⟩
   ·rw [aAq];exact aAf _ i1
   ·rw [aAq] at h ⊢;rcases aAn.mp h with e | e
    ·exact aAn.mpr (.inl e)
    ·exact aAf _ (i2 g e)
theorem j8 (f:Str) (v:V):∀ fs:List (Str×V),(fm f v fs).length<=fs.length+1
 | []=>by simp [fm]
 | (k,x) :: r=>by
  have ih:=j8 f v r;rw [show fm f v ((k,x) :: r)=(if k=f then (k,v) :: r else (k,x) :: fm f v r) from rfl]
  by_cases hk:k=f
  ·rw [if_pos hk,aAb,aAb];lia
  ·rw [if_neg hk,aAb,aAb];lia
theorem RelO.some_of {v:V} {o:Option Value} (r:RelO (some v) o):∃ u,o=some u/\RelV v u:=by
 cases o with
 | none=>exact (show False from r).elim
 | some u=>exact ⟨u,rfl,r⟩
theorem RelO.none_of {o:Option Value} (r:RelO none o):o=none:=by
 cases o with
 | none=>rfl
 | some u=>exact (show False from r).elim
theorem uz {v:V} {u:Value} (r:RelV v u):W.handedIn u=true:=by
 cases v with
 | non=>cases (show u=Value.none from r);rfl
 | bl b=>cases (show u=Value.bool b from r);rfl
 | int i=>obtain ⟨t,e⟩:=(show ∃ t,u=Value.int i t from r);cases e;rfl
 | str x=>obtain ⟨t,e⟩:=(show ∃ t,u=Value.str x t from r);cases e;rfl
 | byt b=>obtain ⟨t,e⟩:=(show ∃ t,u=Value.bytes b t from r);cases e;rfl
 | flt b=>obtain ⟨t,e⟩:=(show ∃ t,u=Value.float b t from r);cases e;rfl
 | ref a=>cases (show u=Value.ref a from r);rfl
 | ty n=>cases (show u=Value.type n from r);rfl
section
variable {P:Program} {w:World} {H H':Hp} {h h':Heap} {a C dx:Addr} {fs fs':List (Str×V)}
theorem nW (hok:HOk P w H h) (e:H a=some (.ins C dx fs)):∃ mA,ObjM h a dx C mA/\(∀ f,RelO (fs.lookup f) (mA f))/\PySem.Within mA (fs.map (·.1))/\fs.length<=1000/\H dx=some (.own a):=by
 obtain ⟨d,z,ne,ob,mA,n,r,q⟩:=(show ObjOk P w H h a (.ins C dx fs) from hok a _ e);exact ⟨mA,⟨ob,n,ne⟩,r,q,z,d⟩
end
structure Cls (K:W.Frag) (C:Addr):Prop where
 pg:W.plainGet K C Str.empty=true
 hd:W.hasDictIn K C=true
 po:W.plainOver K C=true
 sa:W.findIn K (.ref C) "__setattr__" = some (some (.builtin "object.__setattr__"))
theorem Cls.get {K:W.Frag} {C:Addr} (c:Cls K C) (f:Str):W.plainGet K C f=true:=c.pg
def NoAttr (K:W.Frag) (C:Addr) (f:Str):Prop:=W.findIn K (.ref C) f=some none
theorem NoAttr.taker {K:W.Frag} {C:Addr} {f:Str} (n:NoAttr K C f):W.takerIn K C f=some none:=by
 unfold W.takerIn;rw [show W.findIn K (.ref C) f=some none from n]
 rfl
structure Meth (K:W.Frag) (C:Addr) (m:Str) (f:Addr):Prop where
 at_:W.findIn K (.ref C) m=some (some (.ref f))
 fn:W.isFn K (.ref f)=true
 kp:W.keepIn K (.ref f)=true
section
variable {X:Cx} {pins:List (Addr×Obj)} {σ:St} {H:Hp} {s:Shared} {a C dx:Addr} {fs:List (Str×V)} {f:Str} {v:V} {A:Around} {E:Value->Shared->Prop}
theorem kY {b:Bool} {Q:Value->Shared->Prop} (I:Inv X pins σ H s) (e:H a=some (.ins C dx fs)) (c:Cls X.K C) (n:NoAttr X.K C f) (l:fs.lookup f=some v)
  (h:∀ u s',Inv X pins σ H s'->RelV v u->Q u s'):wpAny (model X.prog X.w) A (getAttr (.ref a) f b) Q E s:=by
 obtain ⟨mA,O,r,_,_,_⟩:=nW I.hok e;obtain ⟨u,hu,ru⟩:=RelO.some_of (v:=v) (o:=mA f) (by rw [<- l];exact r f);exact xL I.kIn O (c.get f) c.hd n hu (uz ru) (h u _ (I.tok _) ru)
theorem rm {m:Str} {g:Addr} {pl:Sem Bool} {Q:Value×List Value->Shared->Prop} (I:Inv X pins σ H s) (e:H a=some (.ins C dx fs)) (c:Cls X.K C) (k:Meth X.K C m g) (l:fs.lookup m=none)
  (h:Q (.ref g,[.ref a]) s):wpAny (model X.prog X.w) A (getMethod (.ref a) m pl) Q E s:=by
 obtain ⟨mA,O,r,_,_,_⟩:=nW I.hok e;have hn:mA m=none:=RelO.none_of (by rw [<- l];exact r m);exact vB I.kIn O (c.get m) k.at_ k.fn hn h
theorem kZ {y:V} {u:Value} {Q:Unit->Shared->Prop} (I:Inv X pins σ H s) (e:H a=some (.ins C dx fs)) (c:Cls X.K C) (n:NoAttr X.K C f) (hl:fs.length < 1000) (ry:RelV y u)
  (h:∀ s',Inv X pins σ (upd H a (.ins C dx (fm f y fs))) s'->Q () s'):wpAny (model X.prog X.w) A (setAttr (.ref a) f u) Q E s:=by
 obtain ⟨mA,O,r,wi,_,ho⟩:=nW I.hok e;have hz:(fs.map (·.1)).length<=sizeLine:=by rw [aAa,sizeLine_eq];lia
 refine xM I.kIn O c.sa c.po n.taker c.hd wi hz λh' O' sb=>h _ ?_;have hd:∃ o,h'.get? dx=some o:=let ⟨o,_,_,e',_⟩:=O'.ns;⟨o,e'⟩;refine I.write (x:=a) (e:=dx) (by rw [e];exact True.intro) (.inr ho) (λb q hb z=>(sb.2 b hb).trans z) hd ?_;refine ⟨by rw [ac O.ne];exact ho,?_,O.ne,O'.obj,_,O'.ns,λg=>?_,λg hg=>?_⟩
 ·have:=j8 f y fs;lia
 ·show RelO ((fm f y fs).lookup g) (if g=f then some u else mA g);rw [j7]
  by_cases q:g=f
  ·rw [if_pos q,if_pos q];exact ry
  ·rw [if_neg q,if_neg q];exact r g
 ·by_cases q:g=f
  ·rw [q];exact (jA f y fs).1
  ·refine (jA f y fs).2 g (wi g λz=>hg ?_);show (if g=f then some u else mA g)=none;rw [if_neg q];exact z
theorem Inv.made (I:Inv X pins σ H s):Inv X pins σ (upd (upd H s.heap.objs.size (.own (s.heap.objs.size+1))) (s.heap.objs.size+1) (.ins C s.heap.objs.size []))
  { s with heap:=(s.heap.push W.emptyDict).push (W.instObj C s.heap.objs.size) }:=by
 have e1:(s.heap.push W.emptyDict).get? s.heap.objs.size=some W.emptyDict:=aAA s.heap rfl;have e2:((s.heap.push W.emptyDict).push (W.instObj C s.heap.objs.size)).get? (s.heap.objs.size+1)=some (W.instObj C s.heap.objs.size):=by
  have:=aAA (s.heap.push W.emptyDict) (o:=W.instObj C s.heap.objs.size) rfl
  rwa [aA4] at this
 have e3:(s.heap.push W.emptyDict).Ns s.heap.objs.size (λ_=>none):=⟨W.emptyDict,#[],_,e1,rfl,(λe he=>absurd he (by simp)),λ_=>rfl⟩;have I1:=I.laid (a:=s.heap.objs.size) (o:=.own (s.heap.objs.size+1)) (h':=s.heap.push W.emptyDict) (t':=s.toks) (λb u q=>aAe _ q) (aAo _) ⟨_,e1⟩;refine I1.laid (a:=s.heap.objs.size+1) (o:=.ins C s.heap.objs.size []) (t':=s.toks) (λb u q=>aAe _ q) (aBL (aA4 _ _)) ?_;have ne:s.heap.objs.size≠s.heap.objs.size+1:=aAI (aA9 _);refine ⟨by rw [ac ne,aa],aAE _,ne,e2,λ_=>none,(Heap.Ns1.of_empty e3).at λo q=>aAe _ q,λ_=>True.intro,λy hy=>absurd rfl hy⟩
theorem xN {prog:Program} {w:World} {env:Env} {e:Expr} {f:Str} {pos:Pos} {s:Shared} {Q:Value->Shared->Prop} (hb:attributeBase e f env (eval e env)=eval e env)
  (h:wpAny (model prog w) A (eval e env) (λo s₁=>wpAny (model prog w) A (getAttr o f true) Q E s₁) E s):wpAny (model prog w) A (eval (.Attribute e f pos) env) Q E s :=
 Attribute_any_ h (by rw [arm_eval_Attribute,hb])
end
def Jf (K:W.Frag) (ta:TE) (f:Str):TE:=λσ H Q=>ta σ H λx H1=>∃ a C dx fs v,x=.ref a/\H1 a=some (.ins C dx fs)/\Cls K C/\NoAttr K C f/\fs.lookup f=some v/\Q v H1
def Jg (K:W.Frag) (ta tv:TE) (f:Str):TS:=λD σ H=>tv σ H λy H1=>ta σ H1 λx H2=>∃ a C dx fs,x=.ref a/\H2 a=some (.ins C dx fs)/\Cls K C/\NoAttr K C f/\fs.length < 1000 /\
 D.nx σ (upd H2 a (.ins C dx (fm f y fs)))
def Jh (X:Cx) (op:Operator) (rd:V->V->Hp->VK->Prop):Prop :=
 ∀ (pins:List (Addr×Obj)) (s:Shared) (σ:St) (H:Hp) (x y:V) (u v:Value) (Q:VK),Inv X pins σ H s->RelV x u->RelV y v->rd x y H Q->wpAny (model X.prog X.w) X.A (inplaceOp op u v) (EP X pins σ Q) X.xe s
def xO (K:W.Frag) (ta tv:TE) (rd:V->V->Hp->VK->Prop) (f:Str):TS:=λD σ H=>ta σ H λx H1=>∃ a C dx fs v,x=.ref a/\H1 a=some (.ins C dx fs)/\Cls K C/\NoAttr K C f/\fs.lookup f=some v /\
 tv σ H1 λy H2=>rd v y H2 λz H3=>∃ dx' fs',H3 a=some (.ins C dx' fs')/\fs'.length < 1000/\D.nx σ (upd H3 a (.ins C dx' (fm f z fs')))
section
variable {X:Cx} {o e value:Expr} {f:Str} {pos pos' tpos:Pos} {ta tv:TE}
theorem rn (he:PE X e ta) (hb:attributeBase e f X.env (eval e X.env)=eval e X.env):PE X (.Attribute e f pos) (Jf X.K ta f):=by
 intro pins s σ H Q I h;refine xN hb (thn (he pins s σ H _ I h) λu s1 ⟨x,H1,I1,rx,a,C,dx,fs,v,ex,ea,c,n,l,q⟩=>?_);subst ex;obtain rfl:u=Value.ref a:=rx;exact kY I1 ea c n l λu' s2 I2 ru=>⟨v,H1,I2,ru,q⟩
theorem vD (ha:PE X o ta) (hv:PE X value tv) (hs:swapsWith value (some (.Attribute o f pos')) pos.line X.env=pure false):PS X (.Assign [.Attribute o f pos'] value pos) (Jg X.K ta tv f):=by
 intro pins s σ H D I h;refine plainObj_wpAny_Assign_Attribute (thn (hv pins s σ H _ I h) λu s1 ⟨y,H1,I1,ry,q⟩=>thn (ha pins s1 σ H1 _ I1 q) λov s2 ⟨x,H2,I2,rx,a,C,dx,fs,ex,ea,c,n,l,q2⟩=>?_) hs;subst ex;obtain rfl:ov=Value.ref a:=rx;exact kZ I2 ea c n l ry λs3 I3=>⟨σ,_,I3,q2⟩
theorem ps_fldaug {op:Operator} {rd:V->V->Hp->VK->Prop} (ha:PE X o ta) (hv:PE X value tv) (hop:Jh X op rd):PS X (.AugAssign (.Attribute o f tpos) op value pos) (xO X.K ta tv rd f):=by
 intro pins s σ H D I h;refine wpAny_AugAssign_AttributeAny (thn (ha pins s σ H _ I h) λov s1 ⟨x,H1,I1,rx,a,C,dx,fs,v,ex,ea,c,n,l,q⟩=>?_);subst ex;obtain rfl:ov=Value.ref a:=rx;refine kY I1 ea c n l λu s2 I2 ru=>thn (hv pins s2 σ H1 _ I2 q) λw3 s3 ⟨y,H2,I3,ry,q3⟩=>thn (hop pins s3 σ H2 v y u w3 _ I3 ru ry q3) λw4 s4 ⟨z,H3,I4,rz,dx',fs',ea',l',q4⟩=>?_;exact kZ I4 ea' c n l' rz λs5 I5=>⟨σ,_,I5,q4⟩
end
section
variable {X:Cx} {pins:List (Addr×Obj)} {σ:St} {H:Hp} {s:Shared} {A:Around} {E:Value->Shared->Prop} {Q:Value->Shared->Prop} {c:Value} {b:Bool}
end
structure Room (k:Nat) (A:Around):Prop where
 hd:A.handled=none
 dp:A.depth+3*k+5 < recursionLimit
 un:A.units+16*k+200 < cLine
theorem Room.mono {j k:Nat} {A:Around} (r:Room k A) (h:j<=k):Room j A:=⟨r.hd,by have:=r.dp;lia,by have:=r.un;lia⟩
theorem Room.deeper {k:Nat} {A:Around} (r:Room (k+1) A) (env:Env):Room k (A.deeper env) :=
 ⟨r.hd,by have:=r.dp;show A.depth+1+3*k+5 < _;lia,by have:=r.un;show A.units+3+16*k+200 < _;lia⟩
theorem rp {A:Around} {C:Addr} {us:List Value} {kw:List (Str×Value)}:(A.under (.builtin "type.__call__" ⟨.ref C :: us,kw⟩)).depth=A.depth+1:=by
 first | rfl | simp [Around.under,Code.weight,Code.isCreation,Code.isGuard,Code.isCaller,Code.frames,Code.isFrame,guardIds]
theorem rq {A:Around} {C:Addr} {us:List Value} {kw:List (Str×Value)}:(A.under (.builtin "type.__call__" ⟨.ref C :: us,kw⟩)).units=A.units+1:=by
 first | rfl | simp [Around.under,Code.cUnits,Code.frames,Code.isFrame]
theorem Room.make {k:Nat} {A:Around} (r:Room (k+1) A) (C:Addr) (us:List Value) (kw:List (Str×Value)):Room k (A.under (.builtin "type.__call__" ⟨.ref C :: us,kw⟩)) :=
 ⟨r.hd,by have:=r.dp;rw [rp];lia,by have:=r.un;rw [rq];lia⟩
theorem Room.depth {k:Nat} {A:Around} (r:Room k A):A.depth < recursionLimit:=by have:=r.dp;lia
theorem Room.units {k:Nat} {A:Around} (r:Room k A):A.units+64 < cLine:=by have:=r.un;lia
def iL:TA:=λ_ H Q=>Q [] H
def bO (ta:TE) (tr:TA):TA:=λσ H Q=>ta σ H λx H1=>tr σ H1 λxs H2=>Q (x :: xs) H2
section
variable {X:Cx} {e:Expr} {es:List Expr} {te:TE} {t:TA} {pos:Pos}
theorem pa_nil:PA X [] iL:=λ_ _ _ _ H Q I h=>Calls.spliced_nil ⟨[],H,I,.nil,h⟩
theorem av (ha:PE X e te) (hr:PA X es t) (hs:starEach (e :: es) X.env=(false,eval e X.env) :: starEach es X.env:=by rfl):PA X (e :: es) (bO te t):=by
 intro pos pins s σ H Q I h;rw [hs];show wpAny _ _ (spliced ((false,eval e X.env) :: backTo pos (starEach es X.env))) _ _ s;refine Calls.spliced_cons (thn (ha pins s σ H _ I h) λu s1 ⟨x,H1,I1,r1,q1⟩=>?_);exact thn (hr pos pins s1 σ H1 _ I1 q1) λus s2 ⟨xs,H2,I2,r2,q2⟩=>⟨x :: xs,H2,I2,.cons r1 r2,q2⟩
def BH (t:TA):TE:=λσ H Q=>t σ H λxs H1=>xs.length<=sizeLine/\∀ p,H1 p=none->Q (.ref p) (upd H1 p (.tup xs))
def uA (t:TA):TE:=λσ H Q=>t σ H λxs H1=>xs.length<=sizeLine/\∀ p,H1 p=none->Q (.ref p) (upd H1 p (.lst xs))
theorem vE {x1} (h:PA X es t):PE X (.Tuple es x1 pos) (BH t):=by
 intro pins s σ H Q I hq;refine wpAny_Tuple_spliced (thn (h pos pins s σ H _ I hq) λus s1 ⟨xs,H1,I1,r,z,q⟩=>⟨by rw [<- r.length];exact z,?_⟩);have hf:H1 s1.heap.objs.size=none:=I1.hok.fresh (aAo _);refine ⟨.ref s1.heap.objs.size,upd H1 s1.heap.objs.size (.tup xs),I1.laid (t':=s1.toks) (λb u e=>aAe _ e) (aAo _) ?_,rfl,q _ hf⟩;exact ⟨z,us,r,⟨_,aAA _ rfl,rfl,_,rfl⟩⟩
theorem pe_lst (h:PA X es t):PE X (.List es pos) (uA t):=by
 intro pins s σ H Q I hq;refine wpAny_List_spliced (thn (h pos pins s σ H _ I hq) λus s1 ⟨xs,H1,I1,r,z,q⟩=>⟨by rw [<- r.length];exact z,?_⟩);have hf:H1 s1.heap.objs.size=none:=I1.hok.fresh (aAo _);refine ⟨.ref s1.heap.objs.size,upd H1 s1.heap.objs.size (.lst xs),I1.laid (t':=s1.toks) (λb u e=>aAe _ e) (aAo _) ?_,rfl,q _ hf⟩;exact ⟨z,us,0,r,aAA _ rfl⟩
end
abbrev Sp:=List V->Hp->VK->XK->Prop
abbrev CXT:=List Env->Hp->Shared->XK->Value->Shared->Prop
structure Env0 (P:Program) (w:World) (K:W.Frag) (mg:Str->Option Value) (base:Heap) (A:Around) (outer:List Env) (s:Shared) (H:Hp):Prop where
 frames:A.frames=some outer
 mod:Mod K mg base
 bs:∀ b o,base.get? b=some o->s.heap.get? b=some o/\H b=none
 bsz:base.objs.size<=s.heap.objs.size
 funs:s.heap.FunFrames base outer
 frf:∀ b∈frs outer,H b=none
 hok:HOk P w H s.heap
 bare:AllBare s.gens
def CE (outer:List Env) (P:Program) (w:World) (H:Hp) (s:Shared) (Q:VK) (u:Value) (s':Shared):Prop :=
 ∃ v H',s'.os=s.os/\AllBare s'.gens/\Un (frs outer) [] H H' s.heap s'.heap/\HOk P w H' s'.heap/\RelV v u/\Q v H'
def CR (CX:CXT) (outer:List Env) (P:Program) (w:World) (H:Hp) (s:Shared) (Q:VK) (E:XK) (r:Result) (s':Shared):Prop :=
 match r with
 | .ok (.ret u)=>CE outer P w H s Q u s'
 | .ok _=>False
 | .error e=>CX outer H s E e s'
structure FnOk (P:Program) (w:World) (K:W.Frag) (mg:Str->Option Value) (base:Heap) (CX:CXT) (k:Nat) (f:Addr) (fd:FuncData) (ps:List Str) (sp:Sp):Prop where
 len:∀ vs H Q E,sp vs H Q E->vs.length=ps.length
 run:∀ (A:Around) (outer:List Env) (s:Shared) (H:Hp) (args:Args) (us:List Value) (vs:List V) (Q:VK) (E:XK),Room k A->Env0 P w K mg base A outer s H->BindsTo s fd args (ps.zip us)->Vals vs us->sp vs H Q E ->
  codeAny (model P w) A (.call (.ref f) args) (CR CX outer P w H s Q E) s
theorem FnOk.mono {P:Program} {w:World} {K:W.Frag} {mg:Str->Option Value} {base:Heap} {CX:CXT} {j k:Nat} {f:Addr} {fd:FuncData} {ps:List Str} {sp:Sp} (F:FnOk P w K mg base CX j f fd ps sp) (h:j<=k) :
  FnOk P w K mg base CX k f fd ps sp:=⟨F.len,λA outer s H args us vs Q E hr=>F.run A outer s H args us vs Q E (hr.mono h)⟩
theorem FnOk.imp {P:Program} {w:World} {K:W.Frag} {mg:Str->Option Value} {base:Heap} {CX:CXT} {k:Nat} {f:Addr} {fd:FuncData} {ps:List Str} {sp sp':Sp} (F:FnOk P w K mg base CX k f fd ps sp)
  (h:∀ vs H Q E,sp' vs H Q E->sp vs H Q E):FnOk P w K mg base CX k f fd ps sp' :=
 ⟨λvs H Q E q=>F.len vs H Q E (h _ _ _ _ q),λA outer s H args us vs Q E hr he hb hv hs=>F.run A outer s H args us vs Q E hr he hb hv (h _ _ _ _ hs)⟩
theorem Env0.make {P:Program} {w:World} {K:W.Frag} {mg:Str->Option Value} {base:Heap} {A:Around} {outer:List Env} {s:Shared} {H:Hp} (e:Env0 P w K mg base A outer s H) (C:Addr) (us:List Value) (kw:List (Str×Value)) :
  Env0 P w K mg base (A.under (.builtin "type.__call__" ⟨.ref C :: us,kw⟩)) outer s H:=⟨by first | exact e.frames | (simpa [Around.under,Code.envs,Code.isFrame,pushEnvs] using e.frames),e.mod,e.bs,e.bsz,e.funs,e.frf,e.hok,e.bare⟩
section
variable {X:Cx} {pins:List (Addr×Obj)} {σ:St} {H:Hp} {s s':Shared}
theorem Inv.env0 (I:Inv X pins σ H s):Env0 X.prog X.w X.K X.mg X.base X.A X.stack s H :=
 ⟨I.ok.frames,I.ok.mod,I.bs,aAz I.ok.bsz I.sz,I.stack,I.stkFree,I.hok,I.bare⟩
theorem Inv.after {Q:VK} {u:Value} (I:Inv X pins σ H s) (h:CE X.stack X.prog X.w H s Q u s'):EP X pins σ Q u s':=by
 obtain ⟨v,H',os,bare,un,hok,r,q⟩:=h;obtain ⟨hh,g,d,t,os'⟩:=s';obtain rfl:os'=s.os:=os;exact ⟨v,H',I.call (h':=hh) (g':=g) (d':=d) (t':=t) (ch:=[]) un hok bare (λb z=>absurd z (by simp)),r,q⟩
end
def sQ (sp:Sp) (dvs:List V) (E:XK) (t:TA):TE:=λσ H Q=>t σ H λvs H1=>sp (vs++dvs) H1 Q E
def HS (C:Addr) (m:Str) (sp:Sp) (dvs:List V) (E:XK) (ta:TE) (t:TA):TE:=λσ H Q=>ta σ H λx H1=>∃ a dx fs,x=.ref a/\H1 a=some (.ins C dx fs)/\fs.lookup m=none /\
 t σ H1 λvs H2=>sp (x :: (vs++dvs)) H2 Q E
def HU (C:Addr) (sp:Sp) (dvs:List V) (E:XK) (t:TA):TE:=λσ H Q=>t σ H λvs H1=>∀ x dx,H1 x=none->H1 dx=none->dx≠x ->
 sp (.ref x :: (vs++dvs)) (upd (upd H1 dx (.own x)) x (.ins C dx [])) (λv H2=>v=.non/\Q (.ref x) H2) E
def Binds (K:W.Frag) (fd:FuncData) (ps:List Str) (ds:List Value):Prop :=
 ∀ (s:Shared) (us:List Value),K.In s.heap->(us++ds).length=ps.length->BindsTo s fd ⟨us,[]⟩ (ps.zip (us++ds))
theorem Binds.all {K:W.Frag} {fd:FuncData} {ps:List Str} (h:∀ us:List Value,us.length=ps.length->bindArgs fd ⟨us,[]⟩=pure (ps.zip us)):Binds K fd ps []:=λs us _ hl=>by
 rw [aAJ] at hl ⊢;exact .of_eq (h us hl)
def gc (CX:CXT) (X:Cx) (E:XK):Prop:=∀ (pins:List (Addr×Obj)) (σ:St) (H:Hp) (s:Shared) (e:Value) (s':Shared),Inv X pins σ H s->CX X.stack H s E e s'->X.xe e s'
section
variable {X:Cx} {CX:CXT} {k:Nat} {f C:Addr} {fd:FuncData} {ps:List Str} {sp:Sp} {dvs:List V} {ds:List Value} {E:XK} {x m:Str} {p pos apos:Pos} {e o:Expr} {es:List Expr} {ta:TE} {t:TA}
theorem vF {pins:List (Addr×Obj)} {σ:St} {H:Hp} {s:Shared} {Q:VK} {us:List Value} {vs:List V} (F:FnOk X.prog X.w X.K X.mg X.base CX k f fd ps sp) (hr:Room k X.A) (hb:Binds X.K fd ps ds) (hd:Vals dvs ds) (hx:gc CX X E)
  (I:Inv X pins σ H s) (r:Vals vs us) (h:sp (vs++dvs) H Q E):wpAny (model X.prog X.w) X.A (call (.ref f) us) (EP X pins σ Q) X.xe s:=by
 have r2:Vals (vs++dvs) (us++ds):=r.append hd;have hl:(us++ds).length=ps.length:=by rw [<- r2.length];exact F.len _ _ _ _ h
 refine wpAny_call (codeAny_mono (F.run X.A X.stack s H ⟨us,[]⟩ (us++ds) (vs++dvs) Q E hr I.env0 (hb s us I.kIn hl) r2 h) λr s' hq=>?_)
 cases r with
 | error e=>exact hx pins σ H s e s' I hq
 | ok fl =>
  cases fl with
  | ret u=>exact I.after hq
  | next=>exact False.elim hq
  | brk=>exact False.elim hq
  | cont=>exact False.elim hq
theorem pe_call (F:FnOk X.prog X.w X.K X.mg X.base CX k f fd ps sp) (hr:Room k X.A) (hg:Gl X x) (hm:X.mg x=some (.ref f)) (hk:W.keepIn X.K (.ref f)=true) (hb:Binds X.K fd ps ds) (hd:Vals dvs ds) (hx:gc CX X E)
  (ha:PA X (e :: es) t) (hdb:(x == ("__debug__" : Str))=false:=by decide) (he:starEach (e :: es) X.env=(false,eval e X.env) :: starEach es X.env:=by rfl) (hpl:(backTo pos (starEach es X.env)).any (·.1)=false:=by rfl) :
  PE X (.Call (.Name x p) (e :: es) [] pos) (sQ sp dvs E t):=by
 intro pins s σ H Q I h;refine wpAny_Call_Name_kw (iI I hg hm ?_ hdb);refine W.callWith_K (h₀:=X.base) I.ok.mod.kin hk (thn (ha pos pins s σ H _ I h) λus s1 ⟨vs,H1,I1,r,q⟩=>⟨I1.kIn,?_⟩) he hpl;exact vF F hr hb hd hx I1 r q
theorem pe_meth {pl:Sem Bool} (he:PE X o ta) (c:Cls X.K C) (hm:Meth X.K C m f) (F:FnOk X.prog X.w X.K X.mg X.base CX k f fd ps sp) (hr:Room k X.A) (hb:Binds X.K fd ps ds) (hd:Vals dvs ds) (hx:gc CX X E) (ha:PA X (e :: es) t)
  (hst:starEach (e :: es) X.env=(false,eval e X.env) :: starEach es X.env:=by rfl) (hpl:(backTo pos (starEach es X.env)).any (·.1)=false:=by rfl)
  (ht:eval (.Call (.Attribute o m apos) (e :: es) [] pos) X.env=(do
   let ov <- eval o X.env
   standAt apos.atName
   let (f,first) <- holding [ov] (getMethod ov m pl)
   callWith pos f first (backTo pos (starEach (e :: es) X.env)) (backToKw pos (keywordEach [] X.env))):=by rfl) :
  PE X (.Call (.Attribute o m apos) (e :: es) [] pos) (HS C m sp dvs E ta t):=by
 intro pins s σ H Q I h;refine W.methodCall_KW (pl:=pl) (thn (he pins s σ H _ I h) λu s1 ⟨x,H1,I1,rx,a,dx,fs,ex,ea,l,q⟩=>?_) ht;subst ex;obtain rfl:u=Value.ref a:=rx;refine rm I1 ea c hm l ?_;refine W.callWith_K (first:=[.ref a]) (h₀:=X.base) I.ok.mod.kin hm.kp (thn (ha pos pins s1 σ H1 _ I1 q) λus s2 ⟨vs,H2,I2,r,q2⟩=>⟨I2.kIn,?_⟩) hst hpl;exact vF (us:=.ref a :: us) (vs:=.ref a :: vs) F hr hb hd hx I2 (.cons rfl r) q2
structure Mk (K:W.Frag) (C f:Addr):Prop where
 makes:W.makesIn K C=true
 init:W.findIn K (.ref C) "__init__" = some (some (.ref f))
 fn:W.isFn K (.ref f)=true
 kp:W.keepIn K (.ref C)=true
theorem vG {pins:List (Addr×Obj)} {σ:St} {H:Hp} {s:Shared} {Q:VK} {us:List Value} {vs:List V} (M:Mk X.K C f) (F:FnOk X.prog X.w X.K X.mg X.base CX k f fd ps sp) (hr:Room (k+1) X.A) (hb:Binds X.K fd ps ds) (hd:Vals dvs ds)
  (hx:gc CX X E) (I:Inv X pins σ H s) (r:Vals vs us)
  (h:∀ x dx,H x=none->H dx=none->dx≠x->sp (.ref x :: (vs++dvs)) (upd (upd H dx (.own x)) x (.ins C dx [])) (λv H2=>v=.non/\Q (.ref x) H2) E) :
  wpAny (model X.prog X.w) X.A (call (.ref C) us) (EP X pins σ Q) X.xe s:=by
 have hq:=h (s.heap.objs.size+1) s.heap.objs.size (I.hok.fresh (aBX _)) (I.hok.fresh (aAo _)) (aAI (aA9 _));have I2:=Inv.made (C:=C) I;have r2:Vals (V.ref (s.heap.objs.size+1) :: (vs++dvs)) (Value.ref (s.heap.objs.size+1) :: (us++ds)):=.cons rfl (r.append hd);have hl:(Value.ref (s.heap.objs.size+1) :: us++ds).length=ps.length:=by
  have e:=r2.length;rw [F.len _ _ _ _ hq] at e;exact e.symm
 refine wpAny_call (vC (f:=f) I.kIn M.makes M.init (beq_iff_eq.mp M.fn) (codeAny_mono (F.run _ X.stack _ _ ⟨Value.ref (s.heap.objs.size+1) :: us,[]⟩ (Value.ref (s.heap.objs.size+1) :: (us++ds)) _ _ E (hr.make C us [])
  (I2.env0.make C us []) (hb _ (Value.ref (s.heap.objs.size+1) :: us) I2.kIn hl) r2 hq) λr s' hq'=>?_))
 cases r with
 | error e=>exact hx pins σ _ _ e s' I2 hq'
 | ok fl =>
  cases fl with
  | ret u =>
   obtain ⟨v,H',I3,rv,ev,q3⟩:=I2.after hq';subst ev;exact ⟨rv,⟨V.ref (s.heap.objs.size+1),H',I3,rfl,q3⟩⟩
  | next=>exact False.elim hq'
  | brk=>exact False.elim hq'
  | cont=>exact False.elim hq'
theorem xP (M:Mk X.K C f) (F:FnOk X.prog X.w X.K X.mg X.base CX k f fd ps sp) (hr:Room (k+1) X.A) (hg:Gl X x) (hm:X.mg x=some (.ref C)) (hb:Binds X.K fd ps ds) (hd:Vals dvs ds) (hx:gc CX X E)
  (ha:PA X (e :: es) t) (hdb:(x == ("__debug__" : Str))=false:=by decide) (he:starEach (e :: es) X.env=(false,eval e X.env) :: starEach es X.env:=by rfl) (hpl:(backTo pos (starEach es X.env)).any (·.1)=false:=by rfl) :
  PE X (.Call (.Name x p) (e :: es) [] pos) (HU C sp dvs E t):=by
 intro pins s σ H Q I h;refine wpAny_Call_Name_kw (iI I hg hm ?_ hdb);refine W.callWith_K (h₀:=X.base) I.ok.mod.kin M.kp (thn (ha pos pins s σ H _ I h) λus s1 ⟨vs,H1,I1,r,q⟩=>⟨I1.kIn,?_⟩) he hpl;exact vG M F hr hb hd hx I1 r q
end
section
variable {X:Cx} {CX:CXT} {k:Nat} {f C:Addr} {fd:FuncData} {ps ks:List Str} {sp:Sp} {E:XK} {x m:Str} {p pos apos kpos:Pos} {e o:Expr} {es:List Expr} {kws:List Keyword} {te ta:TE} {t tk:TA} {nm:Option Str}
variable {g:List Value->List Value->List Value} {gV:List V->List V->List V}
end
structure FnScope (N P:List Str) (sc:Scope):Prop where
 kind:sc.kind=.function
 co:sc.isCoroutine=false
 gen:sc.isGenerator=false
 nd:N.Nodup
 pre:N.take P.length=P
 par:∀ x∈P,sc.names.lookup x=some .local\/sc.names.lookup x=some .cell
 nofree:∀ y∈sc.names,y.2≠.free
theorem m4 {kindOf:Str->Option NameKind} {x:Str}:∀ {binds:List (Str×Value)} {m:Str->Option Value},(∀ v,(x,v)∉binds)->bindL kindOf binds m x=m x
 | [],_,_=>rfl
 | (n,v) :: r,m,h=>by
  unfold bindL;rw [m4 λw hw=>h w (aAf _ hw)]
  split
  ·have:x≠n:=by rintro rfl;exact h v aAh
   simp [this]
  ·rfl
theorem m5 {kindOf:Str->Option NameKind} {x:Str}:∀ {binds:List (Str×Value)} {m:Str->Option Value},(∀ v,(x,v)∉binds)->bindC kindOf binds m x=m x
 | [],_,_=>rfl
 | (n,v) :: r,m,h=>by
  unfold bindC;rw [m5 λw hw=>h w (aAf _ hw)]
  split
  ·rfl
  ·have:x≠n:=by rintro rfl;exact h v aAh
   simp [this]
theorem m6 {kindOf:Str->Option NameKind} {x:Str} {v:Value}:∀ {P:List Str} {vs:List Value} {i:Nat} {m:Str->Option Value},P.Nodup->P[i]?=some x->vs[i]?=some v->kindOf x=some .local ->
  bindL kindOf (P.zip vs) m x=some v
 | [],_,_,_,_,h,_,_=>by simp at h
 | _ :: _,[],_,_,_,_,h,_=>by simp at h
 | p :: P,w :: vs,0,m,nd,h1,h2,hk=>by
  simp at h1 h2;subst h1;subst h2;show bindL kindOf ((p,w) :: P.zip vs) m p=_;unfold bindL;rw [m4 λv hv=>(aBd.mp nd).1 (aBT hv).1,if_pos hk];simp
 | p :: P,w :: vs,i+1,m,nd,h1,h2,hk=>by
  show bindL kindOf ((p,w) :: P.zip vs) m x=_;unfold bindL;exact m6 (i:=i) (aBd.mp nd).2 (by simpa using h1) (by simpa using h2) hk
theorem m7 {kindOf:Str->Option NameKind} {x:Str} {v:Value}:∀ {P:List Str} {vs:List Value} {i:Nat} {m:Str->Option Value},P.Nodup->P[i]?=some x->vs[i]?=some v->kindOf x≠some .local ->
  bindC kindOf (P.zip vs) m x=some v
 | [],_,_,_,_,h,_,_=>by simp at h
 | _ :: _,[],_,_,_,_,h,_=>by simp at h
 | p :: P,w :: vs,0,m,nd,h1,h2,hk=>by
  simp at h1 h2;subst h1;subst h2;show bindC kindOf ((p,w) :: P.zip vs) m p=_;unfold bindC;rw [m5 λv hv=>(aBd.mp nd).1 (aBT hv).1,if_neg hk];simp
 | p :: P,w :: vs,i+1,m,nd,h1,h2,hk=>by
  show bindC kindOf ((p,w) :: P.zip vs) m x=_;unfold bindC;exact m7 (i:=i) (aBd.mp nd).2 (by simpa using h1) (by simpa using h2) hk
def iM (N:List Str) (vs:List V):St:=vs.map some++List.replicate (N.length - vs.length) none
def pS (CX:CXT) (P:Program) (w:World) (K:W.Frag) (mg:Str->Option Value) (base:Heap) (N:List Str) (qual:Str) (scope:Scope) (f:Addr) (cd:Value) (A:Around) (outer:List Env) (s:Shared) (H:Hp) (E:XK):Cx where
 prog:=P
 w:=w
 K:=K
 mg:=mg
 base:=base
 A:=A.deeper (envOfC qual scope s.heap.objs.size f cd)
 N:=N
 s₀:=s
 H₀:=H
 env:=envOfC qual scope s.heap.objs.size f cd
 outer:=outer
 stack:=envOfC qual scope s.heap.objs.size f cd :: outer
 ex:=[]
 calm:=true
 fn:=λ_=>true
 pn:=[]
 xe:=λe s'=>wpAny (model P w) (A.deeper (envOfC qual scope s.heap.objs.size f cd)) (leaving (envOfC qual scope s.heap.objs.size f cd) e) (λ_ s''=>CX outer H s E e s'') (λe' s''=>CX outer H s E e' s'') s'
theorem pT {sc:Scope} {n:Nat} {x:Str} (h:sc.names.lookup x=some .cell):∃ c,(cellsFrom n sc.names []).lookup x=some c:=by
 have q:=W.cellsFrom_some sc.names n [] (.inl h);exact Option.isSome_iff_exists.mp q
theorem uB {CX:CXT} {P:Program} {w:World} {K:W.Frag} {mg:Str->Option Value} {base:Heap} {N ps:List Str} {qual:Str} {scope:Scope} {f:Addr} {cd:Value} {A:Around} {outer:List Env} {s s1:Shared} {H:Hp} {E:XK} {us:List Value} {vs:List V}
  (S:FnScope N ps scope) (hd:A.handled=none) (e0:Env0 P w K mg base A outer s H) (hl:vs.length=ps.length) (r:Vals vs us)
  (x:InCallC s s.heap.objs.size (bindL (envOfC qual scope s.heap.objs.size f cd).kindOf (ps.zip us) λ_=>none) (cellsFrom (s.heap.objs.size+1) scope.names []) (bindC (envOfC qual scope s.heap.objs.size f cd).kindOf (ps.zip us) λ_=>none) s1) :
  Inv (pS CX P w K mg base N qual scope f cd A outer s H E) [] (iM N vs) H s1:=by
 have hpl:ps.length<=N.length:=by have:=congrArg List.length S.pre;rw [aAF] at this;lia
 obtain ⟨h1,tk,rfl,hk⟩:=x.done;have noA:∀ b:Addr,b∉(pS CX P w K mg base N qual scope f cd A outer s H E).ex:=λb z=>absurd (show b∈([]:List Addr) from z) (by simp);refine ⟨⟨e0.mod,S.kind,rfl,rfl,aAo _,λy z c h1 h2=>?_,λy hy=>?_,λy c _ h=>?_,λ_=>hd,Around.frames_deeper e0.frames,.inr ⟨rfl,rfl⟩,λb z=>absurd z (noA b),e0.bs,e0.bsz,λb _ _=>noA b,λb z=>absurd z (noA b),e0.funs,e0.frf⟩,
  rfl,e0.bare,Un.kept hk,⟨_,x.toInCall.ns,λi y v h1 h2 h3=>?_⟩,λy c h=>⟨_,x.cell y c h⟩,e0.hok.fresh (aAo _),λy c h=>?_,λp hp=>absurd (show p∈([]:List (Addr×Obj)) from hp) (by simp),e0.hok.kept hk,?_⟩
 ·exact name_of_addr x.apart (PySem.mem_of_lookup h1) (PySem.mem_of_lookup h2)
 ·have hy:scope.names.lookup y=some .cell\/scope.names.lookup y=some .free:=hy;rcases hy with hy | hy
  ·exact pT hy
  ·exact absurd rfl (S.nofree _ (PySem.mem_of_lookup hy))
 ·exact aBa (x.above y c (PySem.mem_of_lookup h))
 ·have hi:i < vs.length:=by
   unfold iM at h2
   by_cases hi:i < vs.length
   ·exact hi
   ·rw [aBm (by simpa using hi)] at h2;rw [aBS] at h2
    split at h2 <;> cases h2
  have ha:vs[i]?=some v:=by
   unfold iM at h2;rw [aBJ (by simpa using hi),aAg] at h2
   cases e:vs[i]? with
   | none=>rw [e] at h2;cases h2
   | some a=>rw [e] at h2;cases h2;rfl
  obtain ⟨u,hu,rv⟩:=r.get ha;have hp:ps[i]?=some y:=by
   rw [<- S.pre,List.getElem?_take_of_lt (3)];exact h1
  have ndP:ps.Nodup:=by rw [<- S.pre];exact S.nd.sublist (List.take_sublist _ _)
  refine ⟨u,rv,?_⟩;rcases S.par y (aAs hp) with k | k
  ·exact .inl ⟨k,m6 ndP hp hu k⟩
  ·obtain ⟨c,e⟩:=pT (n:=s.heap.objs.size+1) k;refine .inr ⟨.inl k,c,e,?_⟩;have q:=x.cell y c e;rw [m7 ndP hp hu (by show scope.names.lookup y≠_;rw [k];decide)] at q;exact q
 ·exact e0.hok.fresh (aBa (x.above y c (PySem.mem_of_lookup h)))
 ·unfold iM;show _=N.length;rw [aAc,aAa,aAW];lia
theorem yM {CX:CXT} {P:Program} {w:World} {K:W.Frag} {mg:Str->Option Value} {base:Heap} {k:Nat} {f:Addr} {name qual:Str} {params:Arguments} {body:List Stmt} {scope:Scope} {dV kV doc pm cdv ct oc:Value} {an od:Option Addr}
  {osl:Array (Option Value)} {N ps:List Str} {sp:Sp} (lk:K.lookup f=some ⟨oc,od,.func (W.fnOf name qual params body scope dV kV doc pm an cdv ct),osl⟩) (hcd:W.codeIn K cdv qual=true) (S:FnScope N ps scope)
  (len:∀ vs H Q E,sp vs H Q E->vs.length=ps.length)
  (hbody:∀ (A:Around) (outer:List Env) (s:Shared) (H:Hp) (vs:List V) (Q:VK) (E:XK),Room k (A.deeper (envOfC qual scope s.heap.objs.size f cdv))->sp vs H Q E ->
   ∃ t,PSs (pS CX P w K mg base N qual scope f cdv A outer s H E) body t/\t { nx:=λ_ H'=>Q .non H',rt:=Q } (iM N vs) H) :
  FnOk P w K mg base CX (k+1) f (W.fnOf name qual params body scope dV kV doc pm an cdv ct) ps sp:=by
 refine ⟨len,λA outer s H args us vs Q E hr e0 hb r hsp=>?_⟩;have hl:=len _ _ _ _ hsp;have KX:K.In s.heap:=e0.mod.kin.keeps λb o e=>(e0.bs b o e).1;have lim:s.heap.NoLimit:=e0.mod.nolimit.keeps λb o e=>(e0.bs b o e).1;have hkind:∀ y∈ps.zip us,scope.names.lookup y.1=some .local\/(scope.names.lookup y.1=some .cell/\((cellsFrom (s.heap.objs.size+1) scope.names []).lookup y.1).isSome=true):=λ⟨n,v⟩ hy=>by
  rcases S.par n (aBT hy).1 with q | q
  ·exact .inl q
  ·exact .inr ⟨q,W.cellsFrom_some _ _ _ (.inl q)⟩
 refine codeAny_call_function hr.depth (KX _ _ lk) rfl S.co S.gen rfl (W.codeRec_of KX hcd) (hb _ _ _ _ ?_);refine wpAny_newFunctionEnv_cells S.kind hkind λenv he s1 x=>?_;subst he;refine ⟨lim.keeps x.toInCall.keep,codeAny_func ?_⟩;obtain ⟨t,ht,hq⟩:=hbody A outer s H vs Q E (hr.deeper _) hsp;have I:Inv (pS CX P w K mg base N qual scope f cdv A outer s H E) [] (iM N vs) H s1:=uB S hr.hd e0 hl r x;refine wpAny_mono (ht [] s1 (iM N vs) H _ I hq) (λfl s' hs=>?_) λe s' hs=>hs;have fin:∀ {σ':St} {H':Hp} {v:V} {u:Value},Inv (pS CX P w K mg base N qual scope f cdv A outer s H E) [] σ' H' s'->RelV v u->Q v H'->CE outer P w H s Q u s' :=
  λ{σ' H' v u} J rv q=>⟨v,H',J.os,J.bare,J.base,J.hok,rv,q⟩
 cases fl with
 | ret u =>
  obtain ⟨v,σ',H',J,rv,q⟩:=hs;exact fin J rv q
 | next =>
  obtain ⟨σ',H',J,q⟩:=hs;exact fin (v:=V.non) (u:=Value.none) J rfl q
 | brk =>
  obtain ⟨_,_,_,q⟩:=hs;exact False.elim q
 | cont =>
  obtain ⟨_,_,_,q⟩:=hs;exact False.elim q
section
variable {X:Cx} {x:Str} {p pos:Pos} {e:Expr} {es:List Expr} {t:TA} {id T:String} {r:List V->Hp->VK->Prop}
def tCB (r:List V->Hp->VK->Prop) (t:TA):TE:=λσ H Q=>t σ H λvs H1=>r vs H1 Q
theorem pe_callB (hc:bJ X (.builtin id) r) (hg:Gl X x) (hm:X.mg x=none) (hv:bootBuiltins x=some (.builtin id)) (ha:PA X (e :: es) t) (hn:x≠ "__name__" :=by decide) (hdb:(x == ("__debug__" : Str))=false:=by decide)
  (he:starEach (e :: es) X.env=(false,eval e X.env) :: starEach es X.env:=by rfl) (hpl:(backTo pos (starEach es X.env)).any (·.1)=false:=by rfl):PE X (.Call (.Name x p) (e :: es) [] pos) (tCB r t):=by
 intro pins s σ H Q I h;refine wpAny_Call_Name_kw (jw I hg hm hv ?_ hn hdb);exact PyProof.Rows.callWith_builtin1 (thn (ha pos pins s σ H _ I h) λus s1 ⟨vs,H1,I1,r1,q1⟩=>hc pins s1 σ H1 vs us Q I1 r1 q1) he hpl
theorem pe_callTy (hc:bJ X (.type T) r) (hg:Gl X x) (hm:X.mg x=none) (hv:bootBuiltins x=some (.type T)) (ha:PA X (e :: es) t) (hn:x≠ "__name__" :=by decide) (hdb:(x == ("__debug__" : Str))=false:=by decide)
  (he:starEach (e :: es) X.env=(false,eval e X.env) :: starEach es X.env:=by rfl) (hpl:(backTo pos (starEach es X.env)).any (·.1)=false:=by rfl):PE X (.Call (.Name x p) (e :: es) [] pos) (tCB r t):=by
 intro pins s σ H Q I h;refine wpAny_Call_Name_kw (jw I hg hm hv ?_ hn hdb);exact PyProof.Rows.callWith_type1 (thn (ha pos pins s σ H _ I h) λus s1 ⟨vs,H1,I1,r1,q1⟩=>hc pins s1 σ H1 vs us Q I1 r1 q1) he hpl
end
end L2
namespace HT
open PySem PyProof.Rows
section
open PySem.SeqAt
open PySem.AutoSeq1 (wpAny_loadPart')
open PySem.MeetsSeq PySem.MeetsSeq2 PySem.MeetsSeq3
end
section
variable {prog:Program} {w:World} {A:Around} {E:Value->Shared->Prop} {s:Shared}
theorem cat_tup {t b:Addr} {vs ws:List Value} {Q:Value->Shared->Prop} (ht:IsTup s.heap t vs.toArray) (hb:IsTup s.heap b ws.toArray) (hv:vs≠[])
  (h1:ws=[]->Q (.ref t) s) (h2:ws≠[]->Q (.ref s.heap.objs.size) { s with heap:=s.heap.push { cls:=.type "tuple",data:=.seq (vs++ws).toArray } })
  (hsz:vs.length+ws.length<=sizeLine):wpAny (model prog w) A (binaryOp .Add (.ref t) (.ref b)) Q E s:=by
 obtain ⟨⟨cls,dd,data,sl⟩,ho,hc,n,hd⟩:=id ht;obtain ⟨⟨cls2,dd2,data2,sl2⟩,ho2,hc2,n2,hd2⟩:=id hb;simp only at hc hd hc2 hd2;subst hc hd hc2 hd2;have e:vs.toArray++ws.toArray=(vs++ws).toArray:=by simp
 by_cases hw:ws=[]
 ·exact concat_meets ⟨_,ho,rfl⟩ ⟨_,ho2,rfl⟩ noFill_tuple_add seq_tuple_add PySem.F.slot_tuple_add PySem.F.entry_tuple_add (PySem.F.args_tuple_add_2 _ _)
   (tuple_addW1 t b vs.toArray ws.toArray n n2 dd dd2 sl sl2 (by simpa using hv) (by simp [hw])) ⟨ho,ho2,h1 hw⟩
 ·refine concat_meets ⟨_,ho,rfl⟩ ⟨_,ho2,rfl⟩ noFill_tuple_add seq_tuple_add PySem.F.slot_tuple_add PySem.F.entry_tuple_add (PySem.F.args_tuple_add_2 _ _)
   (tuple_addW2 t b vs.toArray ws.toArray n n2 dd dd2 sl sl2 (by simpa using hv) (by simpa using hw) (by rw [aAw,aAw];exact hsz)) ⟨ho,ho2,?_⟩
  rw [e];exact h2 hw
def sIx (n d:Nat):Option Int->Nat
 | none=>d
 | some v=>if v < 0 then (v+(n:Int)).toNat else min v.toNat n
theorem sIx_none (n d:Nat):sIx n d none=d:=rfl
theorem sIx_nat (n d k:Nat):sIx n d (some (k:Int))=min k n:=by
 show (if (k:Int) < 0 then ((k:Int)+(n:Int)).toNat else min (k:Int).toNat n)=min k n;rw [if_neg (3),aBf]
theorem BI (n d:Nat) (hd:d<=n) (o:Option Int):sIx n d o<=n:=by
 cases o with
 | none=>exact hd
 | some v =>
  show (if v < 0 then (v+(n:Int)).toNat else min v.toNat n)<=n
  by_cases hv:v < 0
  ·rw [if_pos hv];lia
  ·rw [if_neg hv];exact Nat.min_le_right _ _
theorem sR (v:Int) (n d:Nat):(if v < 0 then max (v+(n:Int)) 0 else min v (n:Int))=((sIx n d (some v):Nat):Int):=by
 show (if v < 0 then max (v+(n:Int)) 0 else min v (n:Int))=(((if v < 0 then (v+(n:Int)).toNat else min v.toNat n):Nat):Int)
 by_cases hv:v < 0
 ·simp only [if_pos hv];lia
 ·simp only [if_neg hv];lia
theorem rA (lo hi:Option Int) (n:Nat):Builtin.Slice.sliceAdjust lo hi 1 (n:Int)=(((sIx n 0 lo:Nat):Int),((sIx n n hi:Nat):Int)):=by
 have h1:¬ ((1:Int) < 0):=(3)
 unfold Builtin.Slice.sliceAdjust;simp only [h1,if_false];refine Prod.ext ?_ ?_
 ·cases lo with
  | none=>rfl
  | some v=>exact sR v n 0
 ·cases hi with
  | none=>rfl
  | some v=>exact sR v n n
theorem rB (i j:Nat):Builtin.Slice.slicePlaces (i:Int) (j:Int) 1=j - i:=by
 unfold Builtin.Slice.slicePlaces;have h1:(1:Int) > 0:=(3)
 simp only [h1,if_true,Int.ediv_one]
 split <;> lia
theorem k6 {v:Value} {o:Option Int} {Q:Option Int->Shared->Prop} (p:IsPart v o) (h:Q o s):wpAny (model prog w) A (Builtin.Slice.slicePartIndex v) Q E s:=by
 cases p with
 | none=>exact slicePart_none h
 | int i t=>exact slicePart_int h
theorem eR {sl:Addr} {vl vu:Value} {lo hi:Option Int} {n:Nat} {Q:Int×Int×Nat->Shared->Prop} (hs:s.heap.IsSliceOf sl vl vu .none) (pl:IsPart vl lo) (pu:IsPart vu hi)
  (h:Q (((sIx n 0 lo:Nat):Int),1,sIx n n hi - sIx n 0 lo) s):wpAny (model prog w) A (Builtin.Slice.sliceApplied (.ref sl) (pure (n:Int))) Q E s:=by
 obtain ⟨os,hos,hcs,hds⟩:=id hs;unfold Builtin.Slice.sliceApplied Builtin.Slice.sliceFields;refine wpAny_bind (wpAny_bind (wpAny_field hos hds (x:=vl) rfl (wpAny_bind (wpAny_field hos hds (x:=vu) rfl (wpAny_bind (wpAny_field hos hds (x:=.none) rfl (wpAny_pure ?_)))))));refine wpAny_bind (slicePart_none ?_);show wpAny _ _ (if ((1:Int) == 0)=true then _ else _) _ _ s;rw [if_neg (by decide)];refine wpAny_bind (k6 pl (wpAny_bind (k6 pu (wpAny_bind (wpAny_pure ?_)))));show wpAny _ _ (match Builtin.Slice.sliceAdjust lo hi 1 (n:Int) with | (lo,hi)=>pure (lo,(1:Int),Builtin.Slice.slicePlaces lo hi 1)) _ _ s;rw [rA lo hi n];show wpAny _ _ (pure (((sIx n 0 lo:Nat):Int),(1:Int),Builtin.Slice.slicePlaces ((sIx n 0 lo:Nat):Int) ((sIx n n hi:Nat):Int) 1)) _ _ s;rw [rB];exact wpAny_pure h
theorem vH (xs:Array Value) (i k:Nat):((List.range k).filterMap λ(m:Nat)=>xs[((i:Int)+(m:Int)*1).toNat]?).toArray=((xs.toList.drop i).take k).toArray:=by
 have e:(λ(m:Nat)=>xs[((i:Int)+(m:Int)*1).toNat]?)=λm=>xs[i+m]?:=by
  funext m
  have:((i:Int)+(m:Int)*1).toNat=i+m:=(3)
  rw [this]
 rw [e];have:=pick_run xs i k;rw [List.filterMap_map] at this;have e2:((λx=>xs[x]?) ∘ λx=>i+x)=λm=>xs[i+m]?:=rfl;rw [e2] at this;rw [this]
theorem getItem_tuple_cut {t sl:Addr} {items:Array Value} {vl vu:Value} {lo hi:Option Int} {Q:Value->Shared->Prop} (ht:IsTup s.heap t items) (hs:s.heap.IsSliceOf sl vl vu .none) (pl:IsPart vl lo) (pu:IsPart vu hi)
  (hw:¬ (sIx items.size 0 lo=0/\sIx items.size items.size hi=items.size))
  (h:Q (.ref s.heap.objs.size) { s with heap:=s.heap.push { cls:=.type "tuple",data:=.seq ((items.toList.drop (sIx items.size 0 lo)).take (sIx items.size items.size hi - sIx items.size 0 lo)).toArray } })
  (hsz:items.size<=sizeLine):wpAny (model prog w) A (getItem (.ref t) (.ref sl)) Q E s:=by
 have htake:sizeOk (.seq ((items.toList.drop (sIx items.size 0 lo)).take (sIx items.size items.size hi - sIx items.size 0 lo)).toArray):=by
  show ((items.toList.drop (sIx items.size 0 lo)).take (sIx items.size items.size hi - sIx items.size 0 lo)).toArray.size<=sizeLine;rw [aAw,aAF,aAK,aAU];lia
 have hj:sIx items.size items.size hi<=items.size:=BI _ _ (aAo _) hi;obtain ⟨os,hos,hcs,hds⟩:=id hs;have hTs:s.TypeIs (.ref sl) "slice" :=⟨os,hos,hcs⟩;unfold getItem
 try with_reducible refine wpAny_holding ?_
 first | refine wpAny_bind (wpAny_pure ?_) | skip
 refine wpAny_bind (wpAny_sequenceKey ht.typeIs (by decide) ?_);refine wpAny_bind (wpAny_callSpecial?_slot (name:=Str.ofString "__getitem__") ht.typeIs PyProof.Rows.slot_tuple_getitem
  (wpAny_call_entry PyProof.Rows.slot_tuple_getitem ht.typeIs entry_tuple_getitem ?_ (args_tuple_getitem _ _)))
 show wpAny _ _ (Builtin.Tuple.tupleItemsOf (.ref t) >>= _) _ _ s;refine wpAny_bind (tupleItemsOf_ ht ?_);refine wpAny_bind (wpAny_typeOf hTs ?_);rw [if_pos (by decide)];refine wpAny_bind (eR hs pl pu ?_);have hno:¬ ((((sIx items.size 0 lo:Nat):Int) == 0 && (1:Int) == 1 && (sIx items.size items.size hi - sIx items.size 0 lo) == items.size)=true):=by
  intro q;rw [aAB,aAB] at q;have q1:((sIx items.size 0 lo:Nat):Int)=0:=eq_of_beq q.1.1;have q2:sIx items.size items.size hi - sIx items.size 0 lo=items.size:=eq_of_beq q.2;exact hw ⟨by lia,(3)⟩
 show wpAny _ _ (if (((sIx items.size 0 lo:Nat):Int) == 0 && (1:Int) == 1 && (sIx items.size items.size hi - sIx items.size 0 lo) == items.size)=true then _ else _) _ _ s;rw [if_neg hno,vH]
 first
  | exact wpAny_bind (m:=Builtin.Tuple.tupleExact _) (wpAny_newObj_type (wpAny_pure ⟨_,rfl,wpAny_pure h⟩) htake)
  | exact wpAny_bind (m:=Builtin.Tuple.tupleExact _) (wpAny_newObj_type (wpAny_bind (wpAny_pure (wpAny_pure ⟨_,rfl,wpAny_pure h⟩))) htake)
  | exact wpAny_bind (wpAny_bind (m:=Builtin.Tuple.tupleExact _) (wpAny_newObj_type (wpAny_pure (wpAny_pure ⟨_,rfl,wpAny_pure h⟩)) htake))
  | exact wpAny_bind (wpAny_bind (m:=Builtin.Tuple.tupleExact _) (wpAny_newObj_type (wpAny_pure ⟨_,rfl,wpAny_pure h⟩) htake))
end
end HT
namespace L2
open PySem PySem.Spec PyProof.Rows
abbrev TO:=St->Hp->(Option Int->Hp->Prop)->Prop
def PO (X:Cx) (e:Option Expr) (t:TO):Prop :=
 ∀ (pins:List (Addr×Obj)) (s:Shared) (σ:St) (H:Hp) (Q:Option Int->Hp->Prop),Inv X pins σ H s->t σ H Q ->
  wpAny (model X.prog X.w) X.A (evalPart e X.env) (λu s'=>∃ o H',Inv X pins σ H' s'/\IsPart u o/\Q o H') X.xe s
def xQ:TO:=λ_ H Q=>Q none H
inductive IPrt (x:V) (H1:Hp) (Q:Option Int->Hp->Prop):Prop
 | mk (i:Int):(x=.int i)->(Q (some i) H1)->IPrt x H1 Q
def HV (t:TE):TO:=λσ H Q=>t σ H λx H1=>IPrt x H1 Q
section
variable {X:Cx} {e:Expr} {te:TE} {lo hi:Option Expr} {tl th:TO} {pos p2:Pos}
theorem cp:PO X none xQ:=by
 intro pins s σ H Q I h;rw [evalPart_none];exact wpAny_pure ⟨none,H,I,.none,h⟩
theorem po_some (h:PE X e te):PO X (some e) (HV te):=by
 intro pins s σ H Q I hw;rw [evalPart_some];refine thn (h pins s σ H _ I hw) λu s1 ⟨x,H1,I1,r1,q1⟩=>?_;obtain ⟨i,rfl,q⟩:=q1;obtain ⟨t,rfl⟩:=r1;exact ⟨some i,H1,I1,.int i t,q⟩
def SlR (X:Cx) (r:V->Option Int->Option Int->Hp->VK->Prop):Prop :=
 ∀ (pins:List (Addr×Obj)) (s:Shared) (σ:St) (H:Hp) (x:V) (v vl vu:Value) (lo hi:Option Int) (sl:Addr) (Q:VK),Inv X pins σ H s->RelV x v->s.heap.IsSliceOf sl vl vu .none->IsPart vl lo->IsPart vu hi->r x lo hi H Q ->
  ∃ T id,typeLookup (.type T) "__getitem__" = pure (some (.builtin id))/\s.TypeIs v T/\wpAny (model X.prog X.w) X.A (getItem v (.ref sl)) (EP X pins σ Q) X.xe s
def tSl (r:V->Option Int->Option Int->Hp->VK->Prop) (te:TE) (tl th:TO):TE:=λσ H Q=>te σ H λx H1=>tl σ H1 λl H2=>th σ H2 λu H3=>r x l u H3 Q
theorem pe_slice {r:V->Option Int->Option Int->Hp->VK->Prop} (hr:SlR X r) (he:PE X e te) (hl:PO X lo tl) (hu:PO X hi th):PE X (.Subscript e (.Slice lo hi none p2) pos) (tSl r te tl th):=by
 intro pins s σ H Q I h;refine Subscript_ (thn (he pins s σ H _ I h) λv s1 ⟨x,H1,I1,r1,q1⟩=>?_);refine wpAny_Slice (thn (hl pins s1 σ H1 _ I1 q1) λvl s2 ⟨l,H2,I2,pl,q2⟩=>thn (hu pins s2 σ H2 _ I2 q2) λvu s3 ⟨u,H3,I3,pu,q3⟩=>?_);rw [evalPart_none];refine wpAny_pure ?_;have I4:Inv X pins σ H3 { s3 with heap:=s3.heap.push { cls:=.type "slice",data:=.fields #[vl,vu,.none] } }:=I3.kept (t':=s3.toks) λb ob q=>aAe _ q;obtain ⟨T,id,hT,ht,hg⟩:=hr pins { s3 with heap:=s3.heap.push { cls:=.type "slice",data:=.fields #[vl,vu,.none] } } σ H3 x v vl vu l u s3.heap.objs.size Q I4 r1 (Heap.IsSliceOf.new ..) pl pu q3;show wpAny (model X.prog X.w) X.A (subscriptTail e (.Slice lo hi none p2) v (.ref s3.heap.objs.size)) (EP X pins σ Q) X.xe { s3 with heap:=s3.heap.push { cls:=.type "slice",data:=.fields #[vl,vu,.none] } };exact tail_any (ops:=[.ref s3.heap.objs.size,v]) ht hT hg (by with_unfolding_all rfl)
def k7 (xs:List V) (lo hi:Option Int):List V:=(xs.drop (HT.sIx xs.length 0 lo)).take (HT.sIx xs.length xs.length hi - HT.sIx xs.length 0 lo)
theorem j9 (xs:List V) (lo hi:Option Int):(k7 xs lo hi).length<=xs.length:=by
 unfold k7;rw [aAF,aAK];lia
theorem Vals.nil_iff {xs:List V} {us:List Value} (r:Vals xs us):us=[]↔xs=[]:=by
 cases r with
 | nil=>simp
 | cons _ _=>simp
end
def ixN (n:Nat) (i:Int):Option Nat:=if 0<=i then (if i < n then some i.toNat else none) else if -(n:Int)<=i then some (i+n).toNat else none
def atI {α:Type} (xs:List α) (i:Int):Option α:=(ixN xs.length i).bind λj=>xs[j]?
theorem kM {n:Nat} {i:Int} {j:Nat} (h:ixN n i=some j):seqIndex? i n=some j/\j < n/\-(n:Int)<=i/\i < n:=by
 unfold ixN at h
 by_cases h0:0<=i
 ·rw [if_pos h0] at h
  by_cases h1:i < n
  ·rw [if_pos h1] at h;have e:i.toNat=j:=Option.some.inj h;exact ⟨by rw [seqIndex_of h0 h1,e],(3),(3),h1⟩
  ·rw [if_neg h1] at h;cases h
 ·rw [if_neg h0] at h
  by_cases h1:-(n:Int)<=i
  ·rw [if_pos h1] at h;have e:(i+n).toNat=j:=Option.some.inj h;exact ⟨by rw [seqIndex_neg (3) h1,e],(3),h1,(3)⟩
  ·rw [if_neg h1] at h;cases h
theorem iN {α:Type} {xs:List α} {i:Int} {v:α} (h:atI xs i=some v):∃ j,seqIndex? i xs.length=some j/\xs[j]?=some v/\j < xs.length/\-(xs.length:Int)<=i/\i < xs.length:=by
 unfold atI at h
 cases e:ixN xs.length i with
 | none=>rw [e] at h;cases h
 | some j =>
  rw [e] at h;obtain ⟨h1,h2,h3,h4⟩:=kM e;exact ⟨j,h1,h,h2,h3,h4⟩
theorem fq {α:Type} {xs:List α} {j:Nat} {v:α} (h:xs[j]?=some v):atI xs (j:Int)=some v:=by
 have hj:j < xs.length:=(aAj.mp h).1;have e:ixN xs.length (j:Int)=some j:=by
  unfold ixN;rw [if_pos (3),if_pos (3)];simp
 unfold atI;rw [e];exact h
def xR (b:Expr):Prop:=∀ o i,subscripted b false o i=operate [o,i] (getItem o i)
def IxR (X:Cx) (r:R2):Prop :=
 ∀ (value slice:Expr) (pins:List (Addr×Obj)) (s:Shared) (σ:St) (H:Hp) (x y:V) (v u:Value) (Q:VK),Inv X pins σ H s->RelV x v->RelV y u->r x y H Q ->
  subscripted slice false v u=operate [v,u] (getItem v u)->wpAny (model X.prog X.w) X.A (subscriptTail value slice v u) (EP X pins σ Q) X.xe s
def MtR (X:Cx) (id:String) (r:V->List V->Hp->VK->Prop):Prop :=
 ∀ (pins:List (Addr×Obj)) (s:Shared) (σ:St) (H:Hp) (x:V) (xs:List V) (v:Value) (us:List Value) (Q:VK),Inv X pins σ H s->RelV x v->Vals xs us->r x xs H Q ->
  wpAny (model X.prog X.w) X.A (call (.builtin id) (v :: us)) (EP X pins σ Q) X.xe s
section
variable {X:Cx} {a b:Expr} {ta tb:TE} {pos:Pos}
theorem pe_ix {r:R2} (hr:IxR X r) (ha:PE X a ta) (hb:PE X b tb) (hs:xR b):PE X (.Subscript a b pos) (tOp r ta tb):=by
 intro pins s σ H Q I h;exact Subscript_ (BF ha hb I h λv u s2 x y H2 I2 rx ry q=>hr a b pins s2 σ H2 x y v u Q I2 rx ry q (hs _ _))
inductive IIxL (K:W.Frag) (x y:V) (H:Hp) (Q:VK):Prop
 | mk (p:Addr) (xs:List V) (i:Int) (v:V):(x=.ref p)->(y=.int i)->(SqL K H p xs)->(atI xs i=some v)->(Q v H)->IIxL K x y H Q
def BJ (K:W.Frag):R2:=λx y H Q=>IIxL K x y H Q
def Ji (K:W.Frag):R2:=λx y H Q=>∃ p xs i v,x=.ref p/\y=.int i/\SqT K H p xs/\atI xs i=some v/\Q v H
def Jj:R2:=λx y H Q=>∃ z i c,x=.str z/\y=.int i/\z.length<=sizeLine/\atI z.cps.toList i=some c/\Q (.str ⟨#[c]⟩) H
theorem xS:IxR X (BJ X.K):=by
 intro value slice pins s σ H x y v u Q I rx ry h hs;obtain ⟨p,xs,i,z,rfl,rfl,hq,he,q⟩:=h
 cases rx
 obtain ⟨t,rfl⟩:=ry;obtain ⟨its,r,pl,hz⟩:=I.list hq;obtain ⟨j,h1,h2,h3,h4,h5⟩:=iN he;obtain ⟨w,ew,rw'⟩:=r.get h2;have hl:=r.length;have hn:=jy;have fin:EP X pins σ Q w s:=⟨z,H,I,rw',q⟩
 by_cases h0:0<=i
 ·have hj:i.toNat=j:=by
   rw [seqIndex_of h0 h5] at h1;exact Option.some.inj h1
  exact item_listR pl.isList h0 (3) (by rw [hj];simpa using ew) fin hs
 ·have hj:(i+(its.toArray.size:Int)).toNat=j:=by
   rw [seqIndex_neg (3) h4] at h1;rw [aAw,<- hl];exact Option.some.inj h1
  exact subscriptTail_builtinR (x:=w) pl.isList.typeIs slot_list_getitem.lookup
   (wpAny_getItem_list_neg (Q:=λr s'=>r=w/\EP X pins σ Q r s') pl.isList (3) (by rw [aAw] <;> lia) (3) (by rw [hj];simpa using ew) ⟨rfl,fin⟩) hs
theorem vI:IxR X (Ji X.K):=by
 intro value slice pins s σ H x y v u Q I rx ry h hs;obtain ⟨p,xs,i,z,rfl,rfl,hq,he,q⟩:=h
 cases rx
 obtain ⟨t,rfl⟩:=ry;obtain ⟨its,r,pl,hz⟩:=I.tuple hq;obtain ⟨j,h1,h2,h3,h4,h5⟩:=iN he;obtain ⟨w,ew,rw'⟩:=r.get h2;have hl:=r.length;have hn:=jy;have fin:EP X pins σ Q w s:=⟨z,H,I,rw',q⟩;exact subscriptTail_builtinR (x:=w) pl.typeIs slot_tuple_getitem.lookup
  (getItem_tuple (j:=j) (Q:=λr s'=>r=w/\EP X pins σ Q r s') pl (3) (3) (by rw [aAw,<- hl];exact h1) (by simpa using ew) ⟨rfl,fin⟩) hs
theorem ix_str:IxR X Jj:=by
 intro value slice pins s σ H x y v u Q I rx ry h hs;obtain ⟨z,i,c,rfl,rfl,hz,he,q⟩:=h;obtain ⟨t,rfl⟩:=rx;obtain ⟨t',rfl⟩:=ry;obtain ⟨j,h1,h2,h3,h4,h5⟩:=iN he;have hl:z.cps.toList.length=z.length:=by simp [Str.length]
 rw [hl] at h1 h4 h5;have hn:=jy;exact tail_any (typeIs_str s z t) slot_str_getitem.lookup (getItem_str (c:=c) (by
  have e1:decide (i < -(2 ^ 63:Int))=false:=decide_eq_false (3);have e2:decide (i≥2 ^ 63)=false:=decide_eq_false (3);rw [e1,e2,aB2]) (by rw [h1];simpa using h2) ⟨.str ⟨#[c]⟩,H,I.tok _,⟨_,rfl⟩,q⟩) hs
theorem rC (its:List Value) (n j:Nat) (u:Value):Obj.mapSeq (·.setIfInBounds j u) { cls:=.type "list",data:=.seq its.toArray n }={ cls:=.type "list",data:=.seq (its.set j u).toArray n }:=by
 simp [Obj.mapSeq]
theorem Inv.lst {pins:List (Addr×Obj)} {σ:St} {H:Hp} {s:Shared} {p:Addr} {xs:List V} (I:Inv X pins σ H s) (h:H p=some (.lst xs)) :
  ∃ (its:List Value) (n:Nat),Vals xs its/\s.heap.get? p=some { cls:=.type "list",data:=.seq its.toArray n }/\xs.length<=sizeLine:=by
 obtain ⟨z,its,n,r,e⟩:=I.hok p _ h;exact ⟨its,n,r,e,z⟩
theorem Inv.lstUpd {pins:List (Addr×Obj)} {σ:St} {H:Hp} {s:Shared} {p:Addr} {xs ys:List V} {its its':List Value} {n n':Nat} {f:Obj->Obj} (I:Inv X pins σ H s) (h:H p=some (.lst xs))
  (ho:s.heap.get? p=some { cls:=.type "list",data:=.seq its.toArray n }) (hf:f { cls:=.type "list",data:=.seq its.toArray n }={ cls:=.type "list",data:=.seq its'.toArray n' }) (r:Vals ys its') (hz:ys.length<=sizeLine) (t:Nat) :
  Inv X pins σ (upd H p (.lst ys)) { s with heap:=s.heap.update p f,toks:=t }:=by
 have e:(s.heap.update p f).get? p=some { cls:=.type "list",data:=.seq its'.toArray n' }:=by
  rw [aBv f ho (by rw [hf] <;> rfl),hf]
 refine I.write (x:=p) (e:=p) (by rw [h];trivial) (.inl rfl) (λb u hb q=>(aBr _ _ (Ne.symm hb)).trans q) ⟨_,e⟩ ?_;exact ⟨hz,its',n',r,e⟩
inductive ISetL (o i v:V) (H:Hp) (Q:Hp->Prop):Prop
 | mk (p:Addr) (xs:List V) (k:Int) (j:Nat):(o=.ref p)->(i=.int k)->(H p=some (.lst xs))->(ixN xs.length k=some j)->(Q (upd H p (.lst (xs.set j v))))->ISetL o i v H Q
def HW:V->V->V->Hp->(Hp->Prop)->Prop:=λo i v H Q=>ISetL o i v H Q
theorem k8:HH X HW:=by
 intro pins s σ H o i v ov iv u Q I ro ri rv h;obtain ⟨p,xs,k,j,rfl,rfl,hp,hj,q⟩:=h
 cases ro
 obtain ⟨t,rfl⟩:=ri;obtain ⟨its,n,r,ho,hz⟩:=I.lst hp;obtain ⟨h1,h2,h3,h4⟩:=kM hj;have hl:=r.length;have hn:=jy;have I':Inv X pins σ (upd H p (.lst (xs.set j v))) { s with heap:=s.heap.update p (Obj.mapSeq (·.setIfInBounds j u)) } :=
  I.lstUpd hp ho (rC its n j u) (r.set rv j) (by rw [List.length_set];exact hz) s.toks
 by_cases h0:0<=k
 ·have hk:k.toNat=j:=by
   rw [seqIndex_of h0 h4] at h1;exact Option.some.inj h1
  exact W.ki_setAt ho h0 (3) (by rw [aAw,<- hl];exact h4) (by rw [hk];exact ⟨_,I',q⟩)
 ·have hk:(k+(its.toArray.size:Int)).toNat=j:=by
   rw [seqIndex_neg (3) h3] at h1;rw [aAw,<- hl];exact Option.some.inj h1
  exact W.ki_setBack ho (3) (by rw [aAw,<- hl];exact h3) (3) (by rw [hk];exact ⟨_,I',q⟩)
theorem nX (lo hi:Option Int) (n:Nat):(sliceBounds lo hi none n).1=((HT.sIx n 0 lo:Nat):Int)/\(sliceBounds lo hi none n).2.1=((HT.sIx n n hi:Nat):Int)/\(sliceBounds lo hi none n).2.2=1:=by
 refine ⟨?_,?_,rfl⟩
 ·cases lo with
  | none=>simp [sliceBounds,HT.sIx]
  | some i =>
   simp only [sliceBounds,HT.sIx,Option.getD_none,show (1:Int) > 0 by decide,if_true]
   by_cases h:i < 0
   ·simp only [h,if_true] <;> lia
   ·simp only [h,if_false] <;> lia
 ·cases hi with
  | none=>simp [sliceBounds,HT.sIx]
  | some i =>
   simp only [sliceBounds,HT.sIx,Option.getD_none,show (1:Int) > 0 by decide,if_true]
   by_cases h:i < 0
   ·simp only [h,if_true] <;> lia
   ·simp only [h,if_false] <;> lia
theorem mH (its:List Value) (lo hi:Option Int):slicePick its.toArray lo hi none=((its.drop (HT.sIx its.length 0 lo)).take (HT.sIx its.length its.length hi - HT.sIx its.length 0 lo)).toArray:=by
 obtain ⟨h1,h2,h3⟩:=nX lo hi its.toArray.size;unfold slicePick;rw [h1,h2,h3];simp only [sliceRange_one,pick_run,aAw] <;> rfl
def HX (K:W.Frag):V->Option Int->Option Int->Hp->VK->Prop:=λx lo hi H Q=>∃ a xs,x=.ref a/\SqL K H a xs/\∀ p,H p=none->Q (.ref p) (upd H p (.lst (k7 xs lo hi)))
theorem xT:SlR X (HX X.K):=by
 intro pins s σ H x v vl vu lo hi sl Q I rx hs pl pu h;obtain ⟨a,xs,rfl,hx,q⟩:=h
 cases rx
 obtain ⟨its,r,ht,hz⟩:=I.list hx;have hlen:=r.length;refine ⟨"list",_,slot_list_getitem.lookup,ht.isList.typeIs,?_⟩;refine wpAny_getItem_list_slice ht.isList hs pl pu .none (by simp) ?_ (by rw [aAw] <;> lia);rw [mH,<- hlen];refine ⟨.ref s.heap.objs.size,_,I.laid (t':=s.toks) (o:=.lst (k7 xs lo hi)) (λb ob q=>aAe _ q) (aAo _) ?_,rfl,q _ (I.hok.fresh (aAo _))⟩;exact ⟨aAz (j9 xs lo hi) hz,_,0,(r.drop (HT.sIx xs.length 0 lo)).take (HT.sIx xs.length xs.length hi - HT.sIx xs.length 0 lo),aAA _ rfl⟩
def kb:V->Bool
 | .non=>true
 | .bl _=>true
 | .int _=>true
 | .str _=>true
 | _=>false
def eqV:V->V->Bool
 | .non,.non=>true
 | .bl a,.bl b=>a == b
 | .bl a,.int b=>(if a then 1 else 0) == b
 | .int a,.bl b=>a == (if b then 1 else 0)
 | .int a,.int b=>a == b
 | .str a,.str b=>a == b
 | _,_=>false
theorem BK {A:Around} {s:Shared} {y x:V} {u v:Value} (ry:RelV y u) (rx:RelV x v) (fy:kb y=true) (fx:kb x=true):SeqAt.EqAt A s u v (eqV y x):=by
 cases y with
 | non =>
  cases ry
  cases x with
  | non=>cases rx;exact SeqAt.EqAt.same _
  | bl b=>cases rx;exact SeqAt.EqAt.none_bool b
  | int b=>obtain ⟨t,rfl⟩:=rx;exact SeqAt.EqAt.none_int b t
  | str b=>obtain ⟨t,rfl⟩:=rx;exact SeqAt.EqAt.none_str b t
  | _=>exact absurd (show false=true from fx) aAy
 | bl a =>
  cases ry
  cases x with
  | non=>cases rx;exact SeqAt.EqAt.bool_none a
  | bl b=>cases rx;exact SeqAt.EqAt.bool_bool a b
  | int b=>obtain ⟨t,rfl⟩:=rx;exact SeqAt.EqAt.bool_int a b t
  | str b=>obtain ⟨t,rfl⟩:=rx;exact SeqAt.EqAt.bool_str a b t
  | _=>exact absurd (show false=true from fx) aAy
 | int a =>
  obtain ⟨t',rfl⟩:=ry
  cases x with
  | non=>cases rx;exact SeqAt.EqAt.int_none a t'
  | bl b=>cases rx;exact SeqAt.EqAt.int_bool a t' b
  | int b=>obtain ⟨t,rfl⟩:=rx;exact SeqAt.EqAt.int_int a t' b t
  | str b=>obtain ⟨t,rfl⟩:=rx;exact SeqAt.EqAt.int_str a t' b t
  | _=>exact absurd (show false=true from fx) aAy
 | str a =>
  obtain ⟨t',rfl⟩:=ry
  cases x with
  | non=>cases rx;exact SeqAt.EqAt.str_none a t'
  | bl b=>cases rx;exact SeqAt.EqAt.str_bool a t' b
  | int b=>obtain ⟨t,rfl⟩:=rx;exact SeqAt.EqAt.str_int a t' b t
  | str b=>obtain ⟨t,rfl⟩:=rx;exact SeqAt.EqAt.str_str a t' b t
  | _=>exact absurd (show false=true from fx) aAy
 | _=>exact absurd (show false=true from fy) aAy
def eqU (x:V) (u:Value):Bool:=match u with
 | .none=>eqV .non x
 | .bool b=>eqV (.bl b) x
 | .int i _=>eqV (.int i) x
 | .str z _=>eqV (.str z) x
 | _=>false
theorem vJ {x y:V} {u:Value} (r:RelV y u) (f:kb y=true):eqU x u=eqV y x:=by
 cases y with
 | non=>cases r;rfl
 | bl b=>cases r;rfl
 | int i=>obtain ⟨t,rfl⟩:=r;rfl
 | str z=>obtain ⟨t,rfl⟩:=r;rfl
 | _=>exact absurd (show false=true from f) aAy
theorem nY {x:V}:∀ {xs:List V} {us:List Value},Vals xs us->xs.all kb=true->us.any (eqU x)=xs.any λy=>eqV y x
 | _,_,.nil,_=>rfl
 | y :: xs,u :: us,.cons r t,f=>by
  rw [aA8,aAB] at f;rw [aBn,aBn,vJ r f.1,nY t f.2]
theorem k9 {A:Around} {s:Shared} {x:V} {v:Value} (rx:RelV x v) (fx:kb x=true):∀ {xs:List V} {us:List Value},Vals xs us->xs.all kb=true->∀ u∈us,SeqAt.EqAt A s u v (eqU x u)
 | _,_,.nil,_=>λu hu=>by cases hu
 | y :: xs,u :: us,.cons r t,f=>λu' hu=>by
  rw [aA8,aAB] at f;rcases aAn.mp hu with rfl | hu
  ·rw [vJ r f.1];exact BK r rx f.1 fx
  ·exact k9 rx fx t f.2 u' hu
def inV (x:V) (xs:List V):Bool:=xs.any λy=>eqV y x
def rIn (K:W.Frag) (neg:Bool):R2:=λx y H Q=>∃ p xs,y=.ref p/\(SqL K H p xs\/SqT K H p xs)/\kb x=true/\xs.all kb=true/\Q (.bl (if neg then !inV x xs else inV x xs)) H
theorem uC:OpR X (compareOp .In) (rIn X.K false):=by
 intro pins s σ H x y v u Q I rx ry h;obtain ⟨p,xs,rfl,hq,fx,fs,q⟩:=h
 cases ry
 rcases hq with hq | hq
 ·obtain ⟨its,r,pl,hz⟩:=I.list hq;refine SeqAt.in_listAt (eqU x) pl.isList (λw hw=>k9 rx fx r fs w (by simpa using hw)) ⟨.bl _,H,I,rfl,?_⟩;rw [show its.toArray.any (eqU x)=its.any (eqU x) by simp,nY r fs];exact q
 ·obtain ⟨its,r,pl,hz⟩:=I.tuple hq;refine SeqAt.in_tupleAt (eqU x) pl (λw hw=>k9 rx fx r fs w (by simpa using hw)) ⟨.bl _,H,I,rfl,?_⟩;rw [show its.toArray.any (eqU x)=its.any (eqU x) by simp,nY r fs];exact q
theorem iO:bJ X (.builtin "len") (λxs H Q=>∃ p ys,xs=[.ref p]/\(SqL X.K H p ys\/SqT X.K H p ys)/\Q (.int ys.length) H):=by
 intro pins s σ H xs us Q I r h;obtain ⟨p,ys,rfl,hq,q⟩:=h;obtain ⟨u,rfl,rx⟩:=du r
 cases rx
 have hn:=jy;rcases hq with hq | hq
 ·obtain ⟨its,r',pl,hz⟩:=I.list hq;have hlen:=r'.length;exact Calls.call_len_list pl.isList (by simp only [aAw] <;> lia) ⟨.int ys.length,H,I.tok _,⟨s.toks+1,by rw [aAw,hlen]⟩,q⟩
 ·obtain ⟨its,r',pl,hz⟩:=I.tuple hq;have hlen:=r'.length;exact len_tuple pl (by simp only [aAw] <;> lia) ⟨.int ys.length,H,I.tok _,⟨s.toks+1,by rw [aAw,hlen]⟩,q⟩
theorem cy:bJ X (.builtin "len") (λxs H Q=>∃ z,xs=[.str z]/\z.length<=sizeLine/\Q (.int z.length) H):=by
 intro pins s σ H xs us Q I r h;obtain ⟨z,rfl,hz,q⟩:=h;obtain ⟨u,rfl,t,rfl⟩:=du r;have hn:=jy;exact len_str (3) ⟨.int z.length,H,I.tok _,⟨_,rfl⟩,q⟩
theorem nZ:bJ X (.type "list") (λxs H Q=>∃ p ys,xs=[.ref p]/\(SqL X.K H p ys\/SqT X.K H p ys)/\∀ l,H l=none->Q (.ref l) (upd H l (.lst ys))):=by
 intro pins s σ H xs us Q I r h;obtain ⟨p,ys,rfl,hq,q⟩:=h;obtain ⟨u,rfl,rx⟩:=du r
 cases rx
 have fin:∀ (its:List Value),Vals ys its->ys.length<=sizeLine->∀ (h':Heap) (c':Nat),(∀ b o',s.heap.get? b=some o'->h'.get? b=some o') ->
   h'.get? s.heap.objs.size=some { cls:=.type "list",dict:=none,data:=.seq its.toArray c',slots:=#[] }->EP X pins σ Q (.ref s.heap.objs.size) { s with heap:=h' }:=λits r' hz h' c' kp e =>
  ⟨.ref s.heap.objs.size,_,I.laid (t':=s.toks) kp (aAo _) (show ObjOk X.prog X.w _ h' _ (.lst ys) from ⟨hz,its,c',r',e⟩),rfl,q _ (I.hok.fresh (aAo _))⟩
 rcases hq with hq | hq
 ·obtain ⟨its,r',pl,hz⟩:=I.list hq;have hlen:=r'.length;obtain ⟨o,ho,hc,n,hd⟩:=pl.isList;exact call_list_seq p (.inl rfl) ho hc hd (λh' c' kp e=>fin its r' hz h' c' kp e) (by simp only [aAw] <;> lia)
 ·obtain ⟨its,r',pl,hz⟩:=I.tuple hq;have hlen:=r'.length;obtain ⟨o,ho,hc,n,hd⟩:=pl;exact call_list_seq p (.inr rfl) ho hc hd (λh' c' kp e=>fin its r' hz h' c' kp e) (by simp only [aAw] <;> lia)
def tyV (K:W.Frag) (T:String) (x:V) (H:Hp):Prop:=match x with
 | .str _=>T= "str"
 | .int _=>T= "int"
 | .ref p=>(T= "list" /\∃ xs,SqL K H p xs)\/(T= "tuple" /\∃ o,K.lookup p=some o/\o.cls=.type "tuple" /\o.dict=none) \/
   (T= "dict" /\((∃ kvs,H p=some (.dK kvs))\/∃ kvs,H p=some (.dT kvs)))\/(T= "set" /\∃ S n,H p=some (.set S n))
 | _=>False
theorem vK {pins:List (Addr×Obj)} {σ:St} {H:Hp} {s:Shared} {T:String} {x:V} {v:Value} (I:Inv X pins σ H s) (r:RelV x v) (ty:tyV X.K T x H) :
  s.TypeIs v T/\∀ a,v=.ref a->∃ ob,s.heap.get? a=some ob/\ob.dict=none:=by
 cases x with
 | str z =>
  obtain ⟨t,rfl⟩:=r
  cases (show T= "str" from ty)
  exact ⟨typeIs_str s z t,λ_ e=>nomatch e⟩
 | int i =>
  obtain ⟨t,rfl⟩:=r
  cases (show T= "int" from ty)
  exact ⟨typeIs_int s i t,λ_ e=>nomatch e⟩
 | ref p =>
  cases r
  rcases ty with ⟨rfl,xs,hq⟩ | ⟨rfl,o,hk,hc,hd⟩ | ⟨rfl,hk⟩ | ⟨rfl,S,n,hk⟩
  ·obtain ⟨its,_,pl,_⟩:=I.list hq;refine ⟨pl.isList.typeIs,λa e=>?_⟩
   cases e
   obtain ⟨o,n,e,c,hd,_⟩:=pl;exact ⟨o,e,hd⟩
  ·refine ⟨⟨o,I.kIn p o hk,hc⟩,λa e=>?_⟩
   cases e
   exact ⟨o,I.kIn _ o hk,hd⟩
  ·have z:∃ o,s.heap.get? p=some o/\o.ExactDict:=by
    rcases hk with ⟨kvs,hk⟩ | ⟨kvs,hk⟩
    ·obtain ⟨_,_,_,_,o,_,_,e,ex,_⟩:=I.hok p _ hk;exact ⟨o,e,ex⟩
    ·obtain ⟨_,_,_,_,o,_,_,e,ex,_⟩:=I.hok p _ hk;exact ⟨o,e,ex⟩
   obtain ⟨o,e,ex⟩:=z;refine ⟨⟨o,e,ex.1⟩,λa e2=>?_⟩
   cases e2
   exact ⟨o,e,ex.2.1⟩
  ·obtain ⟨o,_,_,_,e,ex,_⟩:=I.hok p _ hk;refine ⟨⟨o,e,ex.1⟩,λa e2=>?_⟩
   cases e2
   exact ⟨o,e,ex.2.1⟩
 | _=>exact False.elim ty
def Jk (K:W.Frag) (T:String) (r:V->List V->Hp->VK->Prop) (to:TE):TE:=λσ H Q=>to σ H λx H1=>tyV K T x H1/\r x [] H1 Q
def tBM (K:W.Frag) (T:String) (r:V->List V->Hp->VK->Prop) (to:TE) (t:TA):TE:=λσ H Q=>to σ H λx H1=>tyV K T x H1/\t σ H1 λxs H2=>r x xs H2 Q
variable {o e:Expr} {es:List Expr} {to:TE} {t:TA} {name:Str} {apos cpos:Pos} {T id:String} {r:V->List V->Hp->VK->Prop}
theorem BL (pa:PlainAttrs T) (slot:Slot T name id) (hty:typeOf (.builtin id)=pure (.type "method_descriptor")) (hm:MtR X id r) (ho:PE X o to)
  (hbase:attributeBase o name X.env (eval o X.env)=eval o X.env:=by rfl) (hline:(apos.endLine == cpos.line)=true:=by rfl):PE X (.Call (.Attribute o name apos) [] [] cpos) (Jk X.K T r to):=by
 intro pins s σ H Q I h;refine wpAny_Call_method0_late hbase hline (thn (ho pins s σ H _ I h) λv s1 ⟨x,H1,I1,r1,ty,q1⟩=>?_);obtain ⟨h1,h2⟩:=vK I1 r1 ty;exact ⟨T,id,pa,slot,hty,h1,h2,Calls.callWith_builtin rfl (PySem.evalArgs_none (hm pins s1 σ H1 x [] v [] Q I1 r1 .nil q1))⟩
theorem pe_bm (pa:PlainAttrs T) (slot:Slot T name id) (hty:typeOf (.builtin id)=pure (.type "method_descriptor")) (hm:MtR X id r) (ho:PE X o to) (ha:PA X (e :: es) t)
  (hbase:attributeBase o name X.env (eval o X.env)=eval o X.env:=by rfl)
  (hfew:((backTo cpos (starEach (e :: es) X.env)).all (λx=>!x.1) && (backToKw cpos (keywordEach [] X.env)).all (λx=>x.1.isSome)
   && decide ((e :: es).length+([]:List Keyword).length+(if ([]:List Keyword).isEmpty then 0 else 1) < 30))=true:=by rfl)
  (hline:(apos.endLine == cpos.line)=true:=by rfl) (hs:starEach (e :: es) X.env=(false,eval e X.env) :: starEach es X.env:=by rfl) (hplain:(backTo cpos (starEach es X.env)).any (·.1)=false:=by rfl) :
  PE X (.Call (.Attribute o name apos) (e :: es) [] cpos) (tBM X.K T r to t):=by
 intro pins s σ H Q I h;refine wpAny_Call_method_late hbase hfew hline rfl (thn (ho pins s σ H _ I h) λv s1 ⟨x,H1,I1,r1,ty,q1⟩=>?_);obtain ⟨h1,h2⟩:=vK I1 r1 ty;refine ⟨T,id,pa,slot,hty,h1,h2,?_⟩;have hA:=ha cpos pins s1 σ H1 _ I1 q1;rw [hs] at hA ⊢;refine Calls.callWith_builtin (by show (false || (backTo cpos (starEach es X.env)).any (·.1))=false;rw [hplain] <;> rfl) (Calls.evalArgs_plain ?_);exact thn hA λus s2 ⟨vs,H2,I2,r2,q2⟩=>hm pins s2 σ H2 x vs v us Q I2 r1 r2 q2
end
def MtM (X:Cx) (id:String) (r:V->List V->Hp->VK->Prop):Prop :=
 ∀ (pins:List (Addr×Obj)) (s:Shared) (σ:St) (H:Hp) (x:V) (xs:List V) (v:Value) (us:List Value) (Q:VK),Inv X pins σ H s->RelV x v->Vals xs us->r x xs H Q ->
  wpAny (model X.prog X.w) X.A (call (.builtin id) (v :: us)) (EP X pins σ Q) X.xe s
theorem Vals.one:∀ {x:V} {us:List Value},Vals [x] us->∃ u,us=[u]/\RelV x u:=by
 intro x us h
 cases h with
 | cons r t =>
  cases t
  exact ⟨_,rfl,r⟩
theorem Vals.two:∀ {x y:V} {us:List Value},Vals [x,y] us->∃ u v,us=[u,v]/\RelV x u/\RelV y v:=by
 intro x y us h
 cases h with
 | cons r t =>
  cases t with
  | cons q t =>
   cases t
   exact ⟨_,_,rfl,r,q⟩
theorem Vals.zero:∀ {us:List Value},Vals [] us->us=[]
 | _,.nil=>rfl
theorem Vals.reverse {xs:List V} {us:List Value} (h:Vals xs us):Vals xs.reverse us.reverse:=by
 induction h with
 | nil=>exact .nil
 | cons r t ih=>rw [List.reverse_cons,List.reverse_cons];exact Vals.append ih (.cons r .nil)
section
variable {X:Cx} {pins:List (Addr×Obj)} {σ:St} {H:Hp} {s:Shared} {l b:Addr} {xs ys zs:List V}
theorem Inv.lset {its its':List Value} {n:Nat} {f:Array Value->Array Value} {t':Nat} (I:Inv X pins σ H s) (hH:H l=some (.lst xs))
  (e:s.heap.get? l=some { cls:=.type "list",data:=.seq its.toArray n }) (hf:f its.toArray=its'.toArray) (hv:Vals ys its') (hz:ys.length<=sizeLine) :
  Inv X pins σ (upd H l (.lst ys)) { s with heap:=s.heap.update l (Obj.mapSeq f),toks:=t' }:=by
 have q:=PySem.IsL.update e f;rw [hf] at q;refine I.write (x:=l) (e:=l) (by rw [hH];exact trivial) (.inl rfl) (λb' u hb hu=>(aBr s.heap (Obj.mapSeq f) (Ne.symm hb)).trans hu) ⟨_,q⟩ ?_;exact ⟨hz,its',_,hv,q⟩
theorem Inv.lnew {its:List Value} {t':Nat} (I:Inv X pins σ H s) (hv:Vals ys its) (hz:ys.length<=sizeLine) :
  Inv X pins σ (upd H s.heap.objs.size (.lst ys)) { s with heap:=s.heap.push { cls:=.type "list",data:=.seq its.toArray },toks:=t' } :=
 I.laid (λ_ _ q=>aAe _ q) (aAo _) ⟨hz,its,0,hv,aAA _ rfl⟩
theorem Inv.fresh (I:Inv X pins σ H s):H s.heap.objs.size=none:=I.hok.fresh (aAo _)
theorem Inv.lstM (I:Inv X pins σ H s) (hH:H l=some (.lst xs)):xs.length<=sizeLine/\∃ (its:List Value) (n:Nat),Vals xs its/\xs.length=its.length/\s.heap.get? l=some { cls:=.type "list",data:=.seq its.toArray n }:=by
 obtain ⟨z,its,n,r,e⟩:=I.hok l _ hH;exact ⟨z,its,n,r,r.length,e⟩
end
section
variable {X:Cx}
inductive IApp (x:V) (vs:List V) (H:Hp) (Q:VK):Prop
 | mk (l:Addr) (xs:List V) (y:V):(x=.ref l)->(vs=[y])->(H l=some (.lst xs))->(xs.length < sizeLine)->(Q .non (upd H l (.lst (xs++[y]))))->IApp x vs H Q
def sS:V->List V->Hp->VK->Prop:=λx vs H Q=>IApp x vs H Q
theorem bL:MtM X "list.append" sS:=by
 intro pins s σ H x vs v us Q I rx rv h;obtain ⟨l,xs,y,rfl,rfl,hH,hz,q⟩:=h
 cases rx
 obtain ⟨u,rfl,ru⟩:=rv.one;obtain ⟨z,its,n,r,hl,e⟩:=I.lstM hH;refine call_meets F.slot_list_append ⟨_,e,rfl⟩ F.entry_list_append (F.args_list_append_2 _ _) (PySem.list_append l its.toArray n u (by rw [aAw];lia)) ⟨e,?_⟩;refine ⟨.non,_,I.lset (its':=its++[u]) hH e (by simp) (r.append (.cons ru .nil)) ?_,rfl,q⟩;rw [aAc,aA2];lia
def vL:V->List V->Hp->VK->Prop:=λx vs H Q=>∃ l xs,x=.ref l/\vs=[]/\H l=some (.lst xs)/\Q .non (upd H l (.lst xs.reverse))
theorem rD:MtM X "list.reverse" vL:=by
 intro pins s σ H x vs v us Q I rx rv h;obtain ⟨l,xs,rfl,rfl,hH,q⟩:=h
 cases rx
 have hus:=rv.zero;subst hus;obtain ⟨z,its,n,r,hl,e⟩:=I.lstM hH;refine call_meets F.slot_list_reverse ⟨_,e,rfl⟩ F.entry_list_reverse (F.args_list_reverse_1 _) (AutoSeq1.list_reverse_list_0 l its.toArray n (by rw [aAw];lia)) ⟨e,?_⟩;refine ⟨.non,_,I.lset (its':=its.reverse) hH e (by simp) r.reverse ?_,rfl,q⟩;rw [List.length_reverse];lia
end
section
variable {prog:Program} {w:World} {A:Around} {E:Value->Shared->Prop} {s:Shared}
end
section
variable {X:Cx}
end
end L2
namespace Att
open PySem PySem.W PySem.Calls PyProof.Rows
theorem ku {P:Params} {h:Heap}:∀ (ns:List Int) (vs:List Value),WellAll P h vs (ns.map WData.int)->IntsAre vs ns:=by
 intro ns
 induction ns with
 | nil =>
  intro vs w;rw [aA3] at w
  cases w
  exact .nil
 | cons n ns ih =>
  intro vs w;rw [aAq] at w
  cases w with
  | cons a b =>
   cases a
   exact .cons _ _ (ih _ b)
theorem uD {l:OpenLaw} {n:Nat} (hn:l.most=some n) {P:Params} {h:Heap} {args:List WData} {vals:List Value}
  (hpre:l.row.toRowW.claim.pre args=true) (hwl:WellAll P h vals args) :
  ∃ a vs ns,vals=[Value.ref a]/\args=[WData.list (ns.map WData.int)]/\h.get? a=some { cls:=.type "list",data:=.seq vs.toArray }/\IntsAre vs ns/\ns.length<=n:=by
 have hsh:WShape.hasAll [] args [.list .int]=true:=(pre_splitW hpre).1;have hc:l.pre.holds [] { args:=args }=true:=(pre_splitW hpre).2;obtain ⟨d,r,rfl,h1,h2⟩:=hasAllW_cons hsh;obtain rfl:=hasAllW_nil h2;obtain ⟨xs,rfl,h3⟩:=hasW_list h1;obtain ⟨ns,rfl⟩:=items_int h3;have hlen:ns.length<=n:=by
  unfold OpenLaw.pre at hc;have h4:(WTm.not (.lt (.lit (.int (n:Int))) (.len (.arg 0)))).holds [] { args:=[.list (ns.map .int)] }=true:=by
   have h4:=(holds_andW hc).1;rw [hn] at h4;exact h4
  have h5:=condW_of h4 (w_not (w_lt w_lit (w_len_list (w_arg rfl))));rw [aAa] at h5;refine Nat.le_of_not_lt λq=>?_;have q':(n:Int) < ((ns.length:Nat):Int):=(3)
  first
   | (rw [decide_eq_true q'] at h5;exact absurd h5 (by decide))
   | (simp at h5;lia)
 cases hwl with
 | cons w1 w2 =>
  cases w2
  cases w1 with
  | list ho hall=>exact ⟨_,_,ns,rfl,rfl,ho,ku ns _ hall,hlen⟩
theorem uE (l:OpenLaw) (args:List WData):l.row.toRowW.claim.post args (.bool true) args=true :=
 postW_of (r:=l.row.toRowW) (X:=(true == true))
  (show WShape.has [] (.bool true) .bool=true by first | rfl | decide | simp [WShape.has,WShape.arms,WShape.armsAll])
  (show (WTm.eq .res (.lit (.bool true))).value [] { args:=args,res:=some (.bool true),after:=args }=some (.bool (true == true)) from w_eq_bool (w_res rfl) w_lit) rfl
theorem attach_call {l:OpenLaw} {n:Nat} {q:Program} {loose:List Str} {XP:(Str->Option Value)->Heap->Prop} {YP:World->Heap->Prop} {d:DefRec}
  (hn:l.most=some n) (hdf:d.params.defaults=[])
  (call:∀ (w:World) (s₀ s₁:Shared) (mg mb:Str->Option Value) (fa:Addr) (o:Obj) (pm cd doc:Value) (a:Addr) (vs:List Value) (ns:List Int),
   Ground q loose [] XP w s₀ mg mb s₁.heap->YP w s₁.heap ->
   s₁.heap.get? fa=some o->o.data=.func (docDef d.name d.params d.body d.scope pm cd doc)->s₁.heap.CodeRec cd d.name->mg d.name=some (.ref fa) ->
   s₁.heap.get? a=some { cls:=.type "list",data:=.seq vs.toArray }->IntsAre vs ns->ns.length<=n->s₁.gens=#[] ->
   codeAny (model l.prog w) callerA (.call (.ref fa) ⟨[.ref a],[]⟩) (λr s'=>r=.ok (.ret (.bool true))/\OldK s₁.heap s'.heap/\s'.os=s₁.os/\AllBare s'.gens) s₁) :
  WalkO q loose XP YP l.row.toRowW d [] (λf vs=>PySem.call f vs):=by
 intro w s₀ s₁ mg mb G Y fa o pm cd doc dV kV ho hd hcd hD hmg hg args vals as hpre hlay hrd hwl hlo;obtain rfl:dV=.none:=Dflts.none hD hdf;obtain rfl:kV=.none:=Dflts.noKw hD;obtain ⟨a,vs,ns,rfl,rfl,hobj,hints,hlen⟩:=uD hn hpre hwl;refine enter_call (codeAny_mono (call w s₀ s₁ mg mb fa o pm cd doc a vs ns G Y ho (fd_plain hd) hcd hmg hobj hints hlen hg) λr s' hq=>?_);obtain ⟨rfl,h2,h3,h4⟩:=hq;exact ⟨.inl ⟨.bool true,.bool true,[],rfl,λ_=>rfl,.bool true,uE l _,λ_=>⟨List.Pairwise.nil,λ_ hm=>(nomatch hm)⟩⟩,h2,h3,h4⟩
section
variable {prog:Program} {w:World} {A:Around} {E:Value->Shared->Prop} {s:Shared} {K:Frag}
end
end Att
namespace L2
open PySem PySem.Spec PyProof.Rows
theorem m8:∀ {vs:List Value} {ns:List Int},IntsAre vs ns->Vals (ns.map V.int) vs
 | _,_,.nil=>.nil
 | _,_,.cons n t h=>.cons ⟨t,rfl⟩ (m8 h)
def xU (H:Hp):Prop:=∀ b,H b=none\/∃ o xs,H b=some (.frz o (.lst xs))
theorem vM {P:Program} {w:World} {K:W.Frag} {mg mb:Str->Option Value} {CX:CXT} {k:Nat} {fa a:Addr} {fd:FuncData} {x:Str} {sp:Sp} {s₁:Shared} {vs:List Value} {ns:List Int}
  (KX:K.In s₁.heap) (hns:s₁.heap.Ns mainGlobals mg) (hb:s₁.heap.Ns builtinsNs mb) (hbb:∀ x:Str,x≠ "__name__" ->mb x=bootBuiltins x) (hlim:s₁.heap.NoLimit) (hg:s₁.gens=#[])
  (ha:s₁.heap.get? a=some { cls:=.type "list",data:=.seq vs.toArray }) (hi:IntsAre vs ns) (hl:ns.length<=sizeLine) (hr:Room k callerA)
  (F:∀ base:Heap,K.In base->base.Ns mainGlobals mg->FnOk P w K mg base CX k fa fd [x] sp) (hbind:∀ (s:Shared) (u:Value),BindsTo s fd ⟨[u],[]⟩ [(x,u)])
  (hsp:∀ H:Hp,xU H->SqL K H a (ns.map V.int)->sp [.ref a] H (λv _=>v=.bl true) λ_ _ _=>False)
  (hCX:∀ H e s',CX [] H s₁ (λ_ _ _=>False) e s'->False) :
  codeAny (model P w) callerA (.call (.ref fa) ⟨[.ref a],[]⟩) (λr s'=>r=.ok (.ret (.bool true))/\OldK s₁.heap s'.heap/\s'.os=s₁.os/\AllBare s'.gens) s₁:=by
 have rv:=m8 hi;have lenV:=hi.length;have core:∀ H:Hp,xU H->SqL K H a (ns.map V.int)->HOk P w H s₁.heap->(∀ b,H b≠none->b=a)->(H a≠none->K.lookup a=none) ->
   codeAny (model P w) callerA (.call (.ref fa) ⟨[.ref a],[]⟩) (λr s'=>r=.ok (.ret (.bool true))/\OldK s₁.heap s'.heap/\s'.os=s₁.os/\AllBare s'.gens) s₁:=by
  intro H hO hS hok hA hK;have base_of:∀ {b:Addr} {o:Obj},s₁.heap.get? b=some o->H b=none->(nR s₁.heap H).get? b=some o:=λe n=>vq e n;have noA:∀ {b:Addr} {o:Obj} {es:Array DictEntry} {ep:Nat},s₁.heap.get? b=some o->o.data=.dict es ep->H b=none:=λ{b o es ep} e d=>by
   cases q:H b with
   | none=>rfl
   | some u =>
    have e':b=a:=hA b (by rw [q];simp);subst e';rw [ha] at e;cases e;have d':Data.seq vs.toArray _=Data.dict es ep:=d
    cases d'
  have nsK:∀ {b:Addr} {m:Str->Option Value},s₁.heap.Ns b m->(nR s₁.heap H).Ns b m:=λ{b m} ⟨o,es,ep,e,d,r⟩=>⟨o,es,ep,base_of e (noA e d),d,r⟩;have hKb:K.In (nR s₁.heap H):=λb o e=>base_of (KX b o e) (by
   cases q:H b with
   | none=>rfl
   | some u =>
    have e':b=a:=hA b (by rw [q];simp);subst e';rw [hK (by rw [q];simp)] at e;cases e)
  have hM:Mod K mg (nR s₁.heap H):=⟨hKb,nsK hns,⟨mb,nsK hb,hbb⟩,let ⟨mc,h1,h2⟩:=hlim;⟨mc,nsK h1,h2⟩⟩;have e0:Env0 P w K mg (nR s₁.heap H) callerA [] s₁ H:=⟨rfl,hM,λb o e=>xG e,aBL (ut _ _),trivial,λb hb=>absurd (show b∈([]:List Addr) from hb) (by simp),hok,.of_eq hg⟩;refine codeAny_mono ((F _ hKb (nsK hns)).run callerA [] s₁ H ⟨[.ref a],[]⟩ [.ref a] [.ref a] _ _ hr e0 (hbind s₁ (.ref a)) (.cons rfl .nil) (hsp H hO hS)) λr s' h=>?_
  cases r with
  | error e=>exact (hCX H e s' h).elim
  | ok fl =>
   cases fl with
   | next=>exact False.elim h
   | brk=>exact False.elim h
   | cont=>exact False.elim h
   | ret u =>
    obtain ⟨v,H',os,bare,un,hok',r',q⟩:=h;have q':v=.bl true:=q;subst q';obtain rfl:u=Value.bool true:=r';refine ⟨rfl,OldK.of_keep λb o e=>?_,os,bare⟩
    cases q:H b with
    | none=>exact un.keep b o e q (by intro z;exact absurd (show b∈([]:List Addr) from z) (by simp)) (by simp)
    | some u =>
     rcases hO b with z | ⟨ob,xs,z⟩
     ·rw [q] at z;cases z
     ·have z2:=un.frzs b ob _ z;obtain ⟨e1,_⟩:=hok b _ z;obtain ⟨e2,_⟩:=hok' b _ z2;rw [e] at e1;cases e1;exact e2
 cases hk:K.lookup a with
 | some o =>
  have e:=KX a o hk;rw [ha] at e
  cases e
  refine core (λ_=>none) (λ_=>.inl rfl) (.inr ⟨_,vs.toArray,_,hk,rfl,rfl,rfl,by rw [aAw,lenV];exact hl,by simpa using rv⟩) (λb u z=>by have z':(none:Option HO)=some u:=z;cases z') (λb z=>absurd rfl z) λz=>absurd rfl z
 | none =>
  refine core (λb=>if b=a then some (.frz { cls:=.type "list",data:=.seq vs.toArray } (.lst (ns.map V.int))) else none) (λb=>?_) (.inl (.inr ⟨{ cls:=.type "list",data:=.seq vs.toArray },if_pos rfl⟩)) (λb u z=>?_) (λb z=>?_) λ_=>hk
  ·by_cases hb:b=a
   ·exact .inr ⟨_,_,if_pos hb⟩
   ·exact .inl (if_neg hb)
  ·by_cases hb:b=a
   ·have z':=(if_pos hb).symm.trans z
    cases z'
    subst hb;exact ⟨ha,by rw [aAa];exact hl,vs,_,rv,ha⟩
   ·have z':=(if_neg hb).symm.trans z
    cases z'
  ·by_cases hb:b=a
   ·exact hb
   ·exact absurd (if_neg hb) z
abbrev KOf {K:W.Frag} {h:Heap} (_:K.In h):W.Frag:=K
theorem xV {l:W.OpenLaw} {n k:Nat} {q:Program} {loose:List Str} {XP:(Str->Option Value)->Heap->Prop} {YP:World->Heap->Prop} {d:DefRec} {K:Params->W.Frag} {CX:World->CXT} {sp:World->Sp} {x:Str}
  (hn:l.most=some n) (hn2:n<=sizeLine) (hdf:d.params.defaults=[]) (hr:Room k callerA)
  (hY:∀ (w:World) (h:Heap),YP w h->(K w.params).In h)
  (F:∀ (w:World) (mg:Str->Option Value) (fa:Addr) (h:Heap),(K w.params).In h->h.Ns mainGlobals mg->mg d.name=some (.ref fa) ->
   ∃ fd:FuncData,(∀ (s:Shared) (u:Value),BindsTo s fd ⟨[u],[]⟩ [(x,u)]) /\
    ∀ base:Heap,(K w.params).In base->base.Ns mainGlobals mg->FnOk l.prog w (K w.params) mg base (CX w) k fa fd [x] (sp w))
  (hsp:∀ (w:World) (H:Hp) (a:Addr) (ns:List Int),ns.length<=n->xU H->SqL (K w.params) H a (ns.map V.int)->sp w [.ref a] H (λv _=>v=.bl true) λ_ _ _=>False)
  (hCX:∀ (w:World) (H:Hp) (s:Shared) (e:Value) (s':Shared),CX w [] H s (λ_ _ _=>False) e s'->False) :
  W.WalkO q loose XP YP l.row.toRowW d [] (λf vs=>PySem.call f vs):=by
 refine Att.attach_call hn hdf λw s₀ s₁ mg mb fa o pm cd doc a vs ns G Y ho hd hcd hmg hobj hints hlen hg=>?_;have KX:=hY w _ Y;obtain ⟨fd,hb,hF⟩:=F w mg fa _ KX G.T.g hmg;exact vM KX G.T.g G.T.b G.T.builtins G.T.nolimit hg hobj hints (aAz hlen hn2) hr hF hb (λH hO hS=>hsp w H a ns hlen hO hS) λH e s'=>hCX w H s₁ e s'
theorem HY {l:W.OpenLaw} {n k:Nat} {q:Program} {loose:List Str} {XP:(Str->Option Value)->Heap->Prop} {YP:World->Heap->Prop} {d:DefRec} {K:Params->W.Frag} {CX:CXT} {sp:W.Frag->Sp} {x:Str}
  (hn:l.most=some n) (hn2:n<=sizeLine) (hdf:d.params.defaults=[]) (hr:Room k callerA)
  (hY:∀ (w:World) (h:Heap),YP w h->(K w.params).In h)
  (F:∀ (w:World) (mg:Str->Option Value) (fa:Addr) (h:Heap),(K w.params).In h->h.Ns mainGlobals mg->mg d.name=some (.ref fa) ->
   ∃ fd:FuncData,(∀ (s:Shared) (u:Value),BindsTo s fd ⟨[u],[]⟩ [(x,u)]) /\
    ∀ base:Heap,(K w.params).In base->base.Ns mainGlobals mg->FnOk l.prog w (K w.params) mg base CX k fa fd [x] (sp (K w.params)))
  (hsp:∀ (K:W.Frag) (H:Hp) (a:Addr) (ns:List Int),ns.length<=n->xU H->SqL K H a (ns.map V.int)->sp K [.ref a] H (λv _=>v=.bl true) λ_ _ _=>False)
  (hCX:∀ (H:Hp) (s:Shared) (e:Value) (s':Shared),CX [] H s (λ_ _ _=>False) e s'->False) :
  W.WalkO q loose XP YP l.row.toRowW d [] (λf vs=>PySem.call f vs) :=
 xV (K:=K) (CX:=λ_=>CX) (sp:=λw=>sp (K w.params)) hn hn2 hdf hr hY F (λw H a ns h1 h2 h3=>hsp (K w.params) H a ns h1 h2 h3) λ_ H s e s'=>hCX H s e s'
end L2
namespace L2
open PySem PySem.Spec PyProof.Rows
abbrev CX0:CXT:=λ_ _ _ _ _ _=>False
abbrev E0:XK:=λ_ _ _=>False
theorem gd {X:Cx}:gc CX0 X E0:=λ_ _ _ _ _ _ _ h=>h.elim
structure Fun (K:W.Frag) (x qual:Str) (st:Stmt) (f:Addr) (fd:FuncData):Prop where
 ex:∃ (oc:Value) (od:Option Addr) (kV doc pm:Value) (an:Option Addr) (cdv ct:Value) (osl:Array (Option Value)),
  fd=W.fnOf x qual (cn st) (bN st) (ae st) .none kV doc pm an cdv ct/\K.lookup f=some ⟨oc,od,.func fd,osl⟩/\W.codeIn K cdv qual=true
 kp:W.keepIn K (.ref f)=true
section
variable {P:Program} {w:World} {K:W.Frag} {mg:Str->Option Value} {base:Heap}
theorem Fun.ok {x qual:Str} {st:Stmt} {f:Addr} {fd:FuncData} {N ps:List Str} {k:Nat} {sp:Sp} (F:Fun K x qual st f fd) (S:FnScope N ps (ae st)) (len:∀ vs H Q E,sp vs H Q E->vs.length=ps.length)
  (hbody:∀ (cdv:Value) (A:Around) (outer:List Env) (s:Shared) (H:Hp) (vs:List V) (Q:VK) (E:XK),Room k (A.deeper (envOfC qual (ae st) s.heap.objs.size f cdv))->sp vs H Q E ->
   ∃ t,PSs (pS CX0 P w K mg base N qual (ae st) f cdv A outer s H E).nox (bN st) t/\t { nx:=λ_ H'=>Q .non H',rt:=Q } (iM N vs) H):FnOk P w K mg base CX0 (k+1) f fd ps sp:=by
 obtain ⟨oc,od,kV,doc,pm,an,cdv,ct,osl,rfl,lk,hcd⟩:=F.ex;refine yM lk hcd S len λA outer s H vs Q E hr hsp=>?_;obtain ⟨t,h,q⟩:=hbody cdv A outer s H vs Q E hr hsp;exact ⟨t,h.nox,q⟩
theorem Fun.binds {x qual:Str} {st:Stmt} {f:Addr} {fd:FuncData} {ps:List Str} (F:Fun K x qual st f fd)
  (h:∀ (kV doc pm:Value) (an:Option Addr) (cdv ct:Value) (us:List Value),us.length=ps.length->bindArgs (W.fnOf x qual (cn st) (bN st) (ae st) .none kV doc pm an cdv ct) ⟨us,[]⟩=pure (ps.zip us)):Binds K fd ps []:=by
 obtain ⟨oc,od,kV,doc,pm,an,cdv,ct,osl,rfl,lk,hcd⟩:=F.ex;exact .all (h kV doc pm an cdv ct)
theorem jB {x qual:Str} {st:Stmt} {f:Addr} {oc:Value} {od an:Option Addr} {osl:Array (Option Value)} {kV doc pm cdv ct:Value} (l:K.lookup f=some ⟨oc,od,.func (W.fnOf x qual (cn st) (bN st) (ae st) .none kV doc pm an cdv ct),osl⟩)
  (c:W.codeIn K cdv qual=true) (k:W.keepIn K (.ref f)=true):Fun K x qual st f (W.fnOf x qual (cn st) (bN st) (ae st) .none kV doc pm an cdv ct):=⟨⟨oc,od,kV,doc,pm,an,cdv,ct,osl,rfl,l,c⟩,k⟩
end
theorem ay {n:Nat} (h:n<=1000):n < sizeLine:=aBb h (by decide)
section
variable {X:Cx}
theorem pv (i:Nat) {x:Str} {pos:Pos} (hN:X.N[i]?=some x:=by rfl) (hv:Vis X.env.scope x:=by first | exact Or.inl rfl | exact Or.inr (Or.inl rfl) | exact Or.inr (Or.inr rfl)) (hd:(x == ("__debug__" : Str))=false:=by decide)
  (hcd:(x == ("__classdict__" : Str))=false:=by decide):PE X (.Name x pos) (iH i):=Bw hN hv hd hcd
end
theorem ce {A B:Prop} (h:B):if false=true then A else B:=by
 rw [if_neg aAy];exact h
theorem df {A B:Prop} (h:A):if true=true then A else B:=by
 rw [if_pos rfl];exact h
theorem bi {c A B:Prop} [Decidable c] (h1:c->A) (h2:¬ c->B):if c then A else B:=by
 by_cases h:c
 ·rw [if_pos h];exact h1 h
 ·rw [if_neg h];exact h2 h
def Same (H H':Hp):Prop:=∀ b o,H b=some o->H' b=some o
theorem Same.refl (H:Hp):Same H H:=λ_ _ h=>h
theorem Same.trans {H H1 H2:Hp} (a:Same H H1) (b:Same H1 H2):Same H H2:=λc o h=>b c o (a c o h)
theorem Same.free {H H':Hp} (e:Same H H') {l:Addr} (h:H' l=Option.none):H l=Option.none:=by
 cases q:H l with
 | none=>rfl
 | some o =>
  rw [e l o q] at h
  cases h
theorem Same.seq {K:W.Frag} {H H':Hp} {a:Addr} {xs:List V} (e:Same H H') (h:SqL K H a xs):SqL K H' a xs:=by
 rcases h with (h | ⟨o,h⟩) | h
 ·exact .inl (.inl (e _ _ h))
 ·exact .inl (.inr ⟨o,e _ _ h⟩)
 ·exact .inr h
def fR (env:Env):List (Str×NameKind)->List (Str×Addr)->List (Str×Addr)
 | [],cs=>cs
 | (n,k) :: r,cs=>fR env r (if k == .free then (n,(env.cells.lookup n).getD 0) :: cs else cs)
theorem rE {env:Env} {scope:Scope} (h:∀ x∈scope.names,x.2=.free->∃ c,env.cells.lookup x.1=some c):closureFor scope env=pure (fR env scope.names []):=by
 simp only [closureFor];have go:∀ (l:List (Str×NameKind)) (cs:List (Str×Addr)),(∀ x∈l,x.2=.free->∃ c,env.cells.lookup x.1=some c) ->
   (forIn l cs λ(x:Str×NameKind) (r:List (Str×Addr))=>(do
    let (name,kind):=x
    if kind == .free then
     let a <- cellOf env name
     pure (ForInStep.yield ((name,a) :: r))
    else pure (ForInStep.yield r):Sem (ForInStep (List (Str×Addr)))))=pure (fR env l cs):=by
  intro l
  induction l with
  | nil=>intro cs _;rfl
  | cons x r ih =>
   intro cs hx;obtain ⟨n,k⟩:=x;rw [aAX]
   by_cases hk:k=.free
   ·obtain ⟨c,hc⟩:=hx (n,k) aAh hk;subst hk;have e:cellOf env n=pure c:=by unfold cellOf;rw [hc]
    simp only [beq_self_eq_true,if_true,e,pure_bind];rw [ih _ λy hy=>hx y (aAf _ hy)];simp only [fR,beq_self_eq_true,if_true,hc,Option.getD_some]
   ·have hb:(k == NameKind.free)=false:=by simpa using hk
    simp only [hb,aAH,if_false,pure_bind];rw [ih _ λy hy=>hx y (aAf _ hy)];simp only [fR,hb,aAH,if_false]
 have g:=go scope.names [] h
 first
  | exact (by rw [g]:_=_)
  | (rw [<- bind_pure (pure (fR env scope.names []))];rw [<- g];rfl)
  | (simp only [g,pure_bind])
theorem jC {env:Env}:∀ (l:List (Str×NameKind)) (cs:List (Str×Addr)),(∀ x∈l,x.2=.free->∃ c,env.cells.lookup x.1=some c)->(∀ x c,cs.lookup x=some c->env.cells.lookup x=some c) ->
  ∀ x c,(fR env l cs).lookup x=some c->env.cells.lookup x=some c
 | [],_,_,h=>h
 | (n,k) :: r,cs,hx,h=>by
  refine jC r _ (λy hy=>hx y (aAf _ hy)) ?_;intro x c e
  by_cases hk:k=.free
  ·obtain ⟨c',hc⟩:=hx (n,k) aAh hk;subst hk;simp only [beq_self_eq_true,if_true,hc,Option.getD_some] at e;rw [aAO] at e
   cases q:x == n with
   | true =>
    rw [q] at e;have q':x=n:=by simpa using q
    cases e
    rw [q'];exact hc
   | false=>rw [q] at e;exact h x c e
  ·have hb:(k == NameKind.free)=false:=by simpa using hk
   simp only [hb,aAH,if_false] at e;exact h x c e
theorem ke {env:Env}:∀ (l:List (Str×NameKind)) (cs:List (Str×Addr)) (x:Str),(∃ c,cs.lookup x=some c)->∃ c,(fR env l cs).lookup x=some c
 | [],_,_,h=>h
 | (n,k) :: r,cs,x,h=>by
  refine ke r _ x ?_
  split
  ·rw [aAO]
   cases q:x == n with
   | true=>exact ⟨_,rfl⟩
   | false=>exact h
  ·exact h
theorem gU {env:Env}:∀ (l:List (Str×NameKind)) (cs:List (Str×Addr)) (x:Str),l.lookup x=some .free->∃ c,(fR env l cs).lookup x=some c
 | [],_,_,h=>by simp at h
 | (n,k) :: r,cs,x,h=>by
  rw [aAO] at h
  cases q:x == n with
  | true =>
   rw [q] at h
   cases h
   refine ke r _ x ?_;simp only [beq_self_eq_true,if_true];rw [aAO,q];exact ⟨_,rfl⟩
  | false=>rw [q] at h;exact gU r _ x h
theorem fu {env:Env}:∀ {names:List (Str×NameKind)} {x:Str} {k':NameKind},
  (names.map λ(n,k)=>if (k == NameKind.free && env.scope.kind == .function && env.kindOf n == some .cell) then (n,NameKind.cell) else (n,k)).lookup x=some k' ->
  ∃ k,names.lookup x=some k/\(k'=k\/(k=.free/\k'=.cell))
 | [],_,_,h=>by simp at h
 | (n,k) :: r,x,k',h=>by
  have ih:=@fu env r x k';rw [aAq] at h
  by_cases hc:(k == NameKind.free && env.scope.kind == .function && env.kindOf n == some .cell)=true
  ·have h2:List.lookup x ((n,NameKind.cell) :: r.map λ(n,k)=>if (k == NameKind.free && env.scope.kind == .function && env.kindOf n == some .cell) then (n,NameKind.cell) else (n,k))=some k':=by
    simpa [hc] using h
   rw [aAO] at h2;rw [aAO]
   cases q:x == n with
   | true =>
    rw [q] at h2
    cases h2
    have hk:k=.free:=by
     simp only [aAB] at hc
     simpa using hc.1.1
    exact ⟨k,rfl,.inr ⟨hk,rfl⟩⟩
   | false=>rw [q] at h2;exact ih h2
  ·have h2:List.lookup x ((n,k) :: r.map λ(n,k)=>if (k == NameKind.free && env.scope.kind == .function && env.kindOf n == some .cell) then (n,NameKind.cell) else (n,k))=some k':=by
    simpa [hc] using h
   rw [aAO] at h2;rw [aAO]
   cases q:x == n with
   | true=>rw [q] at h2;cases h2;exact ⟨_,rfl,.inl rfl⟩
   | false=>rw [q] at h2;exact ih h2
def ccx (X:Cx) (scope:Scope) (C:Addr) (N':List Str) (s₀:Shared) (H₀:Hp) (fp:List Addr):Cx :=
 { X with N:=N',s₀:=s₀,H₀:=H₀,env:=compEnvC scope (fR X.env scope.names []) C X.env,outer:=X.stack,stack:=X.stack,ex:=fp,fn:=λ_=>false,pn:=[],xe:=λ_ _=>False }
def cst (k:Nat) (ρ:List Nat) (σ:St):St:=List.replicate k none++ρ.map λj=>(σ[j]?).join
structure CScope (X:Cx) (scope:Scope) (NL:List Str) (ρ:List Nat) (N':List Str):Prop where
 kind:scope.kind=.function
 nocell:∀ x∈scope.names,x.2≠.cell
 locs:∀ x∈scope.names,x.2=.local->scope.names.lookup x.1=some .local
 frees:∀ x∈scope.names,x.2=.free->X.env.kindOf x.1=some .cell\/X.env.kindOf x.1=some .free
 names:N'=NL++ρ.map λj=>X.N.getD j ""
 outs:∀ j∈ρ,∃ x,X.N[j]?=some x/\scope.names.lookup x=some .free/\(X.env.scope.names.lookup x=some .cell\/X.env.scope.names.lookup x=some .free)
section
variable {X:Cx}
theorem xW {scope:Scope} {NL N':List Str} {ρ:List Nat} (S:CScope X scope NL ρ N') {pins:List (Addr×Obj)} {σ:St} {H:Hp} {s:Shared} {fp:List Addr} {C:Addr} (I:Inv X pins σ H s) (hf:∀ b∈fp,iK X pins H b)
  (hfo:∀ b∈fp,∃ o,s.heap.get? b=some o) (hC:s.heap.objs.size<=C):(ccx X scope C N' s H fp).Ok:=by
 have free_in:∀ x∈scope.names,x.2=.free->∃ c,X.env.cells.lookup x.1=some c:=λx hx hk=>I.ok.has x.1 (S.frees x hx hk);have sub:=jC (env:=X.env) scope.names [] free_in (λx c e=>by simp at e);refine ⟨I.ok.mod,S.kind,I.ok.glob,I.ok.blt,hC,?_,?_,?_,I.ok.hd,I.ok.frames,.inl rfl,?_,I.bs,?_,?_,?_,I.stack,I.stkFree⟩
 ·exact λx y c e1 e2=>I.ok.inj x y c (sub x c e1) (sub y c e2)
 ·intro x hx;have hx':(relabel scope X.env).names.lookup x=some .cell\/(relabel scope X.env).names.lookup x=some .free:=hx;have look:∀ k',(relabel scope X.env).names.lookup x=some k'->(k'=.cell\/k'=.free)->scope.names.lookup x=some .free:=λk' e hk=>by
   obtain ⟨k,e1,z⟩:=fu e;rcases z with z | ⟨z,_⟩
   ·subst z;rcases hk with z | z
    ·subst z;have hm:(x,NameKind.cell)∈scope.names:=mem_of_lookup e1;exact absurd rfl (S.nocell _ hm)
    ·subst z;exact e1
   ·subst z;exact e1
  rcases hx' with e | e
  ·exact gU scope.names [] x (look _ e (.inl rfl))
  ·exact gU scope.names [] x (look _ e (.inr rfl))
 ·intro x c e;exact absurd e (by show ¬ (false=true);decide)
 ·intro b hb;obtain ⟨f0,f1,f2,f3,f4,f5⟩:=hf b hb;refine ⟨?_,λx c e=>f4 x c (sub x c e)⟩;obtain ⟨o,ho⟩:=hfo b hb;exact aAI (aAk (aAu ho) hC)
 ·exact aAz I.ok.bsz I.sz
 ·intro b o e hb;obtain ⟨f0,f1,f2,f3,f4,f5⟩:=hf b hb;rcases f3 with z | z
  ·exact I.ok.noex b o e z
  ·exact absurd (aAk (aAu e) (aAz I.ok.bsz z)) (aAS _)
 ·intro b hb z;obtain ⟨f0,f1,f2,f3,f4,f5⟩:=hf b hb;rcases aAn.mp (I.stkSub b z) with e | e
  ·exact f1 e
  ·exact f2 e
end
section
variable {X:Cx}
theorem Inv.comp {scope:Scope} {NL N':List Str} {ρ:List Nat} (S:CScope X scope NL ρ N') {pins:List (Addr×Obj)} {σ:St} {H:Hp} {s:Shared} {fp:List Addr} {C D:Addr} {h':Heap} {t':Nat} (I:Inv X pins σ H s) (hf:∀ b∈fp,iK X pins H b)
  (hfo:∀ b∈fp,∃ o,s.heap.get? b=some o) (hC:s.heap.objs.size<=C) (hD:s.heap.objs.size<=D) (hDC:D≠C) (k:∀ b u,s.heap.get? b=some u->h'.get? b=some u)
  (hd:h'.get? D=some { cls:=.type "list",data:=.seq #[] 0 }) (hn:h'.Ns C λ_=>none) :
  Inv (ccx X scope C N' s H fp) (X.pn++pins) (cst NL.length ρ σ) (upd H D (.lst [])) { s with heap:=h',toks:=t' }:=by
 have ok:=xW S I hf hfo hC;have free_in:∀ x∈scope.names,x.2=.free->∃ c,X.env.cells.lookup x.1=some c:=λx hx hk=>I.ok.has x.1 (S.frees x hx hk);have sub:=jC (env:=X.env) scope.names [] free_in (λx c e=>by simp at e);have fresh:∀ b,s.heap.objs.size<=b->H b=none:=λb hb=>I.hok.fresh hb;have neD:∀ b o,s.heap.get? b=some o->b≠D:=λb o e=>aAI (aAk (aAu e) hD);have neH:∀ b u,H b=some u->b≠D:=λb u e=>ah e (fresh D hD);refine ⟨ok,rfl,I.bare,⟨λb o e _ _ _=>k b o e,λb o e _ _ _=>⟨o.slots,k b o e⟩,λb o e n _=>?_,λb o e _=>⟨o,k b o e⟩,λb xs e=>?_,λb o u e=>?_,λb ps e=>⟨#[],?_⟩⟩,⟨_,hn,?_⟩,?_,?_,?_,?_,?_,?_⟩
 ·show upd H D _ b=none;rw [ac (neD b o e)];exact n
 ·show upd H D _ b=_;rw [ac (neH b _ e)];exact e
 ·show upd H D _ b=_;rw [ac (neH b _ e)];exact e
 ·show upd H D _ b=_;rw [ac (neH b _ e)];have e':H b=some (.tbl ps):=e;rw [e'];simp
 ·-- the names around
  intro i x v e1 e2 hv;obtain ⟨m,hm,hl⟩:=I.loc;have eN:(NL++ρ.map λj=>X.N.getD j "")[i]?=some x:=by
   have e1':N'[i]?=some x:=e1;rw [S.names] at e1';exact e1'
  have eσ:(List.replicate NL.length (none:Option V)++ρ.map λj=>(σ[j]?).join)[i]?=some (some v):=e2
  by_cases hi:i < NL.length
  ·rw [aBJ (by simpa using hi)] at eσ;rw [aBS] at eσ
   split at eσ <;> cases eσ
  ·have hi':NL.length<=i:=Nat.le_of_not_lt hi;rw [aBm (by simpa using hi'),aAW,aAg] at eσ;rw [aBm hi',aAg] at eN
   cases q:ρ[i - NL.length]? with
   | none=>rw [q] at eN;cases eN
   | some j =>
    rw [q] at eN eσ;obtain ⟨y,ey,f1,f2⟩:=S.outs j (aAs q);have exy:X.N.getD j "" = y:=by rw [aAM,ey];rfl
    have exx:X.N.getD j "" = x:=Option.some.inj eN;have xy:x=y:=exx.symm.trans exy;subst xy;have eσ':(σ[j]?).join=some v:=Option.some.inj eσ;have eσ2:σ[j]?=some (some v):=by
     cases z:σ[j]? with
     | none=>rw [z] at eσ';cases eσ'
     | some w=>rw [z] at eσ';exact congrArg some eσ'
    have vis:Vis X.env.scope x:=by
     rcases f2 with z | z
     ·exact .inr (.inl z)
     ·exact .inr (.inr z)
    obtain ⟨u,r,l⟩:=hl j x v ey eσ2 vis;refine ⟨u,r,?_⟩;obtain ⟨c,hc⟩:=gU (env:=X.env) scope.names [] x f1;rcases l with ⟨kl,_⟩ | ⟨_,c',hc',z⟩
    ·have kl':X.env.scope.names.lookup x=some .local:=kl;rcases f2 with z | z
     ·rw [z] at kl';cases kl'
     ·rw [z] at kl';cases kl'
    ·have e3:=sub x c hc;rw [hc'] at e3;obtain rfl:=Option.some.inj e3;obtain ⟨oc,hoc,hcd⟩:=z;have hv':(relabel scope X.env).names.lookup x=some .local\/(relabel scope X.env).names.lookup x=some .cell\/(relabel scope X.env).names.lookup x=some .free:=hv;refine .inr ⟨?_,c',hc,oc,k _ _ hoc,hcd⟩;rcases hv' with z | z | z
     ·obtain ⟨k0,e4,z2⟩:=fu z;rw [f1] at e4
      cases e4
      rcases z2 with z2 | ⟨_,z2⟩ <;> cases z2
     ·exact .inl z
     ·exact .inr z
 ·intro x c e;obtain ⟨v,oc,hoc,hcd⟩:=I.cell x c (sub x c e);exact ⟨v,oc,k _ _ hoc,hcd⟩
 ·show upd H D _ C=none;rw [ac (Ne.symm hDC)];exact fresh C hC
 ·intro x c e;obtain ⟨v,oc,hoc,hcd⟩:=I.cell x c (sub x c e);rw [ac (neD c oc hoc)];exact I.freeC x c (sub x c e)
 ·intro p hp;have hp':p∈X.pn++pins:=hp;obtain ⟨e,n,ne,nf,d⟩:=I.pin p hp';refine ⟨k _ _ e,?_,?_,?_,d⟩
  ·rw [ac (neD p.1 p.2 e)];exact n
  ·exact aAI (aAk (aAu e) hC)
  ·intro z;rcases aAn.mp (I.stkSub p.1 z) with q | q
   ·exact ne q
   ·exact nf q
 ·exact I.hok.laid k hD ⟨aAE _,[],0,.nil,hd⟩
 ·show (List.replicate NL.length (none:Option V)++ρ.map λj=>(σ[j]?).join).length=N'.length;rw [S.names];simp
theorem Inv.compEnd {scope:Scope} {N':List Str} {pins:List (Addr×Obj)} {σ σ':St} {H H':Hp} {s s':Shared} {fp:List Addr} {C:Addr} {h':Heap} {pins':List (Addr×Obj)} (I:Inv X pins σ H s) (hf:∀ b∈fp,iK X pins H b) (hC:s.heap.objs.size<=C)
  (J:Inv (ccx X scope C N' s H fp) pins' σ' H' s') (hs:Heap.SameBut C s'.heap h'):Inv X pins σ H' { s' with heap:=h' }:=by
 have hn:H' C=none:=J.free;have nC:∀ b o,s.heap.get? b=some o->b≠C:=λb o e=>aAI (aAk (aAu e) hC);have B:Un (frs X.stack) fp H H' s.heap s'.heap:=J.base;have U:Un (frs X.stack) fp H H' s.heap h':=⟨λb o e n hb hx=>(hs.2 b (nC b o e)).trans (B.keep b o e n hb hx),λb o e n hb hx=>by
   obtain ⟨sl,q⟩:=B.slot b o e n hb hx;exact ⟨sl,(hs.2 b (nC b o e)).trans q⟩,B.free,λb o e hx=>by
   obtain ⟨o',q⟩:=B.there b o e hx;exact ⟨o',(hs.2 b (nC b o e)).trans q⟩,B.tups,B.frzs,B.tbls⟩
 have hok:HOk X.prog X.w H' h':=λb u e=>by
  refine (J.hok b u e).stay (λc v hc q=>(hs.2 c ?_).trans q) (λ_ q=>q) λ_ _ q=>q;rintro rfl;rcases hc with rfl | hc
  ·rw [hn] at e;cases e
  ·rw [hn] at hc;cases hc
 refine Inv.call' (s':={ s' with heap:=h' }) I J.os U hok J.bare λb hb=>?_;obtain ⟨f0,f1,f2,f3,f4,f5⟩:=hf b hb;exact ⟨f3,f1,f4,f5⟩
def yN (k:Nat) (ρ:List Nat) (wi:TI) (g:TG) (tb:List V->Addr->St->Hp->(List V->St->Hp->Prop)->Prop):TE:=λσ H Q =>
 wi σ H λJ H1=>∀ l,H1 l=none->∃ W:Nat->Nat->List V->St->Hp->Prop,(∃ m,W 0 m [] (cst k ρ σ) (upd H1 l (.lst []))) /\
  ∀ i m ys σ' H',W i m ys σ' H'->(J.stop i H'/\Q (.ref l) H')\/(J.go i H'/\∀ x H'',J.yld i H' x H''->g x σ' H'' λσ2 H2=>tb ys l σ2 H2 λys' σ3 H3=>∃ m',m' < m/\W (i+1) m' ys' σ3 H3)
def cEl (te:TE):List V->Addr->St->Hp->(List V->St->Hp->Prop)->Prop:=λys l σ H N=>te σ H λy H1=>H1 l=some (.lst ys)/\ys.length < sizeLine/\N (ys++[y]) σ (upd H1 l (.lst (ys++[y])))
def PB (X:Cx) (body:Value->Sem Unit) (tb:List V->Addr->St->Hp->(List V->St->Hp->Prop)->Prop):Prop :=
 ∀ (pins:List (Addr×Obj)) (s:Shared) (σ:St) (H:Hp) (l:Addr) (ys:List V) (N:List V->St->Hp->Prop),Inv X pins σ H s->tb ys l σ H N ->
  wpAny (model X.prog X.w) X.A (body (.ref l)) (λ_ s'=>∃ ys' σ' H',Inv X pins σ' H' s'/\N ys' σ' H') X.xe s
theorem HZ {elt:Expr} {te:TE} (he:PE X elt te):PB X (λacc=>do let x <- eval elt X.env;let _ <- call (.builtin "list.append") [acc,x];pure ()) (cEl te):=by
 intro pins s σ H l ys N I h;refine wpAny_bind (thn (he pins s σ H _ I h) λu s1 ⟨y,H1,I1,r1,q0,q1,q2⟩=>wpAny_bind ?_);refine thn (bL pins s1 σ H1 (.ref l) [y] (.ref l) [u] (λv H'=>v=.non/\N (ys++[y]) σ H') I1 rfl (.cons r1 .nil) ⟨l,ys,y,rfl,rfl,q0,q1,rfl,q2⟩) λ_ s2 ⟨v,H2,I2,_,_,n2⟩=>wpAny_pure ⟨_,σ,H2,I2,n2⟩
theorem vN (elt target iter:Expr) (scope:Scope) (pos:Pos) (it acc:Value) (env:Env) :
  compTurn (.ListComp elt [⟨target,iter,[],0⟩] scope pos) 0 it acc env=(standAt iter.pos >>= λ_=>pyNext it >>= λr=>match r with
   | none=>pure (.done .next)
   | some v=>letOwnedTupleGo target it v >>= λ_=>assign target env v >>= λ_ =>
    (do let x <- eval elt env;let _ <- call (.builtin "list.append") [acc,x];pure ():Sem Unit) >>= λ_=>again (.compLoop (.ListComp elt [⟨target,iter,[],0⟩] scope pos) 0 it acc env)):=(1)
end
section
variable {X:Cx}
theorem vO {elt tgt iter:Expr} {ifs:List Expr} {scope:Scope} {pos:Pos} {NL N':List Str} {ρ:List Nat} {wi:TI} {g:TG} {tb:List V->Addr->St->Hp->(List V->St->Hp->Prop)->Prop} {body:Value->Env->Sem Unit}
  (hc:X.calm=true) (S:CScope X scope NL ρ N') (hi:PI X tgt iter wi)
  (hg:∀ C s₀ H₀ fp,PG (ccx X scope C N' s₀ H₀ fp) tgt g) (hb:∀ C s₀ H₀ fp,PB (ccx X scope C N' s₀ H₀ fp) (λacc=>body acc (ccx X scope C N' s₀ H₀ fp).env) tb)
  (he:∀ (it acc:Value) (env:Env),compTurn (.ListComp elt [⟨tgt,iter,ifs,0⟩] scope pos) 0 it acc env=(standAt iter.pos >>= λ_=>pyNext it >>= λr=>match r with
   | none=>pure (.done .next)
   | some v=>letOwnedTupleGo tgt it v >>= λ_=>assign tgt env v >>= λ_=>body acc env >>= λ_=>again (.compLoop (.ListComp elt [⟨tgt,iter,ifs,0⟩] scope pos) 0 it acc env)))
  (hs:∀ x,foldedSetIterable iter X.env x=pure x:=by intro _;rfl):PE X (.ListComp elt [⟨tgt,iter,ifs,0⟩] scope pos) (yN NL.length ρ wi g tb):=by
 intro pins s σ H Q I h;have free_in:∀ x∈scope.names,x.2=.free->∃ c,X.env.cells.lookup x.1=some c:=λx hx hk=>I.ok.has x.1 (S.frees x hx hk);rw [eval_ListComp];refine wpAny_comprehension_free (use:=none) rfl hs (rE free_in) S.kind S.locs ?_;refine thn (hi pins s σ H _ I h) λv s1 h1=>thn h1 λitv s2 h2=>?_;obtain ⟨it,fp,tn,J,H2,e,I2,T,st2,f2,w⟩:=h2;subst e;refine wpAny_newObj_type (wpAny_newFunctionEnv S.nocell (by intro y hy;simp at hy) (λh₁ hns₁ hsb₁=>?_) S.kind);dsimp only at hns₁ hsb₁ ⊢
 generalize hH2:s2.heap.push { cls:=.type "list",dict:=none,data:=.seq ([]:List Value).toArray }=h2' at hns₁ hsb₁ ⊢
 have hCs:h2'.objs.size=s2.heap.objs.size+1:=by rw [<- hH2,aA4]
 have hDC:s2.heap.objs.size≠h2'.objs.size:=by rw [hCs];exact aAI (aA9 _)
 have hC:s2.heap.objs.size<=h2'.objs.size:=by rw [hCs];exact aBX _
 have old:∀ b o,s2.heap.get? b=some o->h₁.get? b=some o:=λb o e=>hsb₁.extBut b o (aAI (aAk (aAu e) hC)) (aAe _ (hH2 ▸ aAe _ e));have hd:h₁.get? s2.heap.objs.size=some { cls:=.type "list",data:=.seq #[] 0 }:=hsb₁.extBut _ _ hDC (aAe _ (hH2 ▸ aAA _ rfl));have hfo:∀ b∈fp,∃ o,s2.heap.get? b=some o:=λb hb=>let ⟨o,e,_⟩:=T.obj _ _ st2 b hb;⟨o,e⟩;have I4:Inv (ccx X scope h2'.objs.size N' s2 H2 fp) (X.pn++pins) (cst NL.length ρ σ) (upd H2 s2.heap.objs.size (.lst [])) { s2 with heap:=h₁,toks:=s2.toks+([]:List (Str×Value)).length } :=
  Inv.comp S I2 f2 hfo hC (aAo _) hDC old hd (by simpa using hns₁)
 have hD0:H2 s2.heap.objs.size=none:=I2.hok.fresh (aAo _);have nfp:s2.heap.objs.size∉fp:=λz=>by
  obtain ⟨o,e⟩:=hfo _ z;exact absurd (aAu e) (aAS _)
 obtain ⟨W,⟨m0,w0⟩,turn⟩:=w s2.heap.objs.size hD0;have stat:∀ {H':Hp},(∀ b∈fp,H' b=none)->∀ b∈fp,iK (ccx X scope h2'.objs.size N' s2 H2 fp) (X.pn++pins) H' b:=λ{H'} hn b hb=>by
  obtain ⟨f0,f1,f2',f3,f4,f5⟩:=f2 b hb;have ok:=I4.ok;refine ⟨hn b hb,(ok.exf b hb).1,ok.exfs b hb,.inl hb,(ok.exf b hb).2,λp hp=>f5 p hp⟩
 have loop:∀ s₃:Shared,s₃={ s2 with heap:=h₁,toks:=s2.toks+([]:List (Str×Value)).length } ->
   codeAny (model X.prog X.w) X.A (.compLoop (.ListComp elt [⟨tgt,iter,ifs,0⟩] scope pos) 0 (.ref it) (.ref s2.heap.objs.size) (compEnvC scope (fR X.env scope.names []) h2'.objs.size X.env))
    (compPost (model X.prog X.w) X.A X.xe none (EP X pins σ Q) (.ref s2.heap.objs.size) h2'.objs.size) s₃:=by
  rintro s₃ rfl;refine codeAny_loop rfl (λn s'=>∃ i ys σ' H',Inv (ccx X scope h2'.objs.size N' s2 H2 fp) (X.pn++pins) σ' H' s'/\tn i s'.heap/\(∀ b∈fp,H' b=none)/\W i n ys σ' H') (λn s3 hI=>?_) m0
   ⟨0,[],_,_,I4,T.keep _ _ _ st2 (λb _ o e=>old b o e),λb hb=>?_,w0⟩
  ·obtain ⟨i,ys,σ3,H3,I3,st3,fr3,w3⟩:=hI;show wpAny _ _ ((compTurn (.ListComp elt [⟨tgt,iter,ifs,0⟩] scope pos) 0 (.ref it) (.ref s2.heap.objs.size) (compEnvC scope (fR X.env scope.names []) h2'.objs.size X.env)).onRaise (λx=>do noteFrame x _;theTreesLotGoes x)) _ _ s3;refine wpAny_noted ?_;rw [he];refine wpAny_bind (wpAny_standAt (wpAny_bind ?_));rcases turn i n ys σ3 H3 w3 with ⟨stop,qn⟩ | ⟨go,step⟩
   ·refine thn (T.done (ccx X scope h2'.objs.size N' s2 H2 fp) rfl rfl rfl hc i _ s3 σ3 H3 _ I3 (stat fr3) st3 stop) λr s4 ⟨hr,I5⟩=>?_;subst hr;refine wpAny_pure ?_;obtain ⟨m,hm,_⟩:=id I5.loc;exact ⟨m,hm,λh' hs'=>⟨.ref s2.heap.objs.size,H3,Inv.compEnd I2 f2 hC I5 hs',rfl,qn⟩⟩
   ·refine thn (T.item (ccx X scope h2'.objs.size N' s2 H2 fp) rfl rfl rfl hc i _ s3 σ3 H3 _ I3 (stat fr3) st3 go) λr s4 ⟨u,hr,h4⟩=>?_;subst hr;refine wpAny_bind (thn h4 λ_ s5 ⟨x,H5,I5,r5,y5,st5,fr5⟩=>?_);have I5':=I5.pinned (stat fr5) (T.obj _ _ st5);refine wpAny_bind (wpAny_mono (hg h2'.objs.size s2 H2 fp _ s5 σ3 H5 x u _ I5' r5 (step x H5 y5)) (λ_ s6 ⟨σ6,H6,I6,q6⟩=>?_) λ_ _ z=>z.elim);refine wpAny_bind (wpAny_mono (hb h2'.objs.size s2 H2 fp _ s6 σ6 H6 s2.heap.objs.size ys _ I6 q6) (λ_ s7 ⟨ys7,σ7,H7,I7,m',hm,w7⟩=>?_) λ_ _ z=>z.elim);refine wpAny_pure ⟨rfl,m',hm,i+1,ys7,σ7,H7,I7.unpinned,T.keep _ _ _ st5 λb hb o e=>(I7.pin (b,o) (aAN _ (aAN _ (fi hb e)))).1,λb hb=>?_,w7⟩;obtain ⟨o,e,d⟩:=T.obj _ _ st5 b hb;exact (I7.pin (b,o) (aAN _ (aAN _ (fi hb e)))).2.1
  ·rw [ac (show b≠s2.heap.objs.size from λz=>nfp (by rw [<- z];exact hb))];exact (f2 b hb).1
 refine codeAny_compStart_list (loop _ rfl) (T.self _ 0 _ _ _ ?_ (loop _ rfl));exact T.keep _ _ _ st2 λb _ o e=>old b o e
theorem pe_comp {elt tgt iter:Expr} {scope:Scope} {pos:Pos} {NL N':List Str} {ρ:List Nat} {wi:TI} {g:TG} {te:TE} (hc:X.calm=true) (S:CScope X scope NL ρ N') (hi:PI X tgt iter wi)
  (hg:∀ C s₀ H₀ fp,PG (ccx X scope C N' s₀ H₀ fp) tgt g) (he:∀ C s₀ H₀ fp,PE (ccx X scope C N' s₀ H₀ fp) elt te)
  (hs:∀ x,foldedSetIterable iter X.env x=pure x:=by intro _;rfl):PE X (.ListComp elt [⟨tgt,iter,[],0⟩] scope pos) (yN NL.length ρ wi g (cEl te)) :=
 vO (body:=λacc env=>do let x <- eval elt env;let _ <- call (.builtin "list.append") [acc,x];pure ()) hc S hi hg (λC s₀ H₀ fp=>HZ (he C s₀ H₀ fp)) (λit acc env=>vN elt tgt iter scope pos it acc env) hs
end
section
variable {X:Cx}
inductive IsiB (K:W.Frag) (H:Hp):V->String->Bool->Prop
 | int_int {i}:IsiB K H (.int i) "int" true
 | int_str {i}:IsiB K H (.int i) "str" false
 | int_bool {i}:IsiB K H (.int i) "bool" false
 | int_tuple {i}:IsiB K H (.int i) "tuple" false
 | int_list {i}:IsiB K H (.int i) "list" false
 | str_int {x}:IsiB K H (.str x) "int" false
 | str_str {x}:IsiB K H (.str x) "str" true
 | str_bool {x}:IsiB K H (.str x) "bool" false
 | str_tuple {x}:IsiB K H (.str x) "tuple" false
 | str_list {x}:IsiB K H (.str x) "list" false
 | bl_int {b}:IsiB K H (.bl b) "int" true
 | bl_bool {b}:IsiB K H (.bl b) "bool" true
 | bl_str {b}:IsiB K H (.bl b) "str" false
 | bl_tuple {b}:IsiB K H (.bl b) "tuple" false
 | tup_int {a xs}:SqT K H a xs->IsiB K H (.ref a) "int" false
 | tup_str {a xs}:SqT K H a xs->IsiB K H (.ref a) "str" false
 | tup_bool {a xs}:SqT K H a xs->IsiB K H (.ref a) "bool" false
 | tup_tuple {a xs}:SqT K H a xs->IsiB K H (.ref a) "tuple" true
 | tup_list {a xs}:SqT K H a xs->IsiB K H (.ref a) "list" false
 | lst_int {a xs}:SqL K H a xs->IsiB K H (.ref a) "int" false
 | lst_str {a xs}:SqL K H a xs->IsiB K H (.ref a) "str" false
 | lst_tuple {a xs}:SqL K H a xs->IsiB K H (.ref a) "tuple" false
 | lst_list {a xs}:SqL K H a xs->IsiB K H (.ref a) "list" true
theorem ge (a b:String) (h:isSubtype (.type a) (.type b)=pure false:=by rw [isSubtype_type];kernel_rfl):isSubtype (.type a) (.type b)=pure false:=h
theorem uF (a b:String) (h:isSubtype (.type a) (.type b)=pure true:=by rw [isSubtype_type];kernel_rfl):isSubtype (.type a) (.type b)=pure true:=h
theorem uG:isSubtype (.type "int") (.type "str")=pure false:=ge _ _
theorem rF:isSubtype (.type "int") (.type "bool")=pure false:=ge _ _
theorem pU:isSubtype (.type "int") (.type "tuple")=pure false:=ge _ _
theorem rG:isSubtype (.type "int") (.type "list")=pure false:=ge _ _
theorem uH:isSubtype (.type "str") (.type "int")=pure false:=ge _ _
theorem rH:isSubtype (.type "str") (.type "bool")=pure false:=ge _ _
theorem pV:isSubtype (.type "str") (.type "tuple")=pure false:=ge _ _
theorem rJ:isSubtype (.type "str") (.type "list")=pure false:=ge _ _
theorem rK:isSubtype (.type "bool") (.type "str")=pure false:=ge _ _
theorem n6:isSubtype (.type "bool") (.type "tuple")=pure false:=ge _ _
theorem pW:isSubtype (.type "tuple") (.type "int")=pure false:=ge _ _
theorem pX:isSubtype (.type "tuple") (.type "str")=pure false:=ge _ _
theorem n8:isSubtype (.type "tuple") (.type "bool")=pure false:=ge _ _
theorem og:isSubtype (.type "tuple") (.type "list")=pure false:=ge _ _
theorem rL:isSubtype (.type "list") (.type "int")=pure false:=ge _ _
theorem rM:isSubtype (.type "list") (.type "str")=pure false:=ge _ _
theorem oh:isSubtype (.type "list") (.type "tuple")=pure false:=ge _ _
theorem Ia:isSubtype (.type "int") (.type "int")=pure true:=uF _ _
theorem Ig:isSubtype (.type "str") (.type "str")=pure true:=uF _ _
theorem BM:isSubtype (.type "bool") (.type "bool")=pure true:=uF _ _
theorem rN:isSubtype (.type "bool") (.type "int")=pure true:=uF _ _
theorem xX:isSubtype (.type "tuple") (.type "tuple")=pure true:=uF _ _
theorem BN:isSubtype (.type "list") (.type "list")=pure true:=uF _ _
theorem pY:typeOf (.type "int")=pure (.type "type"):=by kernel_rfl
theorem pZ:typeOf (.type "str")=pure (.type "type"):=by kernel_rfl
theorem oi:typeOf (.type "bool")=pure (.type "type"):=by kernel_rfl
theorem iP:typeOf (.type "tuple")=pure (.type "type"):=by kernel_rfl
theorem oj:typeOf (.type "list")=pure (.type "type"):=by kernel_rfl
theorem vP:bJ X (.builtin "isinstance") (λxs H Q=>∃ x T b,xs=[x,.ty T]/\IsiB X.K H x T b/\Q (.bl b) H):=by
 intro pins s σ H xs us Q I r h;obtain ⟨x,T,b,rfl,hb,q⟩:=h;obtain ⟨u,w',rfl,rx,rT⟩:=sP r
 cases rT
 have fin:∀ t,EP X pins σ Q (.bool b) { s with toks:=t }:=λt=>⟨.bl b,H,I.tok t,rfl,q⟩;have fin0:EP X pins σ Q (.bool b) s:=⟨.bl b,H,I,rfl,q⟩;have tup:∀ {a xs},SqT X.K H a xs->∃ o,s.heap.get? a=some o/\o.cls=.type "tuple" :=λhq=>by
  obtain ⟨its,_,p,_⟩:=I.tuple hq;obtain ⟨o,e,c,_⟩:=p;exact ⟨o,e,c⟩
 have lst:∀ {a xs},SqL X.K H a xs->∃ o,s.heap.get? a=some o/\o.cls=.type "list" :=λhq=>by
  obtain ⟨its,_,p,_⟩:=I.list hq;obtain ⟨o,e,c,_⟩:=p.isList;exact ⟨o,e,c⟩
 cases hb with
 | int_int=>obtain ⟨t,rfl⟩:=rx;exact call_isinstance (isinstance_true (Tx:= "int") pY Ia) ⟨rfl,fin0⟩
 | int_str=>obtain ⟨t,rfl⟩:=rx;exact call_isinstance (isinstance_false_int (by decide) pZ uG) (fin _)
 | int_bool=>obtain ⟨t,rfl⟩:=rx;exact call_isinstance (isinstance_false_int (by decide) oi rF) (fin _)
 | int_tuple=>obtain ⟨t,rfl⟩:=rx;exact call_isinstance (isinstance_false_int (by decide) iP pU) (fin _)
 | int_list=>obtain ⟨t,rfl⟩:=rx;exact call_isinstance (isinstance_false_int (by decide) oj rG) (fin _)
 | str_int=>obtain ⟨t,rfl⟩:=rx;exact call_isinstance (isinstance_false_str (by decide) pY uH) (fin _)
 | str_str=>obtain ⟨t,rfl⟩:=rx;exact call_isinstance (isinstance_true (Tx:= "str") pZ Ig) ⟨rfl,fin0⟩
 | str_bool=>obtain ⟨t,rfl⟩:=rx;exact call_isinstance (isinstance_false_str (by decide) oi rH) (fin _)
 | str_tuple=>obtain ⟨t,rfl⟩:=rx;exact call_isinstance (isinstance_false_str (by decide) iP pV) (fin _)
 | str_list=>obtain ⟨t,rfl⟩:=rx;exact call_isinstance (isinstance_false_str (by decide) oj rJ) (fin _)
 | bl_int=>cases rx;exact call_isinstance (isinstance_true (Tx:= "bool") pY rN) ⟨rfl,fin0⟩
 | bl_bool=>cases rx;exact call_isinstance (isinstance_true (Tx:= "bool") oi BM) ⟨rfl,fin0⟩
 | bl_str=>cases rx;exact call_isinstance (isinstance_false_bool (by decide) pZ rK) (fin _)
 | bl_tuple=>cases rx;exact call_isinstance (isinstance_false_bool (by decide) iP n6) (fin _)
 | tup_int hq=>cases rx;exact call_isinstance (isinstance_false_tuple (by decide) pY pW) ⟨tup hq,fin _⟩
 | tup_str hq=>cases rx;exact call_isinstance (isinstance_false_tuple (by decide) pZ pX) ⟨tup hq,fin _⟩
 | tup_bool hq=>cases rx;exact call_isinstance (isinstance_false_tuple (by decide) oi n8) ⟨tup hq,fin _⟩
 | tup_tuple hq=>cases rx;exact call_isinstance (isinstance_true (Tx:= "tuple") iP xX) ⟨tup hq,fin0⟩
 | tup_list hq=>cases rx;exact call_isinstance (isinstance_false_tuple (by decide) oj og) ⟨tup hq,fin _⟩
 | lst_int hq=>cases rx;exact call_isinstance (isinstance_false_list (by decide) pY rL) ⟨lst hq,fin _⟩
 | lst_str hq=>cases rx;exact call_isinstance (isinstance_false_list (by decide) pZ rM) ⟨lst hq,fin _⟩
 | lst_tuple hq=>cases rx;exact call_isinstance (isinstance_false_list (by decide) iP oh) ⟨lst hq,fin _⟩
 | lst_list hq=>cases rx;exact call_isinstance (isinstance_true (Tx:= "list") oj BN) ⟨lst hq,fin0⟩
def Its (z:Str):It:=⟨λi _=>i < z.cps.size,λi H x H'=>H'=H/\∃ c,z.cps[i]?=some c/\x=.str ⟨#[c]⟩,λi _=>i=z.cps.size⟩
def Jl (te:TE):TI:=λσ H R=>te σ H λx H1=>∃ z,x=.str z/\R (Its z) H1
theorem p8 {P:Program} {w:World} {K:W.Frag} {tg:Expr} (T:String) (it:Addr) (z:Str) (t:Tok)
  (W:∀ A:Around,A.handled=none->Walks P w A it [it] [it] z.cps.size (SignAt z) (λi h=>h.IsStrIter it T z t i))
  (hT:["enumerate","zip","dict_itemiterator","dict_reverseitemiterator","odict_iterator","itertools.zip_longest","itertools.pairwise"].contains T=false)
  (hs:∀ (A:Around) (i:Nat) (s:Shared) (Q:Value->Shared->Prop) (E:Value->Shared->Prop),s.heap.IsStrIter it T z t i->Q (.ref it) s->wpAny (model P w) A (pyIter (.ref it)) Q E s) :
  Turn P w K tg (Its z) [it] it (λi h=>h.IsStrIter it T z t i) where
 mem:=by simp
 obj:=λi h st b hb=>by
  have e:b=it:=by simpa using hb
  subst e;obtain ⟨o,e,c,d⟩:=st;exact ⟨o,e,λv z=>by rw [d] at z;cases z⟩
 keep:=λi h h' st k=>by
  obtain ⟨o,e,c,d⟩:=st;exact ⟨o,k it (by simp) o e,c,d⟩
 item:=by
  intro X hP hw hK hc i pins s σ H E I hf st hg;subst hP hw hK;obtain ⟨f0,f1,f2,f3,f4,f5⟩:=hf it (by simp);refine (W X.A (I.ok.hd hc)).item i s _ _ hg st λv h' tk hv st' kk=>?_;obtain ⟨c,u,hcz,rfl⟩:=hv;have I1:Inv X pins σ H { s with heap:=h',toks:=tk }:=I.turned (λb o hb e=>kk b o (by simpa using hb) e) f0 f1 f3 f4 f5;obtain ⟨o,e,cl,d⟩:=id st';exact ⟨_,rfl,sL (s:={ s with heap:=h',toks:=tk }) e cl d hT ⟨.str ⟨#[c]⟩,H,I1,⟨u,rfl⟩,⟨rfl,c,hcz,rfl⟩,st',λb hb=>(hf b hb).1⟩⟩
 done:=by
  intro X hP hw hK hc i pins s σ H E I hf st hg;subst hP hw hK;obtain ⟨f0,f1,f2,f3,f4,f5⟩:=hf it (by simp);have hi:i=z.cps.size:=hg;subst hi;exact (W X.A (I.ok.hd hc)).done s _ _ st λh' tk kk=>⟨rfl,I.turned (λb o hb e=>kk b o (by simpa using hb) e) f0 f1 f3 f4 f5⟩
 self:=hs
theorem vQ {tg l:Expr} {tl:TE} (hl:PE X l tl):PI X tg l (Jl tl):=by
 intro pins s σ H R I h;refine thn (hl pins s σ H _ I h) λv s1 ⟨x,H1,I1,r1,q1⟩=>?_;obtain ⟨z,rfl,q⟩:=q1;obtain ⟨t,rfl⟩:=r1;have fp:∀ (o:Obj),∀ b∈[s1.heap.objs.size],iK X pins H1 b:=λo b hb=>by
  have e:b=s1.heap.objs.size:=by simpa using hb
  subst e;exact I1.fpOk (aAo _) (I1.hok.fresh (aAo _))
 cases ha:z.cps.all (· < 128)
 ·refine wpAny_pyIter_wide ha ?_;exact ⟨s1.heap.objs.size,[s1.heap.objs.size],_,_,H1,rfl,I1.kept (t':=s1.toks) λb o e=>aAe _ e,
   p8 "str_iterator" _ z t (λA hA=>Walks.strWide hA _ z t) (by decide) (λ_ _ _ _ _ st h=>wpAny_pyIter_striter_wide st h),⟨_,aAA _ rfl,rfl,rfl⟩,fp default,q⟩
 ·refine wpAny_pyIter_ascii ha ?_;exact ⟨s1.heap.objs.size,[s1.heap.objs.size],_,_,H1,rfl,I1.kept (t':=s1.toks) λb o e=>aAe _ e,
   p8 "str_ascii_iterator" _ z t (λA hA=>Walks.strAscii hA _ z t) (by decide) (λ_ _ _ _ _ st h=>wpAny_pyIter_striter_ascii st h),⟨_,aAA _ rfl,rfl,rfl⟩,fp default,q⟩
def bls:List Bool->List V:=List.map V.bl
theorem vR:bJ X (.builtin "all") (λxs H Q=>∃ p ys,xs=[.ref p]/\X.calm=true/\SqL X.K H p (bls ys)/\Q (.bl (ys.all id)) H):=by
 intro pins s σ H xs us Q I r h;obtain ⟨p,ys,rfl,hcm,hq,q⟩:=h;obtain ⟨u,rfl,rx⟩:=du r
 cases rx
 obtain ⟨its,r',pl,hz⟩:=I.list hq;have hh:X.A.in1.handled=none:=I.ok.hd hcm;have hne:p≠s.heap.objs.size:=by
  obtain ⟨o,e,_⟩:=pl.isList;exact aAI (aAu e)
 have hlen:its.length=ys.length:=by rw [<- r'.length];simp [bls]
 refine call_all_walk (wpAny_pyIter_list pl.isList ⟨s.heap.objs.size,_,_,_,_,_,λi=>ys.getD i true,rfl,Walks.list hh _ p hne its.toArray,⟨⟨_,aAA _ rfl,rfl,rfl⟩,pl.isList.at λo e=>aAe _ e⟩,?_,?_⟩)
 ·intro i v s' Q' E' hv hQ;have hv':its[i]?=some v:=by simpa using hv
  have hi:i < ys.length:=by
   rw [<- hlen];exact (aAj.mp hv').1
  have e1:(bls ys)[i]?=some (V.bl ys[i]):=by simp [bls,hi]
  obtain ⟨u,hu,ru⟩:=r'.get e1;rw [hv'] at hu;obtain rfl:=Option.some.inj hu
  cases ru
  refine wpAny_truthy_bool ?_;have e2:ys.getD i true=ys[i]:=by simp [aAM,hi]
  have hQ':Q' (ys.getD i true) s':=hQ;rw [e2] at hQ';exact hQ'
 ·intro h' tk kk;have e3:(List.range its.toArray.size).all (λi=>ys.getD i true)=ys.all id:=by
   rw [aAw,hlen];rw [aA1,aAP,aAP]
   constructor
   ·intro g x hx;obtain ⟨i,hi,rfl⟩:=List.mem_iff_getElem.mp hx;have:=g i (aBB.mpr hi)
    simpa [aAM,hi] using this
   ·intro g i hi;have hi':=aBB.mp hi;have:=g ys[i] (aBM hi')
    simpa [aAM,hi'] using this
  rw [e3];refine ⟨.bl _,H,?_,rfl,q⟩;have I1:Inv X pins σ H { s with heap:=s.heap.push { cls:=.type "list_iterator",data:=.fields #[.ref p,.int 0 0] } }:=I.kept (t':=s.toks) λb o e=>aAe _ e;exact I.kept (t':=tk) λb o e=>kk b o (by
   intro z;have z':b=s.heap.objs.size:=by simpa using z
   exact absurd (aAu e) (by rw [z'];exact aAS _)) (aAe _ e)
end
section
variable {X:Cx}
theorem kf (ns:List Int):∀ n,n<=ns.length->preSum (λi=>ns.getD i 0) n=(ns.take n).sum
 | 0,_=>by simp [preSum]
 | n+1,h=>by
  have hn:n < ns.length:=h;rw [preSum,kf ns n (aBa hn),aAC,List.sum_append];simp [aAM,hn]
theorem vS:bJ X (.builtin "sum") (λxs H Q=>∃ (p:Addr) (ns:List Int),xs=[.ref p]/\X.calm=true/\SqL X.K H p (ns.map V.int)/\Q (.int ns.sum) H):=by
 intro pins s σ H xs us Q I r h;obtain ⟨p,ns,rfl,hcm,hq,q⟩:=h;obtain ⟨u,rfl,rx⟩:=du r
 cases rx
 obtain ⟨its,r',pl,hz⟩:=I.list hq;have hh:X.A.in1.handled=none:=I.ok.hd hcm;have hlt:p < s.heap.objs.size:=by
  obtain ⟨o,e,_⟩:=pl.isList;exact aAu e
 have hne:p≠s.heap.objs.size:=aAI hlt;have hlen:its.length=ns.length:=by rw [<- r'.length];simp
 refine call_sum_walkG (wpAny_pyIter_list pl.isList ⟨s.heap.objs.size,_,_,_,_,_,λi=>ns.getD i 0,rfl,Walks.list hh _ p hne its.toArray,⟨⟨_,aAA _ rfl,rfl,rfl⟩,pl.isList.at λo e=>aAe _ e⟩,?_,?_,?_⟩)
 ·intro b hb;have hb':b=s.heap.objs.size\/b=p:=by simpa using hb
  show b < (s.heap.push _).objs.size;rw [aA4];rcases hb' with e | e
  ·exact e ▸ aA9 _
  ·exact Nat.lt_succ_of_lt (e ▸ hlt)
 ·intro i v hv;have hv':its[i]?=some v:=by simpa using hv
  have hi:i < ns.length:=by
   rw [<- hlen];exact (aAj.mp hv').1
  have e1:(ns.map V.int)[i]?=some (V.int ns[i]):=by simp [hi]
  obtain ⟨u,hu,ru⟩:=r'.get e1;rw [hv'] at hu;obtain rfl:=Option.some.inj hu;obtain ⟨t,rfl⟩:=ru;exact ⟨t,by simp [aAM,hi]⟩
 ·intro h' tk t' kk;have e3:preSum (λi=>ns.getD i 0) its.toArray.size=ns.sum:=by
   rw [aAw,hlen,kf ns _ (aAo _),aBs]
  rw [e3];refine ⟨.int _,H,?_,⟨_,rfl⟩,q⟩;exact I.kept (t':=tk) λb o e=>kk b o (by
   intro z;have z':b=s.heap.objs.size:=by simpa using z
   exact absurd (aAu e) (by rw [z'];exact aAS _)) (aAe _ e)
def Jm:V->Option Int->Option Int->Hp->VK->Prop:=λx lo hi H Q=>∃ z,x=.str z/\z.length<=sizeLine/\Q (.str (Txt.slice z lo hi)) H
theorem sl_str:SlR X Jm:=by
 intro pins s σ H x v vl vu lo hi sl Q I rx hs pl pu h;obtain ⟨z,rfl,hz,q⟩:=h;obtain ⟨t,rfl⟩:=rx;refine ⟨"str",_,F.slot_str_getitem.lookup,typeIs_str _ _ _,?_⟩;have fin:∀ t' k,EP X pins σ Q (.str (Txt.slice z lo hi) t') { s with toks:=k }:=λt' k=>⟨.str _,H,I.tok k,⟨t',rfl⟩,q⟩
 cases pl with
 | none =>
  cases pu with
  | none=>exact wpAny_getItem_str_slice (l:=none) (u:=none) (st:=none) hs rfl (post_val_or_str ⟨aAz (Txt.slice_le z _ _) hz,λt' k=>fin t' k⟩)
  | int j uj=>exact wpAny_getItem_str_slice (l:=none) (u:=some (j,uj)) (st:=none) hs rfl (post_val_or_str ⟨aAz (Txt.slice_le z _ _) hz,λt' k=>fin t' k⟩)
 | int i ui =>
  cases pu with
  | none=>exact wpAny_getItem_str_slice (l:=some (i,ui)) (u:=none) (st:=none) hs rfl (post_val_or_str ⟨aAz (Txt.slice_le z _ _) hz,λt' k=>fin t' k⟩)
  | int j uj=>exact wpAny_getItem_str_slice (l:=some (i,ui)) (u:=some (j,uj)) (st:=none) hs rfl (post_val_or_str ⟨aAz (Txt.slice_le z _ _) hz,λt' k=>fin t' k⟩)
end
theorem ag {H:Hp} {p:Addr} (h:H p=none) (o:HO):Same H (upd H p o):=λb u q=>by rw [ac (ah q h)];exact q
def But (r:Addr) (H H':Hp):Prop:=∀ b o,b≠r->H b=some o->H' b=some o
theorem But.refl (r:Addr) (H:Hp):But r H H:=λ_ _ _ h=>h
theorem But.trans {r:Addr} {H H1 H2:Hp} (a:But r H H1) (b:But r H1 H2):But r H H2:=λc o n h=>b c o n (a c o n h)
theorem But.same {r:Addr} {H H1:Hp} (a:Same H H1):But r H H1:=λc o _ h=>a c o h
theorem But.put {r:Addr} {H:Hp} {o:HO}:But r H (upd H r o):=λc u n h=>by rw [ac n];exact h
theorem But.seq {K:W.Frag} {r:Addr} {H H':Hp} {a:Addr} {xs:List V} (e:But r H H') (n:a≠r) (h:SqL K H a xs):SqL K H' a xs:=by
 rcases h with (h | ⟨o,h⟩) | h
 ·exact .inl (.inl (e _ _ n h))
 ·exact .inl (.inr ⟨o,e _ _ n h⟩)
 ·exact .inr h
theorem But.tup {K:W.Frag} {r:Addr} {H H':Hp} {a:Addr} {xs:List V} (e:But r H H') (n:a≠r) (h:SqT K H a xs):SqT K H' a xs:=by
 rcases h with (h | ⟨o,h⟩) | h
 ·exact .inl (.inl (e _ _ n h))
 ·exact .inl (.inr ⟨o,e _ _ n h⟩)
 ·exact .inr h
theorem Same.tup {K:W.Frag} {H H':Hp} {a:Addr} {xs:List V} (e:Same H H') (h:SqT K H a xs):SqT K H' a xs:=by
 rcases h with (h | ⟨o,h⟩) | h
 ·exact .inl (.inl (e _ _ h))
 ·exact .inl (.inr ⟨o,e _ _ h⟩)
 ·exact .inr h
theorem cs0 {X:Cx} {scope:Scope} {NL:List Str} (h1:scope.kind=.function) (h2:(scope.names.all λx=>x.2 != .cell && x.2 != .free)=true)
  (h3:∀ x∈scope.names,x.2=.local->scope.names.lookup x.1=some .local):CScope X scope NL [] NL:=by
 rw [aAP] at h2;refine ⟨h1,λx hx e=>?_,h3,λx hx e=>?_,by simp,λj hj=>by simp at hj⟩
 ·have:=h2 x hx;rw [e] at this;exact absurd this (by decide)
 ·have:=h2 x hx;rw [e] at this;exact absurd this (by decide)
theorem p9 {z:Str} {l:Addr} {g:TG} {tb:List V->Addr->St->Hp->(List V->St->Hp->Prop)->Prop} {Q:VK} {σ0:St} {H0:Hp} (Pv:Nat->List V->St->Hp->Prop) (h0:Pv 0 [] σ0 H0)
  (hs:∀ i c ys σ H (N:List V->St->Hp->Prop),z.cps[i]?=some c->Pv i ys σ H->(∀ ys' σ' H',Pv (i+1) ys' σ' H'->N ys' σ' H')->g (.str ⟨#[c]⟩) σ H λσ2 H2=>tb ys l σ2 H2 N)
  (hd:∀ ys σ H,Pv z.cps.size ys σ H->Q (.ref l) H) :
  ∃ W:Nat->Nat->List V->St->Hp->Prop,(∃ m,W 0 m [] σ0 H0)/\∀ i m ys σ' H',W i m ys σ' H'->((Its z).stop i H'/\Q (.ref l) H') \/
   ((Its z).go i H'/\∀ x H'',(Its z).yld i H' x H''->g x σ' H'' λσ2 H2=>tb ys l σ2 H2 λys' σ3 H3=>∃ m',m' < m/\W (i+1) m' ys' σ3 H3):=by
 refine ⟨λi m ys σ H=>m=z.cps.size - i/\i<=z.cps.size/\Pv i ys σ H,⟨z.cps.size,by simp,aAE _,h0⟩,?_⟩;rintro i m ys σ H ⟨rfl,hi,p⟩
 by_cases hlt:i < z.cps.size
 ·refine .inr ⟨hlt,λx H' y=>?_⟩;obtain ⟨e,c,hc,rfl⟩:=y;subst e;exact hs i c ys σ _ _ hc p λys' σ' H' q=>⟨_,(3),rfl,hlt,q⟩
 ·have e:i=z.cps.size:=(3)
  subst e;exact .inl ⟨rfl,hd ys σ H p⟩
theorem rO {lo:Int} {n:Nat} {l:Addr} {g:TG} {tb:List V->Addr->St->Hp->(List V->St->Hp->Prop)->Prop} {Q:VK} {σ0:St} {H0:Hp} (Pv:Nat->List V->St->Hp->Prop) (h0:Pv 0 [] σ0 H0)
  (hs:∀ i ys σ H (N:List V->St->Hp->Prop),i < n->Pv i ys σ H->(∀ ys' σ' H',Pv (i+1) ys' σ' H'->N ys' σ' H')->g (.int (lo+i)) σ H λσ2 H2=>tb ys l σ2 H2 N)
  (hd:∀ ys σ H,Pv n ys σ H->Q (.ref l) H) :
  ∃ W:Nat->Nat->List V->St->Hp->Prop,(∃ m,W 0 m [] σ0 H0)/\∀ i m ys σ' H',W i m ys σ' H'->((Itr lo n).stop i H'/\Q (.ref l) H') \/
   ((Itr lo n).go i H'/\∀ x H'',(Itr lo n).yld i H' x H''->g x σ' H'' λσ2 H2=>tb ys l σ2 H2 λys' σ3 H3=>∃ m',m' < m/\W (i+1) m' ys' σ3 H3):=by
 refine ⟨λi m ys σ H=>m=n - i/\i<=n/\Pv i ys σ H,⟨n,by simp,aAE _,h0⟩,?_⟩;rintro i m ys σ H ⟨rfl,hi,p⟩
 by_cases hlt:i < n
 ·refine .inr ⟨hlt,λx H' y=>?_⟩;obtain ⟨e,rfl⟩:=y;subst e;exact hs i ys σ _ _ hlt p λys' σ' H' q=>⟨_,(3),rfl,hlt,q⟩
 ·have e:i=n:=(3)
  subst e;exact .inl ⟨aAo _,hd ys σ H p⟩
theorem uI {K:W.Frag} {a:Addr} {xs:List V} {l:Addr} {g:TG} {tb:List V->Addr->St->Hp->(List V->St->Hp->Prop)->Prop} {Q:VK} {σ0:St} {H0:Hp} (Pv:Nat->List V->St->Hp->Prop) (h0:Pv 0 [] σ0 H0) (hl:∀ i ys σ H,i<=xs.length->Pv i ys σ H->SqL K H a xs)
  (hs:∀ i x ys σ H (N:List V->St->Hp->Prop),xs[i]?=some x->Pv i ys σ H->(∀ ys' σ' H',Pv (i+1) ys' σ' H'->N ys' σ' H')->g x σ H λσ2 H2=>tb ys l σ2 H2 N)
  (hd:∀ ys σ H,Pv xs.length ys σ H->Q (.ref l) H) :
  ∃ W:Nat->Nat->List V->St->Hp->Prop,(∃ m,W 0 m [] σ0 H0)/\∀ i m ys σ' H',W i m ys σ' H'->((Itl K a).stop i H'/\Q (.ref l) H') \/
   ((Itl K a).go i H'/\∀ x H'',(Itl K a).yld i H' x H''->g x σ' H'' λσ2 H2=>tb ys l σ2 H2 λys' σ3 H3=>∃ m',m' < m/\W (i+1) m' ys' σ3 H3):=by
 refine ⟨λi m ys σ H=>m=xs.length - i/\i<=xs.length/\Pv i ys σ H,⟨xs.length,by simp,aAE _,h0⟩,?_⟩;rintro i m ys σ H ⟨rfl,hi,p⟩;have q:=hl i ys σ H hi p
 by_cases hlt:i < xs.length
 ·refine .inr ⟨⟨xs,xs[i],q,by simp [hlt]⟩,λx H' y=>?_⟩;obtain ⟨e,y⟩:=y;subst e;exact hs i x ys σ _ _ (y xs q) p λys' σ' H' q=>⟨_,(3),rfl,hlt,q⟩
 ·have e:i=xs.length:=(3)
  subst e;exact .inl ⟨⟨xs,q,aAo _⟩,hd ys σ H p⟩
theorem vT {K:W.Frag} {a:Addr} {xs:List V} {l:Addr} {g:TG} {tb:List V->Addr->St->Hp->(List V->St->Hp->Prop)->Prop} {Q:VK} {σ0:St} {H0:Hp} (Pv:Nat->List V->St->Hp->Prop) (h0:Pv 0 [] σ0 H0) (hl:∀ i ys σ H,i<=xs.length->Pv i ys σ H->SqT K H a xs)
  (hs:∀ i x ys σ H (N:List V->St->Hp->Prop),xs[i]?=some x->Pv i ys σ H->(∀ ys' σ' H',Pv (i+1) ys' σ' H'->N ys' σ' H')->g x σ H λσ2 H2=>tb ys l σ2 H2 N)
  (hd:∀ ys σ H,Pv xs.length ys σ H->Q (.ref l) H) :
  ∃ W:Nat->Nat->List V->St->Hp->Prop,(∃ m,W 0 m [] σ0 H0)/\∀ i m ys σ' H',W i m ys σ' H'->((Itt K a).stop i H'/\Q (.ref l) H') \/
   ((Itt K a).go i H'/\∀ x H'',(Itt K a).yld i H' x H''->g x σ' H'' λσ2 H2=>tb ys l σ2 H2 λys' σ3 H3=>∃ m',m' < m/\W (i+1) m' ys' σ3 H3):=by
 refine ⟨λi m ys σ H=>m=xs.length - i/\i<=xs.length/\Pv i ys σ H,⟨xs.length,by simp,aAE _,h0⟩,?_⟩;rintro i m ys σ H ⟨rfl,hi,p⟩;have q:=hl i ys σ H hi p
 by_cases hlt:i < xs.length
 ·refine .inr ⟨⟨xs,xs[i],q,by simp [hlt]⟩,λx H' y=>?_⟩;obtain ⟨e,y⟩:=y;subst e;exact hs i x ys σ _ _ (y xs q) p λys' σ' H' q=>⟨_,(3),rfl,hlt,q⟩
 ·have e:i=xs.length:=(3)
  subst e;exact .inl ⟨⟨xs,q,aAo _⟩,hd ys σ H p⟩
theorem kN {X:Cx} {x:Str} {i:Int} {t:Tok} {pos:Pos} (hg:Gl X x) (hm:X.mg x=some (.int i t)) (hd:(x == ("__debug__" : Str))=false:=by decide):PE X (.Name x pos) (tC (.int i)):=nS hg hm ⟨_,rfl⟩ hd
theorem bF {X:Cx} {x z:Str} {t:Tok} {pos:Pos} (hg:Gl X x) (hm:X.mg x=some (.str z t)) (hd:(x == ("__debug__" : Str))=false:=by decide):PE X (.Name x pos) (tC (.str z)):=nS hg hm ⟨_,rfl⟩ hd
theorem iQ {X:Cx} {x:Str} {a:Addr} {pos:Pos} (hg:Gl X x) (hm:X.mg x=some (.ref a)) (hd:(x == ("__debug__" : Str))=false:=by decide):PE X (.Name x pos) (tC (.ref a)):=nS hg hm rfl hd
theorem om {X:Cx} {x:Str} {n:String} {pos:Pos} (hg:Gl X x) (hm:X.mg x=none) (hv:bootBuiltins x=some (.type n)) (hn:x≠ "__name__" :=by decide) (hd:(x == ("__debug__" : Str))=false:=by decide):PE X (.Name x pos) (tC (.ty n)):=xI hg hm hv rfl hn hd
structure Gn (K:W.Frag) (mg:Str->Option Value) (x:Str) (st:Stmt) (ps:List Str) (f:Addr) (fd:FuncData):Prop where
 F:Fun K x x st f fd
 b:Binds K fd ps []
 m:mg x=some (.ref f)
inductive Dt where
 | non | bl (b:Bool) | int (i:Int) | str (z:Str) | tup (l:List Dt)
mutual
inductive IsD (K:W.Frag) (H:Hp):Dt->V->Prop
 | non:IsD K H .non .non
 | bl {b}:IsD K H (.bl b) (.bl b)
 | int {i}:IsD K H (.int i) (.int i)
 | str {z}:IsD K H (.str z) (.str z)
 | tup {l:List Dt} {a:Addr} {xs:List V}:SqT K H a xs->IsDs K H l xs->IsD K H (.tup l) (.ref a)
inductive IsDs (K:W.Frag) (H:Hp):List Dt->List V->Prop
 | nil:IsDs K H [] []
 | cons {d:Dt} {l:List Dt} {x:V} {xs:List V}:IsD K H d x->IsDs K H l xs->IsDs K H (d :: l) (x :: xs)
end
mutual
def Dt.dep:Dt->Nat
 | .tup l=>cz l+1
 | _=>0
def cz:List Dt->Nat
 | []=>0
 | d :: l=>max d.dep (cz l)
end
mutual
def eqD:Dt->Dt->Bool
 | .non,.non=>true
 | .bl a,.bl b=>a == b
 | .bl a,.int i=>(if a then 1 else 0) == i
 | .int i,.bl a=>i == (if a then 1 else 0)
 | .int i,.int j=>i == j
 | .str x,.str y=>x == y
 | .tup l,.tup m=>iR l m
 | _,_=>false
def iR:List Dt->List Dt->Bool
 | [],[]=>true
 | d :: l,e :: m=>eqD d e && iR l m
 | _,_=>false
end
mutual
def Dt.plain:Dt->Bool
 | .bl _=>false
 | .tup l=>la l
 | _=>true
def la:List Dt->Bool
 | []=>true
 | d :: l=>d.plain && la l
end
mutual
theorem eS:∀ d:Dt,eqD d d=true
 | .non=>rfl
 | .bl a=>by simp [eqD]
 | .int i=>by simp [eqD]
 | .str z=>by simp [eqD]
 | .tup l=>by simp only [eqD];exact m9 l
theorem m9:∀ l:List Dt,iR l l=true
 | []=>rfl
 | d :: l=>by simp only [iR,eS d,m9 l,Bool.and_self]
end
mutual
theorem BO:∀ d e:Dt,d.plain=true->e.plain=true->eqD d e=true->d=e
 | .non,e,_,_,h=>by cases e <;> simp_all [eqD]
 | .bl _,_,h,_,_=>by simp [Dt.plain] at h
 | .int i,e,_,he,h=>by cases e <;> simp_all [eqD,Dt.plain]
 | .str z,e,_,_,h=>by cases e <;> simp_all [eqD]
 | .tup l,e,hd,he,h=>by
  cases e with
  | tup m=>rw [sT l m (by simpa [Dt.plain] using hd) (by simpa [Dt.plain] using he) (by simpa [eqD] using h)]
  | _=>simp [eqD] at h
theorem sT:∀ l m:List Dt,la l=true->la m=true->iR l m=true->l=m
 | [],[],_,_,_=>rfl
 | [],_ :: _,_,_,h=>by simp [iR] at h
 | _ :: _,[],_,_,h=>by simp [iR] at h
 | d :: l,e :: m,hl,hm,h=>by
  simp only [la,aAB] at hl hm;simp only [iR,aAB] at h;rw [BO d e hl.1 hm.1 h.1,sT l m hl.2 hm.2 h.2]
end
section
variable {K:W.Frag} {H H':Hp}
mutual
theorem IsD.same (g:Same H H'):∀ {d:Dt} {v:V},IsD K H d v->IsD K H' d v
 | _,_,.non=>.non
 | _,_,.bl=>.bl
 | _,_,.int=>.int
 | _,_,.str=>.str
 | _,_,.tup h r=>.tup (g.tup h) (IsDs.same g r)
theorem IsDs.same (g:Same H H'):∀ {l:List Dt} {xs:List V},IsDs K H l xs->IsDs K H' l xs
 | _,_,.nil=>.nil
 | _,_,.cons h r=>.cons (IsD.same g h) (IsDs.same g r)
end
theorem vU {a r:Addr} {xs ys:List V} (hr:H r=some (.lst ys)) (h:SqT K H a xs):a≠r\/∀ H'',SqT K H'' a xs:=by
 rcases h with (h | ⟨o,h⟩) | h
 ·exact .inl (mV h hr (by intro z;cases z))
 ·exact .inl (mV h hr (by intro z;cases z))
 ·exact .inr λ_=>.inr h
mutual
theorem IsD.but {r:Addr} {ys:List V} (hr:H r=some (.lst ys)) (g:But r H H'):∀ {d:Dt} {v:V},IsD K H d v->IsD K H' d v
 | _,_,.non=>.non
 | _,_,.bl=>.bl
 | _,_,.int=>.int
 | _,_,.str=>.str
 | _,_,.tup h q=>.tup (by
   rcases vU hr h with n | n
   ·exact g.tup n h
   ·exact n _) (IsDs.but hr g q)
theorem IsDs.but {r:Addr} {ys:List V} (hr:H r=some (.lst ys)) (g:But r H H'):∀ {l:List Dt} {xs:List V},IsDs K H l xs->IsDs K H' l xs
 | _,_,.nil=>.nil
 | _,_,.cons h q=>.cons (IsD.but hr g h) (IsDs.but hr g q)
end
theorem IsDs.length {l:List Dt} {xs:List V} (h:IsDs K H l xs):l.length=xs.length:=by
 induction l generalizing xs with
 | nil=>cases h;rfl
 | cons d l ih=>cases h with | cons _ r=>simp [ih r]
theorem IsDs.get {l:List Dt} {xs:List V} (h:IsDs K H l xs) {i:Nat} {d:Dt} (e:l[i]?=some d):∃ x,xs[i]?=some x/\IsD K H d x:=by
 induction l generalizing xs i with
 | nil=>simp at e
 | cons c l ih =>
  cases h with
  | cons h r =>
   cases i with
   | zero=>simp at e;subst e;exact ⟨_,rfl,h⟩
   | succ i=>exact ih r (by simpa using e)
end
section
variable {X:Cx} {pins:List (Addr×Obj)} {σ:St} {H:Hp} {s:Shared}
mutual
theorem IsD.inj (I:Inv X pins σ H s):∀ {d e:Dt} {v:V},IsD X.K H d v->IsD X.K H e v->d=e
 | _,_,_,.non,.non=>rfl
 | _,_,_,.bl,.bl=>rfl
 | _,_,_,.int,.int=>rfl
 | _,_,_,.str,.str=>rfl
 | _,_,_,.tup h r,.tup h' r'=>by
  have e:=I.tuple_inj h h';subst e;rw [IsDs.inj I r r']
theorem IsDs.inj (I:Inv X pins σ H s):∀ {l m:List Dt} {xs:List V},IsDs X.K H l xs->IsDs X.K H m xs->l=m
 | _,_,_,.nil,.nil=>rfl
 | _,_,_,.cons h r,.cons h' r'=>by rw [IsD.inj I h h',IsDs.inj I r r']
end
theorem le:∀ (l m:List Dt),iR l m=((List.range (min l.length m.length)).all (λj=>eqD (l.getD j .non) (m.getD j .non)) && l.length == m.length)
 | [],[]=>rfl
 | [],_ :: _=>by simp [iR]
 | _ :: _,[]=>by simp [iR]
 | d :: l,e :: m=>by
  simp only [iR,aAb];rw [le l m,Nat.succ_min_succ,List.range_succ_eq_map,aA8,aBN];have e1:(l.length+1 == m.length+1)=(l.length == m.length):=by
   rw [aA1];simp
  rw [e1,Bool.and_assoc]
  rfl
theorem lh:∀ {l:List Dt} {j:Nat},j < l.length->(l.getD j .non).dep<=cz l
 | [],_,h=>by simp at h
 | d :: l,0,_=>by simp only [List.getD_cons_zero,cz];lia
 | d :: l,j+1,h=>by
  have q:=@lh l j (by simpa using h);simp only [List.getD_cons_succ,cz];lia
theorem Inv.tup' (I:Inv X pins σ H s) {a:Addr} {xs:List V} (h:SqT X.K H a xs):∃ its:List Value,Vals xs its/\s.heap.IsTuple a its.toArray:=by
 obtain ⟨its,r,p,_⟩:=I.tuple h;exact ⟨its,r,p⟩
theorem nc (A:Around):A.in1.units=A.units+1:=by
 first | rfl | simp [Around.in1]
theorem BP (I:Inv X pins σ H s):∀ (n:Nat) (d e:Dt) (x y:V) (u v:Value) (A:Around),d.dep<=n->IsD X.K H d x->IsD X.K H e y->RelV x u->RelV y v->A.units+n < cLine ->
  SeqAt.EqAt A s u v (eqD d e)/\SeqAt.RcAt A s u v (eqD d e)/\SeqAt.RcNeAt A s u v (!eqD d e):=by
 intro n
 induction n with
 | zero =>
  intro d e x y u v A hd hx hy rx ry hu;have hu0:A.units < cLine:=(3)
  cases hx with
  | tup h r=>simp [Dt.dep] at hd
  | non =>
   cases rx
   cases hy with
   | non=>cases ry;exact ⟨.same _,.none_none,.none_none⟩
   | bl=>cases ry;exact ⟨.none_bool _,.none_bool _,.none_bool _⟩
   | int=>obtain ⟨t,rfl⟩:=ry;exact ⟨.none_int _ _,.none_int _ _,.none_int _ _⟩
   | str=>obtain ⟨t,rfl⟩:=ry;exact ⟨.none_str _ _,.none_str _ _,.none_str _ _⟩
   | tup h r=>cases ry;obtain ⟨its,_,p⟩:=I.tup' h;exact ⟨.none_tuple p hu0,.none_tuple p hu0,.none_tuple p hu0⟩
  | bl =>
   cases rx
   cases hy with
   | non=>cases ry;exact ⟨.bool_none _,.bool_none _,.bool_none _⟩
   | bl=>cases ry;exact ⟨.bool_bool _ _,.bool_bool _ _,.bool_bool _ _⟩
   | int=>obtain ⟨t,rfl⟩:=ry;exact ⟨.bool_int _ _ _,.bool_int _ _ _,.bool_int _ _ _⟩
   | str=>obtain ⟨t,rfl⟩:=ry;exact ⟨.bool_str _ _ _,.bool_str _ _ _,.bool_str _ _ _⟩
   | tup h r=>cases ry;obtain ⟨its,_,p⟩:=I.tup' h;exact ⟨.bool_tuple _ p hu0,.bool_tuple _ p hu0,.bool_tuple _ p hu0⟩
  | int =>
   obtain ⟨t0,rfl⟩:=rx
   cases hy with
   | non=>cases ry;exact ⟨.int_none _ _,.int_none _ _,.int_none _ _⟩
   | bl=>cases ry;exact ⟨.int_bool _ _ _,.int_bool _ _ _,.int_bool _ _ _⟩
   | int=>obtain ⟨t,rfl⟩:=ry;exact ⟨.int_int _ _ _ _,.int_int _ _ _ _,.int_int _ _ _ _⟩
   | str=>obtain ⟨t,rfl⟩:=ry;exact ⟨.int_str _ _ _ _,.int_str _ _ _ _,.int_str _ _ _ _⟩
   | tup h r=>cases ry;obtain ⟨its,_,p⟩:=I.tup' h;exact ⟨.int_tuple _ _ p hu0,.int_tuple _ _ p hu0,.int_tuple _ _ p hu0⟩
  | str =>
   obtain ⟨t0,rfl⟩:=rx
   cases hy with
   | non=>cases ry;exact ⟨.str_none _ _,.str_none _ _,.str_none _ _⟩
   | bl=>cases ry;exact ⟨.str_bool _ _ _,.str_bool _ _ _,.str_bool _ _ _⟩
   | int=>obtain ⟨t,rfl⟩:=ry;exact ⟨.str_int _ _ _ _,.str_int _ _ _ _,.str_int _ _ _ _⟩
   | str=>obtain ⟨t,rfl⟩:=ry;exact ⟨.str_str _ _ _ _,.str_str _ _ _ _,.str_str _ _ _ _⟩
   | tup h r=>cases ry;obtain ⟨its,_,p⟩:=I.tup' h;exact ⟨.str_tuple _ _ p hu0,.str_tuple _ _ p hu0,.str_tuple _ _ p hu0⟩
 | succ n ih =>
  intro d e x y u v A hd hx hy rx ry hu;have hu0:A.units < cLine:=(3)
  cases hx with
  | tup h r =>
   rename_i l a xs
   cases rx
   cases hy with
   | non=>cases ry;obtain ⟨its,_,p⟩:=I.tup' h;exact ⟨.tuple_none p hu0,.tuple_none p hu0,.tuple_none p hu0⟩
   | bl=>cases ry;obtain ⟨its,_,p⟩:=I.tup' h;exact ⟨.tuple_bool _ p hu0,.tuple_bool _ p hu0,.tuple_bool _ p hu0⟩
   | int=>obtain ⟨t,rfl⟩:=ry;obtain ⟨its,_,p⟩:=I.tup' h;exact ⟨.tuple_int _ _ p hu0,.tuple_int _ _ p hu0,.tuple_int _ _ p hu0⟩
   | str=>obtain ⟨t,rfl⟩:=ry;obtain ⟨its,_,p⟩:=I.tup' h;exact ⟨.tuple_str _ _ p hu0,.tuple_str _ _ p hu0,.tuple_str _ _ p hu0⟩
   | tup h' r' =>
    rename_i m b ys
    cases ry
    obtain ⟨its,q,p⟩:=I.tup' h;obtain ⟨its',q',p'⟩:=I.tup' h';have l1:its.length=l.length:=by rw [<- q.length,<- r.length]
    have l2:its'.length=m.length:=by rw [<- q'.length,<- r'.length]
    have he:∀ j (h1:j < its.toArray.size) (h2:j < its'.toArray.size),SeqAt.EqAt A.in1 s its.toArray[j] its'.toArray[j] (eqD (l.getD j .non) (m.getD j .non)):=by
     intro j h1 h2;have j1:j < l.length:=by simpa [l1] using h1
     have j2:j < m.length:=by simpa [l2] using h2
     obtain ⟨x1,ex,dx⟩:=r.get (i:=j) (d:=l.getD j .non) (by simp [aAM,j1]);obtain ⟨y1,ey,dy⟩:=r'.get (i:=j) (d:=m.getD j .non) (by simp [aAM,j2]);obtain ⟨u1,eu,ru⟩:=q.get ex;obtain ⟨v1,ev,rv⟩:=q'.get ey;have e1:its.toArray[j]=u1:=by
      have:its[j]?=some its[j]:=by simp [l1,j1]
      rw [this] at eu
      simpa using Option.some.inj eu
     have e2:its'.toArray[j]=v1:=by
      have:its'[j]?=some its'[j]:=by simp [l2,j2]
      rw [this] at ev
      simpa using Option.some.inj ev
     rw [e1,e2];have hdl:cz l<=n:=by simp only [Dt.dep] at hd;lia
     exact (ih _ _ _ _ _ _ A.in1 (aAz (lh j1) hdl) dx dy ru rv (by rw [nc];lia)).1
    have ev:eqD (.tup l) (.tup m)=((List.range (min its.toArray.size its'.toArray.size)).all (λj=>eqD (l.getD j .non) (m.getD j .non)) && its.toArray.size == its'.toArray.size):=by
     simp only [eqD,aAw,l1,l2];exact le l m
    rw [ev];refine ⟨?_,SeqAt.RcAt.tuples p p' hu0 he,SeqAt.RcNeAt.tuples p p' hu0 he⟩
    by_cases hab:a=b
    ·subst hab;have e3:=I.tuple_inj h h';subst e3;have e4:=IsDs.inj I r r';subst e4;rw [<- ev,eS];exact .same _
    ·exact .of_refs hab (SeqAt.RcAt.tuples p p' hu0 he)
  | non=>exact ih _ _ _ _ _ _ A (by simp [Dt.dep]) .non hy rx ry (by lia)
  | bl=>exact ih _ _ _ _ _ _ A (by simp [Dt.dep]) .bl hy rx ry (by lia)
  | int=>exact ih _ _ _ _ _ _ A (by simp [Dt.dep]) .int hy rx ry (by lia)
  | str=>exact ih _ _ _ _ _ _ A (by simp [Dt.dep]) .str hy rx ry (by lia)
def Ih (K:W.Frag):R2:=λx y H Q=>∃ d e,IsD K H d x/\IsD K H e y/\d.dep<=60/\Q (.bl (eqD d e)) H
def Ii (K:W.Frag):R2:=λx y H Q=>∃ d e,IsD K H d x/\IsD K H e y/\d.dep<=60/\Q (.bl (!eqD d e)) H
theorem BQ (hu:X.A.units+64 < cLine):OpR X (compareOp .Eq) (Ih X.K):=by
 intro pins s σ H x y v u Q I rx ry h;obtain ⟨d,e,hd,he,hn,q⟩:=h;exact (BP I 60 d e x y v u X.A hn hd he rx ry (3)).2.1 _ _ _ _ ⟨.bl _,H,I,rfl,q⟩
theorem BR (hu:X.A.units+64 < cLine):OpR X (compareOp .NotEq) (Ii X.K):=by
 intro pins s σ H x y v u Q I rx ry h;obtain ⟨d,e,hd,he,hn,q⟩:=h;exact (BP I 60 d e x y v u X.A hn hd he rx ry (3)).2.2 _ _ _ _ ⟨.bl _,H,I,rfl,q⟩
end
end L2
namespace PySem.W
open PySem PySem.Spec PyProof.Rows PySem.Calls
structure ExcK (K:Frag) (C:Addr):Prop where
 ga:findIn K (.ref C) "__getattribute__" = some (some (.builtin "BaseException.__getattribute__"))
 gt:findIn K (.ref C) "__getattr__" = some none
 cl:findIn K (.ref C) "__class__" = some (some (.builtin "object.__class__"))
 sb:mroIn K C (.type "BaseException")=some true
 so:mroIn K C (.type "object")=some true
 cd:∃ c,clsIn K C=some c
section
variable {prog:Program} {w:World} {A:Around} {E:Value->Shared->Prop} {h:Heap} {g:Array GenState} {d:Drawn} {t:Nat} {os:OsState} {a C:Addr} {o:Obj} {K:Frag}
end
end PySem.W
namespace L2
open PySem PySem.Spec PyProof.Rows
abbrev bmV:List Value:=[.type "ValueError",.type "Exception",.type "BaseException",.type "object"]
structure ExC (K:W.Frag) (mg:Str->Option Value) (x:Str) (C:Addr):Prop where
 m:mg x=some (.ref C)
 q:W.excIn K C bmV "ValueError.__new__" = true
 k:W.ExcK K C
 kp:W.keepIn K (.ref C)=true
theorem xY {K:W.Frag} {h:Heap} {C:Addr} {bmB:List Value} {newId:String} (X:K.In h) (q:W.excIn K C bmB newId=true) :
  ∃ bm N nm qn bs hd sn sub ab col dd k0 k1 k2 k3 k5 mN,h.get? C=some (excClassObj nm qn C N bs bm hd sn sub ab col dd k0 k1 k2 k3 k5 newId)/\h.Ns N mN/\mN "__init__" = none/\OwnTail h bmB bm:=by
 unfold W.excIn at q
 split at q
 case h_2=>cases q
 case h_1 dd cd sl ho =>
  split at q
  case h_2=>cases q
  case h_1 C' bm k0 k1 k2 k3 n k5 hm hs =>
   simp only [aAB,beq_iff_eq,aBI] at q;obtain ⟨⟨⟨⟨⟨q1,q2⟩,q3⟩,q4⟩,q5⟩,q6⟩:=q;subst q1 q2;obtain ⟨nm,bs,mro,ns,qn,hd,sn,sub,ab,col,del⟩:=cd;dsimp only at hm q3 q5 q6;subst hm q3;obtain ⟨l⟩:=sl;dsimp only at hs;subst hs;exact ⟨bm,ns,nm,qn,bs,hd,sn,sub,ab,col,dd,k0,k1,k2,k3,k5,_,X _ _ ho,.of_isNs (W.isNs_of_in X q5),W.nsMap_none_of_in X q5 q6,W.tail_of_in X q4⟩
section
variable {X:Cx} {pins:List (Addr×Obj)} {σ:St} {H:Hp} {s:Shared}
end
def CXE (P:Program) (w:World):CXT:=λouter H s E e s'=>∃ (ea C:Addr) (a0:Value) (B:Heap) (H':Hp),e=.ref ea/\Heap.FlyingW B outer ea (.ref C) a0 s'.heap/\s'.os=s.os/\AllBare s'.gens/\Un (frs outer) [] H H' s.heap s'.heap/\HOk P w H' B /\
 (∀ b o,s.heap.get? b=some o->H b=none->b∉frs outer->B.get? b=some o)/\(∀ b o,s.heap.get? b=some o->b∉frs outer->∃ o',B.get? b=some o')/\E (.ref C) none H'
theorem vV {fs:List Addr} {H H1:Hp} {h h1 h' B:Heap} (u:Un fs [] H H1 h h1) (c1:∀ b o,h.get? b=some o->H b=none->b∉fs->B.get? b=some o) (c2:∀ b o,h.get? b=some o->b∉fs->∃ o',B.get? b=some o')
  (st:B.StaysIn h') (c3:∀ b o,h.get? b=some o->b∈fs->∃ sl,h'.get? b=some { o with slots:=sl }):Un fs [] H H1 h h' where
 keep:=λb o q n hb _=>st b o (c1 b o q n hb)
 slot:=λb o q n hb _=>c3 b o q hb
 free:=u.free
 there:=λb o q hx=>by
  by_cases hb:b∈fs
  ·obtain ⟨sl,e⟩:=c3 b o q hb;exact ⟨_,e⟩
  ·obtain ⟨o',e⟩:=c2 b o q hb;exact ⟨o',st b o' e⟩
 tups:=u.tups
 frzs:=u.frzs
 tbls:=u.tbls
section
variable {X:Cx} {pins:List (Addr×Obj)} {σ:St} {H:Hp} {s:Shared}
theorem vW {base h:Heap} {l:List Env} {b:Addr} (f:h.FunFrames base l) (hb:b∈frs l):∃ o,h.get? b=some o/\∀ vs,o.data≠.fields vs:=by
 obtain ⟨_,o,ho,hn⟩:=f.mem hb;exact ⟨o,ho,hn⟩
def BS (C:Addr) (E:XK) (t:TA):TS:=λ_ σ H=>t σ H λxs H1=>xs.length<=sizeLine/\E (.ref C) none H1
end
section
variable {X:Cx} {pins:List (Addr×Obj)} {σ:St} {H:Hp} {s:Shared}
end
section
variable {X:Cx} {a b c d:Expr} {ta tb tc td:TE} {pos:Pos}
end
section
variable {X:Cx}
end
theorem csR {X:Cx} {scope sc:Scope} {NL N N':List Str} {ρ:List Nat} (hsc:X.env.scope=sc) (hN:X.N=N) (h1:scope.kind=.function) (h2:(scope.names.all λx=>x.2 != .cell)=true) (h3:∀ x∈scope.names,x.2=.local->scope.names.lookup x.1=some .local)
  (h4:(scope.names.all λx=>x.2 != .free || sc.names.lookup x.1 == some .cell)=true) (h5:N'=NL++ρ.map λj=>N.getD j "")
  (h6:(ρ.all λj=>match N[j]? with | some x=>scope.names.lookup x == some .free && sc.names.lookup x == some .cell | none=>false)=true):CScope X scope NL ρ N':=by
 rw [aAP] at h2 h4 h6;refine ⟨h1,λx hx e=>?_,h3,λx hx e=>.inl ?_,by rw [hN];exact h5,λj hj=>?_⟩
 ·have:=h2 x hx;rw [e] at this;exact absurd this (by decide)
 ·have z:=h4 x hx;rw [e] at z;have z2:(sc.names.lookup x.1 == some NameKind.cell)=true:=by simpa using z
  show X.env.scope.names.lookup x.1=some .cell;rw [hsc];exact beq_iff_eq.mp z2
 ·have z:=h6 j hj
  cases q:N[j]? with
  | none=>rw [q] at z;cases z
  | some x =>
   rw [q] at z;simp only [aAB,beq_iff_eq] at z;exact ⟨x,by rw [hN];exact q,z.1,.inl (by rw [hsc];exact z.2)⟩
structure RoomH (k:Nat) (A:Around):Prop where
 dp:A.depth+3*k+5 < recursionLimit
 un:A.units+16*k+200 < cLine
structure FnOkH (P:Program) (w:World) (K:W.Frag) (mg:Str->Option Value) (base:Heap) (k:Nat) (f:Addr) (fd:FuncData) (ps:List Str) (sp:Sp):Prop where
 len:∀ vs H Q E,sp vs H Q E->vs.length=ps.length
 run:∀ (A:Around) (outer:List Env) (s:Shared) (H:Hp) (args:Args) (us:List Value) (vs:List V) (Q:VK) (E:XK),RoomH k A->Env0 P w K mg base A outer s H->BindsTo s fd args (ps.zip us)->Vals vs us->sp vs H Q E ->
  codeAny (model P w) A (.call (.ref f) args) (CR CX0 outer P w H s Q E) s
section
variable {X:Cx}
end
end L2
namespace HT
open PySem PySem.Spec PyProof.Rows
section
variable {prog:Program} {w:World} {A:Around} {E:Value->Shared->Prop} {s:Shared}
theorem cat_nil {t b:Addr} {ws:List Value} {Q:Value->Shared->Prop} (ht:IsTup s.heap t ([]:List Value).toArray) (hb:IsTup s.heap b ws.toArray) (h:Q (.ref b) s):wpAny (model prog w) A (binaryOp .Add (.ref t) (.ref b)) Q E s:=by
 obtain ⟨⟨cls,dd,data,sl⟩,ho,hc,n,hd⟩:=id ht;obtain ⟨⟨cls2,dd2,data2,sl2⟩,ho2,hc2,n2,hd2⟩:=id hb;simp only at hc hd hc2 hd2;subst hc hd hc2 hd2;exact concat_meets ⟨_,ho,rfl⟩ ⟨_,ho2,rfl⟩ noFill_tuple_add seq_tuple_add PySem.F.slot_tuple_add PySem.F.entry_tuple_add (PySem.F.args_tuple_add_2 _ _) (tuple_addW0 t b _ ws.toArray n n2 dd dd2 sl sl2 (1)) ⟨ho,ho2,h⟩
theorem getItem_tuple_all {t sl:Addr} {items:Array Value} {vl vu:Value} {lo hi:Option Int} {Q:Value->Shared->Prop} (ht:IsTup s.heap t items) (hs:s.heap.IsSliceOf sl vl vu .none) (pl:IsPart vl lo) (pu:IsPart vu hi)
  (h1:sIx items.size 0 lo=0) (h2:sIx items.size items.size hi=items.size) (h:Q (.ref t) s):wpAny (model prog w) A (getItem (.ref t) (.ref sl)) Q E s:=by
 obtain ⟨os,hos,hcs,hds⟩:=id hs;have hTs:s.TypeIs (.ref sl) "slice" :=⟨os,hos,hcs⟩;unfold getItem
 try with_reducible refine wpAny_holding ?_
 first | refine wpAny_bind (wpAny_pure ?_) | skip
 refine wpAny_bind (wpAny_sequenceKey ht.typeIs (by decide) ?_);refine wpAny_bind (wpAny_callSpecial?_slot (name:=Str.ofString "__getitem__") ht.typeIs PyProof.Rows.slot_tuple_getitem (wpAny_call_entry PyProof.Rows.slot_tuple_getitem ht.typeIs entry_tuple_getitem ?_ (args_tuple_getitem _ _)));show wpAny _ _ (Builtin.Tuple.tupleItemsOf (.ref t) >>= _) _ _ s;refine wpAny_bind (tupleItemsOf_ ht ?_);refine wpAny_bind (wpAny_typeOf hTs ?_);rw [if_pos (by decide)];refine wpAny_bind (eR hs pl pu ?_);have hyes:(((sIx items.size 0 lo:Nat):Int) == 0 && (1:Int) == 1 && (sIx items.size items.size hi - sIx items.size 0 lo) == items.size)=true:=by
  rw [h1,h2];simp
 show wpAny _ _ (if (((sIx items.size 0 lo:Nat):Int) == 0 && (1:Int) == 1 && (sIx items.size items.size hi - sIx items.size 0 lo) == items.size)=true then _ else _) _ _ s;rw [if_pos hyes];refine wpAny_bind (m:=Builtin.Tuple.tupleIsExact _) (wpAny_bind (wpAny_typeOf ht.typeIs ?_));refine wpAny_pure ?_;rw [if_pos (by decide)];exact wpAny_bind (wpAny_rule (wpAny_pure ⟨_,rfl,wpAny_pure h⟩))
end
end HT
namespace L2
open PySem PySem.Spec PyProof.Rows
section
variable {X:Cx}
theorem IsD.unref {K:W.Frag} {H:Hp} {l:List Dt} {v:V} (h:IsD K H (.tup l) v):∃ a xs,v=.ref a/\SqT K H a xs/\IsDs K H l xs:=by
 cases h with
 | tup h r=>exact ⟨_,_,rfl,h,r⟩
def uJ (l:List Dt) (lo hi:Option Int):List Dt:=(l.drop (HT.sIx l.length 0 lo)).take (HT.sIx l.length l.length hi - HT.sIx l.length 0 lo)
theorem xZ:IxR X (λx y H Q=>∃ l i d,IsD X.K H (.tup l) x/\y=.int i/\atI l i=some d/\∀ v,IsD X.K H d v->Q v H):=by
 intro value slice pins s σ H x y v u Q I rx ry h hs;obtain ⟨l,i,d,dx,rfl,ha,q⟩:=h;obtain ⟨a,xs,rfl,hx,ra⟩:=id dx.unref;obtain ⟨j,hj,hd,_⟩:=iN ha;have e1:=ra.length;obtain ⟨w',hw,dw⟩:=ra.get hd;have hat:atI xs i=some w':=by
  unfold atI at ha ⊢;rw [<- e1]
  cases z:ixN l.length i with
  | none=>rw [z] at ha;cases ha
  | some j' =>
   rw [z] at ha;have ha':l[j']?=some d:=ha;obtain ⟨w2,hw2,dw2⟩:=ra.get ha';have z2:=kM z;rw [hj] at z2;have:j=j':=Option.some.inj z2.1;subst this;exact hw
 exact vI value slice pins s σ H (.ref a) (.int i) v u Q I rx ry ⟨a,xs,i,w',rfl,rfl,hx,hat,q w' dw⟩ hs
theorem uK:bJ X (.builtin "len") (λxs H Q=>∃ x l,xs=[x]/\IsD X.K H (.tup l) x/\Q (.int l.length) H):=by
 intro pins s σ H xs us Q I r h;obtain ⟨x,l,rfl,dx,q⟩:=h;obtain ⟨a,ys,rfl,hx,ra⟩:=dx.unref;exact iO pins s σ H [.ref a] us Q I r ⟨a,ys,rfl,.inr hx,by rw [<- ra.length];exact q⟩
end
end L2
namespace PySem
open Sem (wp)
section
variable {M:Model} {A:Around} {E:Value->Shared->Prop} {s:Shared}
def Heap.MadeB (base:Heap) (l:List Env) (e:Addr) (cls a0:Value) (h:Heap):Prop :=
 base.StaysIn h/\base.get? e=none/\h.FunFrames base l/\∃ oe vs,h.get? e=some oe/\oe.cls=cls/\oe.data=.fields vs/\vs[0]?=some a0/\vs[1]?=some .none
theorem uL {base:Heap} {env:Env} {outer:List Env} {L e:Addr} {cls a0:Value} {Q:Unit->Shared->Prop} (hfr:A.frames=some (env :: outer)) (hf:env.frame=some L) (hm:Heap.MadeB base (env :: outer) e cls a0 s.heap)
  (h:∀ h',Heap.HeldW base (env :: outer) e cls a0 L h'->s.heap.UpToSlots h'->Q () { s with heap:=h' }):wpAny M A (noteFrame (.ref e) env) Q E s:=by
 obtain ⟨hkb,hen,hl,oe,vs,he,hc,hd,h0,h1⟩:=hm;subst hc;unfold noteFrame;simp only [hf];refine wpAny_bind (wpAny_field he hd h1 ?_);rw [if_neg (by decide)];refine wpAny_entryW hfr hl hf he hkb hen hd (aBH.mp h1).1 h0 λh' hN=>?_;obtain ⟨k1,k2,k3,k4⟩:=hN;exact h h' ⟨k1,hen,k2,k3⟩ k4
theorem rP {base:Heap} {env:Env} {outer:List Env} {L e:Addr} {cls a0:Value} {Q:Unit->Shared->Prop} (hfr:A.frames=some (env :: outer)) (hf:env.frame=some L) (hm:Heap.MadeB base (env :: outer) e cls a0 s.heap)
  (h:∀ h',Heap.FlyingW base outer e cls a0 h'->s.heap.UpToSlots h'->Q () { s with heap:=h' }):wpAny M A (leaving env (.ref e)) Q E s:=by
 obtain ⟨hkb,hen,hl,oe,vs,he,hc,hd,h0,h1⟩:=hm;subst hc;refine wpAny_leaving_firstW hfr hl hf he hkb hen hd h1 h0 λh' hL=>?_;obtain ⟨k1,⟨_,_,k2⟩,k3,k4⟩:=hL;exact h h' ⟨k1,hen,k2,k3⟩ k4
theorem uM {base:Heap} {l:List Env} {e L:Addr} {cls a0:Value} {env:Env} {E2:Value->Shared->Prop} (hf:env.frame=some L) (R:Heap.HeldW base l e cls a0 L s.heap) (h:∀ h',Heap.HeldW base l e cls a0 L h'->s.heap.UpToSlots h'->E2 (.ref e) { s with heap:=h' }) :
  cameBackBy M A env E2 (.ref e) s:=by
 obtain ⟨hkb,hen,hl,oe,vs,T,oT,ts,he,hcls,hd,h1,hnT,hTe,hT,hdT,h3⟩:=R;have hsz3:3 < ts.size:=(aBH.mp h3).1;have other:∀ b,b≠T->∀ f:Obj->Obj,(s.heap.update T f).get? b=s.heap.get? b:=λb hb f=>aBr _ _ (Ne.symm hb);have noRec:∀ b o,s.heap.get? b=some o->(∀ vs,o.data≠.fields vs)->b≠T:=λb o hb hnf q=>by
  rw [q,hT] at hb
  cases hb
  exact hnf ts hdT
 unfold cameBackBy;refine wpAny_bind (wpAny_field he hd h1 ?_);rw [if_neg (show ¬ ((Value.ref T == Value.none)=true) from by simp)];unfold setFlight;refine wpAny_bind (wpAny_field he hd h1 ?_);rw [if_pos (show (Value.ref T != Value.none)=true from by simp)];refine wpAny_setField hT hdT hsz3 (h _ ⟨λb o hbo=>(other b (λq=>by rw [q,hnT] at hbo;cases hbo) _).trans (hkb b o hbo),hen,
  hl.of_keeps λb o hb hnf=>⟨o,(other b (noRec b o hb hnf) _).trans hb,rfl⟩,?_⟩ λb o hb hnf=>⟨o.slots,(other b (noRec b o hb hnf) _).trans hb⟩)
 exact ⟨oe,vs,T,_,_,(other e (Ne.symm hTe) _).trans he,hcls,hd,h1,hnT,hTe,aBv _ hT (Obj.isFreed_of_fields (Obj.data_mapFields hdT _)),Obj.data_mapFields hdT _,by simp [hsz3,hf]⟩
end
end PySem
namespace L2
open PySem PySem.Spec PyProof.Rows
def jD (X:Cx) (E:XK):Value->Shared->Prop:=λe s'=>∃ (ea C:Addr) (a0:Value) (B:Heap) (H':Hp),e=.ref ea /\
 (Heap.FlyingW B (X.env :: X.outer) ea (.ref C) a0 s'.heap\/Heap.HeldW B (X.env :: X.outer) ea (.ref C) a0 X.env.locals s'.heap\/Heap.MadeB B (X.env :: X.outer) ea (.ref C) a0 s'.heap)/\s'.os=X.s₀.os/\AllBare s'.gens /\
 Un (frs X.outer) [] X.H₀ H' X.s₀.heap s'.heap/\HOk X.prog X.w H' B/\(∀ b o,X.s₀.heap.get? b=some o->X.H₀ b=none->b∉frs X.outer->B.get? b=some o) /\
 (∀ b o,X.s₀.heap.get? b=some o->b∉frs X.outer->∃ o',B.get? b=some o')/\E (.ref C) none H'
section
variable {X:Cx} {E:XK}
theorem kO {H':Hp} {B h h2:Heap} (frf:∀ b∈frs X.outer,X.H₀ b=none) (u:Un (frs X.outer) [] X.H₀ H' X.s₀.heap h) (F:h.FunFrames B (X.env :: X.outer)) (up:h.UpToSlots h2) (st:B.StaysIn h2)
  (c1:∀ b o,X.s₀.heap.get? b=some o->X.H₀ b=none->b∉frs X.outer->B.get? b=some o) (c2:∀ b o,X.s₀.heap.get? b=some o->b∉frs X.outer->∃ o',B.get? b=some o'):Un (frs X.outer) [] X.H₀ H' X.s₀.heap h2:=by
 refine vV u c1 c2 st λb o e hb=>?_;obtain ⟨sl,e1⟩:=u.slot b o e (frf b hb) hb (by simp);have mem:b∈frs (X.env :: X.outer):=by
  obtain ⟨env,he,hf⟩:=aAL.mp hb;exact aAL.mpr ⟨env,aAf _ he,hf⟩
 obtain ⟨o2,e2,nf⟩:=vW F mem;rw [e1] at e2;obtain rfl:=Option.some.inj e2;obtain ⟨sl2,e3⟩:=up b _ e1 nf;exact ⟨sl2,e3⟩
theorem gf {A:Around} (hA:A.frames=some (X.env :: X.outer)) (hfr:X.env.frame=some X.env.locals) (frf:∀ b∈frs X.outer,X.H₀ b=none):PassesOwn (model X.prog X.w) A X.env (jD X E):=by
 intro e s' h;obtain ⟨ea,C,a0,B,H',rfl,st,os,bare,un,hok,c1,c2,q⟩:=h;have fin:∀ {s2:Shared},s2.os=X.s₀.os->AllBare s2.gens->Un (frs X.outer) [] X.H₀ H' X.s₀.heap s2.heap->Heap.HeldW B (X.env :: X.outer) ea (.ref C) a0 X.env.locals s2.heap->cameBackBy (model X.prog X.w) A X.env (jD X E) (.ref ea) s2:=λ{s2} o2 b2 u2 hh =>
  uM hfr hh λh' hh' up=>⟨ea,C,a0,B,H',rfl,.inr (.inl hh'),o2,b2,kO frf u2 hh.2.2.1 up hh'.1 c1 c2,hok,c1,c2,q⟩
 rcases st with fl | hh | hm
 ·exact wpAny_looks_onW hA hfr fl λh' hh up=>fin (s2:={ s' with heap:=h' }) os bare (kO frf un fl.2.2.1 up hh.1 c1 c2) hh
 ·exact wpAny_noteFrame_againW hfr hh.2.2.2 (fin os bare un hh)
 ·exact uL hA hfr hm λh' hh up=>fin (s2:={ s' with heap:=h' }) os bare (kO frf un hm.2.2.1 up hh.1 c1 c2) hh
theorem qa {A:Around} (hA:A.frames=some (X.env :: X.outer)) (hfr:X.env.frame=some X.env.locals) (frf:∀ b∈frs X.outer,X.H₀ b=none) {e:Value} {s':Shared} (h:jD X E e s') :
  wpAny (model X.prog X.w) A (leaving X.env e) (λ_ s''=>CXE X.prog X.w X.outer X.H₀ X.s₀ E e s'') (λe' s''=>CXE X.prog X.w X.outer X.H₀ X.s₀ E e' s'') s':=by
 obtain ⟨ea,C,a0,B,H',rfl,st,os,bare,un,hok,c1,c2,q⟩:=h;have fin:∀ {h':Heap},s'.heap.FunFrames B (X.env :: X.outer)->Heap.FlyingW B X.outer ea (.ref C) a0 h'->s'.heap.UpToSlots h'->CXE X.prog X.w X.outer X.H₀ X.s₀ E (.ref ea) { s' with heap:=h' }:=λ{h'} F fl up =>
  ⟨ea,C,a0,B,H',rfl,fl,os,bare,kO frf un F up fl.1 c1 c2,hok,c1,c2,q⟩
 rcases st with fl | hh | hm
 ·exact wpAny_leaves_onW hA hfr fl λh' fl' up=>fin fl.2.2.1 fl' up
 ·unfold leaving;refine wpAny_bind (wpAny_noteFrame_againW hfr hh.2.2.2 ?_);refine wpAny_landsW hh λh' hfl up=>?_;obtain ⟨k1,k2,⟨_,_,k3⟩,k4⟩:=hfl;exact fin hh.2.2.1 ⟨k1,k2,k3,k4⟩ up
 ·exact rP hA hfr hm λh' fl' up=>fin hm.2.2.1 fl' up
variable {pins:List (Addr×Obj)} {σ:St} {H:Hp} {s:Shared}
theorem uN {C:Addr} {ea:Addr} {vs:List Value} {h':Heap} {tk:Nat} (hstk:X.stack=X.env :: X.outer) (hfr:X.env.frame=some X.env.locals) (hex:X.ex=[]) (I:Inv X pins σ H s) (hm:Heap.MadeExcOf s.heap h' ea (.ref C) vs)
  (q:E (.ref C) none H):jD X E (.ref ea) { s with heap:=h',toks:=tk }:=by
 have F0:s.heap.FunFrames X.base (X.env :: X.outer):=by rw [<- hstk];exact I.stack
 have mem:∀ b∈frs X.outer,b∈frs (X.env :: X.outer):=λb hb=>by
  obtain ⟨env,he,hf⟩:=aAL.mp hb;exact aAL.mpr ⟨env,aAf _ he,hf⟩
 have inv:∀ b,b∈frs (X.env :: X.outer)->b=X.env.locals\/b∈frs X.outer:=λb hb=>by
  obtain ⟨env,he,hf⟩:=aAL.mp hb;rcases aAn.mp he with rfl | he
  ·rw [hfr] at hf;exact .inl (Option.some.inj hf).symm
  ·exact .inr (aAL.mpr ⟨env,he,hf⟩)
 have hin:∀ env∈(X.env :: X.outer),∀ b,env.frame=some b->b∈frs (X.env :: X.outer):=λenv he b hb=>aAL.mpr ⟨env,he,hb⟩;have stayB:∀ b o,s.heap.get? b=some o->b∉frs (X.env :: X.outer)->(W.hideAll s.heap (frs (X.env :: X.outer))).get? b=some o:=λb o e n=>W.hideAll_get _ e n;have old:∀ b o,X.s₀.heap.get? b=some o->b∉frs X.outer->b∉frs (X.env :: X.outer):=λb o e n z=>by
  rcases inv b z with rfl | z
  ·exact absurd (aAk (aAu e) I.ok.above) (aAS _)
  ·exact n z
 have B0:Un X.fs [] X.H₀ H X.s₀.heap s.heap:=by have z:=I.base;rw [hex] at z;exact z
 have c1:∀ b o,X.s₀.heap.get? b=some o->X.H₀ b=none->b∉frs X.outer->(W.hideAll s.heap (frs (X.env :: X.outer))).get? b=some o:=λb o e n hb=>stayB b o (B0.keep b o e n hb (by simp)) (old b o e hb);have c2:∀ b o,X.s₀.heap.get? b=some o->b∉frs X.outer->∃ o',(W.hideAll s.heap (frs (X.env :: X.outer))).get? b=some o':=λb o e hb=>by
  obtain ⟨o',e'⟩:=B0.there b o e (by simp);exact ⟨o',stayB b o' e' (old b o e hb)⟩
 have FB:s.heap.FunFrames (W.hideAll s.heap (frs (X.env :: X.outer))) (X.env :: X.outer):=W.funFrames_hide F0 hin;obtain ⟨t,he,htn,ht⟩:=hm.there;have stays:(W.hideAll s.heap (frs (X.env :: X.outer))).StaysIn h':=λb o e=>hm.keeps b o (W.of_hideAll _ e);have hen:(W.hideAll s.heap (frs (X.env :: X.outer))).get? ea=none:=by
  cases z:(W.hideAll s.heap (frs (X.env :: X.outer))).get? ea with
  | none=>rfl
  | some o =>
   have z2:=W.of_hideAll _ z;rw [hm.new] at z2
   cases z2
 refine ⟨ea,C,.ref t,_,H,rfl,.inr (.inr ⟨stays,hen,FB.of_keeps λb o hb _=>⟨o,hm.keeps b o hb,rfl⟩,_,_,he,rfl,rfl,rfl,rfl⟩),I.os,I.bare,vV B0 c1 c2 stays λb o e hb=>?_,λb u e=>?_,c1,c2,q⟩
 ·obtain ⟨sl,e1⟩:=B0.slot b o e (I.ok.frf b hb) hb (by simp);exact ⟨sl,hm.keeps b _ e1⟩
 ·refine (I.hok b u e).stay (λc v hc z=>stayB c v z λhf=>?_) (λ_ z=>z) λ_ _ z=>z;have n0:H c=none:=by rw [<- hstk] at hf;exact I.stkFree c hf
  rcases hc with rfl | hc
  ·rw [e] at n0;cases n0
  ·rw [hc] at n0;cases n0
theorem ps_raiseW {x:Str} {C:Addr} {e:Expr} {es:List Expr} {t:TA} {np cpos pos:Pos} (hstk:X.stack=X.env :: X.outer) (hfr:X.env.frame=some X.env.locals) (hex:X.ex=[]) (hc:X.calm=true) (G:ExC X.K X.mg x C) (hg:Gl X x) (ha:PA (X.wish (jD X E)) (e :: es) t)
  (hdb:(x == ("__debug__" : Str))=false:=by decide) (he:starEach (e :: es) X.env=(false,eval e X.env) :: starEach es X.env:=by rfl) (hpl:(backTo cpos (starEach es X.env)).any (·.1)=false:=by rfl) :
  PS (X.wish (jD X E)) (.Raise (some (.Call (.Name x np) (e :: es) [] cpos)) none pos) (BS C E t):=by
 intro pins s σ H D I h;obtain ⟨bm,N,nm,qn,bs,hd,sn,sub,ab,col,dd,k0,k1,k2,k3,k5,mN,hC,hN,hni,T⟩:=xY (show X.K.In X.base from I.ok.mod.kin) G.q;refine wpAny_Raise_call_subT (C:=C) (nm:=nm) (q:=qn) (N:=N) (bs:=bs) (bm:=bm) (hdct:=hd) (sn:=sn) (sub:=sub) (ab:=ab) (col:=col) (dd:=dd) (k0:=k0) (k1:=k1) (k2:=k2) (k3:=k3) (k5:=k5) F.excBase_ValueError (mN:=mN) (T.hasType F.excBase_ValueError.hasBase) (I.ok.hd hc)
  (by show (backTo cpos (starEach (e :: es) X.env)).any (·.1)=false;rw [he];show (false || (backTo cpos (starEach es X.env)).any (·.1))=false;rw [hpl];rfl) hni (iI I hg G.m ⟨rfl,?_⟩ hdb)
 have z:=ha cpos pins s σ H _ I h;have he':starEach (e :: es) (X.wish (jD X E)).env=(false,eval e (X.wish (jD X E)).env) :: starEach es (X.wish (jD X E)).env:=he;rw [he'] at z ⊢;refine Calls.evalArgs_plain (wpAny_mono z (λus s2 ⟨vs,H2,I2,r,hz,q⟩=>?_) λ_ _ y=>y);refine ⟨rfl,by show us.length<=sizeLine;rw [<- r.length];exact hz,I2.bk _ _ hC,hN.keeps I2.bk,T.keeps I2.bk,λh' ea hm=>?_⟩;exact uN (tk:=s2.toks) hstk hfr hex (Inv.unwish I2) hm q
theorem wing_on (hstk:X.stack=X.env :: X.outer) (hfr:X.env.frame=some X.env.locals) (hex:X.ex=[]):gc (CXE X.prog X.w) (X.wish (jD X E)) E:=by
 intro pins σ H s e s' I' h;have I:Inv X pins σ H s:=Inv.unwish I';obtain ⟨ea,C,a0,B,H',rfl,fl,os,bare,un,hok,c1,c2,q⟩:=h;have hstk':(X.wish (jD X E)).stack=X.env :: X.outer:=hstk;rw [hstk'] at fl un c1 c2;have inv:∀ b,b∈frs (X.env :: X.outer)->b=X.env.locals\/b∈frs X.outer:=λb hb=>by
  obtain ⟨env,he,hf⟩:=aAL.mp hb;rcases aAn.mp he with rfl | he
  ·rw [hfr] at hf;exact .inl (Option.some.inj hf).symm
  ·exact .inr (aAL.mpr ⟨env,he,hf⟩)
 have mem:∀ b∈frs X.outer,b∈frs (X.env :: X.outer):=λb hb=>by
  obtain ⟨env,he,hf⟩:=aAL.mp hb;exact aAL.mpr ⟨env,aAf _ he,hf⟩
 have old:∀ b o,X.s₀.heap.get? b=some o->b∉frs X.outer->b∉frs (X.env :: X.outer):=λb o e n z=>by
  rcases inv b z with rfl | z
  ·exact absurd (aAk (aAu e) I.ok.above) (aAS _)
  ·exact n z
 have B0:Un X.fs [] X.H₀ H X.s₀.heap s.heap:=by have z:=I.base;rw [hex] at z;exact z
 have d1:∀ b o,X.s₀.heap.get? b=some o->X.H₀ b=none->b∉frs X.outer->B.get? b=some o:=λb o e n hb=>c1 b o (B0.keep b o e n hb (by simp)) (B0.free b o e n (by simp)) (old b o e hb);have d2:∀ b o,X.s₀.heap.get? b=some o->b∉frs X.outer->∃ o',B.get? b=some o':=λb o e hb=>by
  obtain ⟨o',e'⟩:=B0.there b o e (by simp);exact c2 b o' e' (old b o e hb)
 refine ⟨ea,C,a0,B,H',rfl,.inl fl,os.trans I.os,bare,?_,hok,d1,d2,q⟩;refine ⟨λb o e n hb _=>?_,λb o e n hb _=>?_,λb o e n _=>?_,λb o e _=>?_,λb xs e=>un.tups b xs (B0.tups b xs e),λb o u e=>un.frzs b o u (B0.frzs b o u e),λb ps e=>?_⟩
 ·exact un.keep b o (B0.keep b o e n hb (by simp)) (B0.free b o e n (by simp)) (old b o e hb) (by simp)
 ·obtain ⟨sl,e1⟩:=B0.slot b o e n hb (by simp);obtain ⟨sl2,e2⟩:=un.slot b _ e1 (B0.free b o e n (by simp)) (mem b hb) (by simp);exact ⟨sl2,e2⟩
 ·obtain ⟨o',e'⟩:=B0.there b o e (by simp);exact un.free b o' e' (B0.free b o e n (by simp)) (by simp)
 ·obtain ⟨o',e'⟩:=B0.there b o e (by simp);exact un.there b o' e' (by simp)
 ·obtain ⟨m1,e1⟩:=B0.tbls b ps e;obtain ⟨m2,e2⟩:=un.tbls b _ e1;exact ⟨m1++m2,by rw [e2,aBD]⟩
end
theorem PSs.wing {X:Cx} {E:XK} {st:List Stmt} {t:TS} (hstk:X.stack=X.env :: X.outer) (hfr:X.env.frame=some X.env.locals) (hxe:X.xe=λe s'=>wpAny (model X.prog X.w) X.A (leaving X.env e) (λ_ s''=>CXE X.prog X.w X.outer X.H₀ X.s₀ E e s'') (λe' s''=>CXE X.prog X.w X.outer X.H₀ X.s₀ E e' s'') s')
  (h:PSs (X.wish (jD X E)) st t):PSs X st t:=λpins s σ H D I hw =>
 wpAny_mono (h pins s σ H D (I.wish _) hw) (λ_ _ q=>q.unwish) λe s' z=>by
  rw [hxe];exact qa (by rw [I.ok.frames,hstk]) hfr I.ok.frf z
theorem Fun.okW {P:Program} {w:World} {K:W.Frag} {mg:Str->Option Value} {base:Heap} {x qual:Str} {st:Stmt} {f:Addr} {fd:FuncData} {N ps:List Str} {k:Nat} {sp:Sp} (F:Fun K x qual st f fd) (S:FnScope N ps (ae st)) (len:∀ vs H Q E,sp vs H Q E->vs.length=ps.length)
  (hbody:∀ (cdv:Value) (A:Around) (outer:List Env) (s:Shared) (H:Hp) (vs:List V) (Q:VK) (E:XK),Room k (A.deeper (envOfC qual (ae st) s.heap.objs.size f cdv))->sp vs H Q E ->
   ∃ t,PSs ((pS (CXE P w) P w K mg base N qual (ae st) f cdv A outer s H E).wish (jD (pS (CXE P w) P w K mg base N qual (ae st) f cdv A outer s H E) E)) (bN st) t/\t { nx:=λ_ H'=>Q .non H',rt:=Q } (iM N vs) H):FnOk P w K mg base (CXE P w) (k+1) f fd ps sp:=by
 obtain ⟨oc,od,kV,doc,pm,an,cdv,ct,osl,rfl,lk,hcd⟩:=F.ex;refine yM lk hcd S len λA outer s H vs Q E hr hsp=>?_;obtain ⟨t,h,q⟩:=hbody cdv A outer s H vs Q E hr hsp;exact ⟨t,PSs.wing rfl rfl rfl h,q⟩
section
variable {κ:Type} [DecidableEq κ]
def hV (kvs:List (κ×V)) (k:κ):Option V:=(kvs.find? λkv=>decide (kv.1=k)).map (·.2)
def kx (kvs:List (κ×V)) (k:κ) (v:V):List (κ×V) :=
 if (kvs.any λkv=>decide (kv.1=k))=true then kvs.map (λkv=>if kv.1=k then (kv.1,v) else kv) else kvs++[(k,v)]
theorem qb {p:κ×V} {r:List (κ×V)} {k:κ} (e:p.1=k):hV (p :: r) k=some p.2:=by simp [hV,aA5,e]
theorem qc {p:κ×V} {r:List (κ×V)} {k:κ} (e:¬ p.1=k):hV (p :: r) k=hV r k:=by simp [hV,aA5,e]
theorem qe (kvs:List (κ×V)) (k:κ) (v:V):(kx kvs k v).length<=kvs.length+1:=by
 unfold kx
 split
 ·rw [aAa];lia
 ·rw [aAc,aAb,aAl];lia
theorem KV.val {kvs:List (κ×V)} {vs:List (κ×Value)} (r:KV kvs vs) (k:κ):RelO (hV kvs k) (valueAt vs k):=by
 unfold KV at r
 induction r with
 | nil=>exact True.intro
 | @cons p q ps qs h t ih =>
  obtain ⟨h1,h2⟩:=h
  by_cases e:p.1=k
  ·have e':q.1=k:=h1.symm.trans e;have b:valueAt (q :: qs) k=some q.2:=by simp [valueAt,aA5,e']
   rw [qb e,b];exact h2
  ·have e':¬ q.1=k:=λz=>e (h1.trans z);have b:valueAt (q :: qs) k=valueAt qs k:=by simp [valueAt,aA5,e']
   rw [qc e,b];exact ih
theorem KV.any {kvs:List (κ×V)} {vs:List (κ×Value)} (r:KV kvs vs) (k:κ):(kvs.any λkv=>decide (kv.1=k))=vs.any λkv=>decide (kv.1=k):=by
 unfold KV at r
 induction r with
 | nil=>rfl
 | cons h t ih=>rw [aBn,aBn,ih,h.1]
theorem KV.repl {kvs:List (κ×V)} {vs:List (κ×Value)} (r:KV kvs vs) (k:κ) {y:V} {u:Value} (ry:RelV y u) :
  KV (kvs.map λkv=>if kv.1=k then (kv.1,y) else kv) (vs.map λkv=>if kv.1=k then (kv.1,u) else kv):=by
 unfold KV at r ⊢
 induction r with
 | nil=>exact .nil
 | @cons p q ps qs h t ih =>
  rw [aAq,aAq];refine .cons ?_ ih;obtain ⟨h1,h2⟩:=h
  by_cases e:p.1=k
  ·rw [if_pos e,if_pos (h1.symm.trans e)];exact ⟨h1,ry⟩
  ·rw [if_neg e,if_neg (λz=>e (h1.trans z))];exact ⟨h1,h2⟩
theorem KV.put {kvs:List (κ×V)} {vs:List (κ×Value)} (r:KV kvs vs) (k:κ) {y:V} {u:Value} (ry:RelV y u):KV (kx kvs k y) (stored vs k u):=by
 unfold kx stored;rw [r.any k]
 by_cases e:(vs.any λkv=>decide (kv.1=k))=true
 ·rw [if_pos e,if_pos e];exact r.repl k ry
 ·rw [if_neg e,if_neg e];exact Paired.snoc r ⟨rfl,ry⟩
theorem KV.length {kvs:List (κ×V)} {vs:List (κ×Value)} (r:KV kvs vs):kvs.length=vs.length:=Paired.length r
end
theorem sU {P:Program} {w:World} {k:Key} {u:Value} (r:RelV (kV k) u):(a8 P w).is k u=true:=by
 cases k with
 | inl i=>obtain ⟨t,e⟩:=(show ∃ t,u=Value.int i t from r);subst e;exact pN P w i t
 | inr x=>obtain ⟨t,e⟩:=(show ∃ t,u=Value.str x t from r);subst e;exact pO P w x t
theorem jE {P:Program} {w:World}:∀ {ks:List Key} {us:List Value},Vals (ks.map kV) us->ItemsAre (a8 P w) ks us
 | [],_,r=>by rw [aA3] at r;cases r;exact .nil
 | k :: ks,_,r=>by
  rw [aAq] at r
  cases r with
  | cons h t=>exact .cons (sU h) (jE t)
abbrev KT (H:Hp):List (List Key×V)->List (List Key×Addr×Value)->Prop:=Paired λp q=>p.1=q.1/\H q.2.1=some (.tup (p.1.map kV))/\RelV p.2 q.2.2
theorem KT.val {H:Hp} {kvs:List (List Key×V)} {xs:List (List Key×Addr×Value)} (r:KT H kvs xs) (k:List Key):RelO (hV kvs k) ((atKey xs k).map (·.2)):=by
 induction r with
 | nil=>exact True.intro
 | @cons p q ps qs h t ih =>
  obtain ⟨h1,_,h2⟩:=h
  by_cases e:p.1=k
  ·have e':q.1=k:=h1.symm.trans e;have b:atKey (q :: qs) k=some q.2:=by simp [atKey,aA5,e']
   rw [qb e,b];exact h2
  ·have e':¬ q.1=k:=λz=>e (h1.trans z);have b:atKey (q :: qs) k=atKey qs k:=by simp [atKey,aA5,e']
   rw [qc e,b];exact ih
theorem KT.keeps {H H':Hp} {kvs:List (List Key×V)} {xs:List (List Key×Addr×Value)} (r:KT H kvs xs) (ht:∀ b ys,H b=some (.tup ys)->H' b=some (.tup ys)):KT H' kvs xs :=
 Paired.mapP r λ_ _ z=>⟨z.1,ht _ _ z.2.1,z.2.2⟩
section
variable {P:Program} {w:World} {H:Hp} {h:Heap} {a:Addr}
theorem yO {u:HO} (ok:HOk P w H h) (e:Rd H a u):ObjOk P w H h a u:=e.ok ok
theorem vX {kvs:List (Key×V)} (ok:HOk P w H h) (e:Rd H a (.dK kvs)):kvs.length<=sizeLine/\(a == sysModules)=false/\∃ vs,KV kvs vs/\h.DictOf (a8 P w) a vs :=
 show ObjOk P w H h a (.dK kvs) from yO ok e
theorem Ij {kvs:List (Key×V)} (ok:HOk P w H h) (e:H a=some (.dK kvs)):kvs.length<=sizeLine/\(a == sysModules)=false/\∃ vs,KV kvs vs/\h.DictOf (a8 P w) a vs:=vX ok (.inl e)
theorem vY {ks:List Key} (ok:HOk P w H h) (e:H a=some (.tup (ks.map kV))):(tupleKind (a8 P w)).is h ks a:=by
 obtain ⟨_,its,r,o,h1,h2,n,h3⟩:=(show ObjOk P w H h a (.tup (ks.map kV)) from ok a _ e);exact ⟨o,its.toArray,n,h1,h2,h3,by simpa using jE r⟩
theorem yP {kvs:List (List Key×V)} (ok:HOk P w H h) (e:Rd H a (.dT kvs)):kvs.length<=sizeLine/\(a == sysModules)=false /\
  ∃ xs,KT H kvs xs/\h.DictOfH (tupleKind (a8 P w)) a xs:=by
 obtain ⟨z,y,xs,r,o,es,ep,h1,h2,h3,h4,h5⟩:=(show ObjOk P w H h a (.dT kvs) from yO ok e);refine ⟨z,y,xs,r,o,es,ep,h1,h2,h3,h4,λx hx=>?_,h5⟩;have all:∀ {l:List (List Key×V)} {m:List (List Key×Addr×Value)},KT H l m->∀ x∈m,(tupleKind (a8 P w)).is h x.1 x.2.1:=by
  intro l m q
  induction q with
  | nil=>intro x hx;exact nomatch hx
  | @cons p q ps qs hq t ih =>
   intro x hx;rcases aAn.mp hx with e | hx
   ·subst e;exact vY ok (by rw [<- hq.1];exact hq.2.1)
   ·exact ih x hx
 exact all r x hx
end
def DGet (H:Hp) (a:Addr) (y:V) (r:Option V):Prop :=
 (∃ kvs k,Rd H a (.dK kvs)/\y=kV k/\r=hV kvs k)\/∃ kvs k b,Rd H a (.dT kvs)/\y=.ref b/\H b=some (.tup (k.map kV))/\r=hV kvs k
def DPut (H:Hp) (a:Addr) (y v:V) (H':Hp):Prop :=
 (∃ kvs k,H a=some (.dK kvs)/\y=kV k/\kvs.length < sizeLine/\H'=upd H a (.dK (kx kvs k v))) \/
 ∃ kvs k b,H a=some (.dT kvs)/\y=.ref b/\H b=some (.tup (k.map kV))/\kvs.length < sizeLine/\H'=upd H a (.dT (kx kvs k v))
theorem DGet.k {H:Hp} {a:Addr} {kvs:List (Key×V)} {k:Key} (e:H a=some (.dK kvs)):DGet H a (kV k) (hV kvs k):=.inl ⟨kvs,k,.inl e,rfl,rfl⟩
theorem DGet.t {H:Hp} {a b:Addr} {kvs:List (List Key×V)} {k:List Key} (e:H a=some (.dT kvs)) (eb:H b=some (.tup (k.map kV))):DGet H a (.ref b) (hV kvs k):=.inr ⟨kvs,k,b,.inl e,rfl,eb,rfl⟩
theorem DPut.k {H:Hp} {a:Addr} {kvs:List (Key×V)} {k:Key} {v:V} (e:H a=some (.dK kvs)) (hl:kvs.length < sizeLine):DPut H a (kV k) v (upd H a (.dK (kx kvs k v))):=.inl ⟨kvs,k,e,rfl,hl,rfl⟩
theorem DPut.t {H:Hp} {a b:Addr} {kvs:List (List Key×V)} {k:List Key} {v:V} (e:H a=some (.dT kvs)) (eb:H b=some (.tup (k.map kV))) (hl:kvs.length < sizeLine) :
  DPut H a (.ref b) v (upd H a (.dT (kx kvs k v))):=.inr ⟨kvs,k,b,e,rfl,eb,hl,rfl⟩
section
variable {X:Cx} {pins:List (Addr×Obj)} {σ:St} {H:Hp} {s:Shared} {a:Addr} {y v:V} {u r:Value} {o:Option V} {A:Around} {E:Value->Shared->Prop}
theorem Inv.big (I:Inv X pins σ H s):sysModules < s.heap.objs.size:=by
 have h:mainGlobals < s.heap.objs.size:=(I.mod.glob.keeps I.bk).lt;exact aBO (by decide) h
theorem uO {Q:Value->Shared->Prop} (hu:A.units+1 < cLine) (I:Inv X pins σ H s) (g:DGet H a y (some v)) (ry:RelV y u) (h:∀ w' s',Inv X pins σ H s'->RelV v w'->Q w' s') :
  wpAny (model X.prog X.w) A (getItem (.ref a) u) Q E s:=by
 rcases g with ⟨kvs,k,e,ey,l⟩ | ⟨kvs,k,b,e,ey,eb,l⟩
 ·subst ey;obtain ⟨z,hd,vs,rel,dd⟩:=vX I.hok e;obtain ⟨w',hw,rw'⟩:=RelO.some_of (v:=v) (o:=valueAt vs k) (by rw [l];exact rel.val k);exact wpAny_getItem_of (sU ry) dd.mapOf hw (h w' _ (I.tok _) rw')
 ·subst ey
  cases (show u=Value.ref b from ry)
  obtain ⟨z,hd,xs,rel,dd⟩:=yP I.hok e;obtain ⟨w',hw,rw'⟩:=RelO.some_of (v:=v) (o:=(atKey xs k).map (·.2)) (by rw [l];exact rel.val k);obtain ⟨p,hp,hp2⟩:=aAi.mp hw;refine wpAny_getItem_heap (tupleKind_room_in1 hu) (vY I.hok eb) dd hp ?_;rw [hp2];exact h w' _ (I.tok _) rw'
theorem x6 {h':Heap} {t':Nat} {ob:HO} (I:Inv X pins σ H s) (mu:Mut (H a)) (hs:Heap.SameBut a s.heap h') (he:∃ q,h'.get? a=some q) (new:ObjOk X.prog X.w (upd H a ob) h' a ob) :
  Inv X pins σ (upd H a ob) { s with heap:=h',toks:=t' } :=
 I.write (x:=a) (e:=a) mu (.inl rfl) (λb q hb z=>(hs.2 b hb).trans z) he new
theorem BU {P:Program} {w:World} {H':Hp} {h':Heap} {kvs:List (Key×V)} {vs:List (Key×Value)} (z:kvs.length<=sizeLine) (hd:(a == sysModules)=false) (rel:KV kvs vs) (dd:h'.DictOf (a8 P w) a vs) :
  ObjOk P w H' h' a (.dK kvs):=⟨z,hd,vs,rel,dd⟩
end
section
variable {X:Cx} {pins:List (Addr×Obj)} {σ:St} {H:Hp} {s:Shared} {a:Addr} {kvs:List (Key×V)} {k:Key} {u:Value} {A:Around} {E:Value->Shared->Prop}
end
def BV (i:Expr):Prop:=∀ ov iv,subscripted i false ov iv=operate [ov,iv] (getItem ov iv)
theorem sV {prog:Program} {w:World} {A:Around} {E:Value->Shared->Prop} {s:Shared} {env:Env} {value slice:Expr} {pos:Pos} {T id:String} {Q:Value->Shared->Prop}
  (hl:typeLookup (.type T) "__getitem__" = pure (some (.builtin id))) (hs:BV slice)
  (h:wpAny (model prog w) A (eval value env) (λo s₁=>wpAny (model prog w) A (eval slice env) (λi s₂=>s₂.TypeIs o T/\wpAny (model prog w) A (getItem o i) Q E s₂) E s₁) E s) :
  wpAny (model prog w) A (eval (.Subscript value slice pos) env) Q E s:=by
 refine Subscript_ (wpAny_mono h (λo s₁ h₁=>wpAny_mono h₁ (λi s₂ h₂=>?_) λ_ _ x=>x) λ_ _ x=>x);obtain ⟨hT,h₂⟩:=h₂;unfold subscriptTail;refine wpAny_bind ?_;rw [getitemInPython_of_ne hT.not_modules];refine wpAny_bind (wpAny_specialOf hT hl ?_);have fin:wpAny (model prog w) A (subscripted slice false o i) (λr s₃=>wpAny (model prog w) A (letTemporaryGo value o r >>= λ_=>pure r) Q E s₃) E s₂:=by
  rw [hs o i];exact wpAny_operating (wpAny_mono h₂ (λr s₃ h₃=>wpAny_bind (wpAny_letTemporaryGo (wpAny_pure h₃))) λ_ _ x=>x)
 first
  | exact wpAny_pure (wpAny_bind fin)
  | exact wpAny_bind (wpAny_pure (wpAny_bind fin))
  | exact wpAny_bind fin
theorem qf {X:Cx} {pins:List (Addr×Obj)} {σ:St} {H:Hp} {s:Shared} {a:Addr} {y:V} {o:Option V} (I:Inv X pins σ H s) (g:DGet H a y o):s.TypeIs (.ref a) "dict" :=by
 rcases g with ⟨kvs,k,e,_,_⟩ | ⟨kvs,k,b,e,_,_,_⟩
 ·obtain ⟨_,_,vs,_,dd⟩:=vX I.hok e;exact dd.typeIs
 ·obtain ⟨_,_,xs,_,dd⟩:=yP I.hok e;exact dd.typeIs
def Ik (td ty:TE):TE:=λσ H Q=>td σ H λx H1=>ty σ H1 λy H2=>∃ a v,x=.ref a/\DGet H2 a y (some v)/\Q v H2
section
variable {X:Cx} {o i e value:Expr} {pos pos' tpos:Pos} {td ty tv:TE}
theorem x8 (hu:X.A.units+1 < cLine) (ho:PE X o td) (hi:PE X i ty) (hs:BV i):PE X (.Subscript o i pos) (Ik td ty):=by
 intro pins s σ H Q I h;refine sV PySem.F.slot_dict_getitem.lookup hs (thn (ho pins s σ H _ I h) λu s1 ⟨x,H1,I1,rx,q1⟩=>thn (hi pins s1 σ H1 _ I1 q1) λiv s2 ⟨y,H2,I2,ry,a,v,ex,g,q2⟩=>?_);subst ex;obtain rfl:u=Value.ref a:=rx;exact ⟨qf I2 g,uO hu I2 g ry λw' s3 I3 rw'=>⟨v,H2,I3,rw',q2⟩⟩
end
theorem vZ {P:Program} {w:World} {H:Hp} (h:Heap) (hb:sysModules < h.objs.size):ObjOk P w H (h.push { cls:=.type "dict",data:=.dict #[] }) h.objs.size (.dK []) :=
 ⟨aAE _,beq_eq_false_iff_ne.mpr (Ne.symm (aAI hb)),[],.nil,Heap.DictOf.new h⟩
section
variable {X:Cx} {pos:Pos}
end
def rQ:List (TE×TE)->St->Hp->(List (V×V)->Hp->Prop)->Prop
 | [],_,H,Q=>Q [] H
 | (tk,tv) :: r,σ,H,Q=>tk σ H λx H1=>tv σ H1 λy H2=>rQ r σ H2 λps H3=>Q ((x,y) :: ps) H3
abbrev VV:List (V×V)->List (Value×Value)->Prop:=Paired λp q=>RelV p.1 q.1/\RelV p.2 q.2
def PPs (X:Cx) (pos:Pos) (keys:List (Option Expr)) (values:List Expr) (trs:List (TE×TE)):Prop :=
 ∀ (pins:List (Addr×Obj)) (s:Shared) (σ:St) (H:Hp) (Q:List (V×V)->Hp->Prop),Inv X pins σ H s->rQ trs σ H Q ->
  wpAny (model X.prog X.w) X.A (evalPairs (pairTrees keys values X.env pos)) (λvs s'=>∃ ps H',Inv X pins σ H' s'/\VV ps vs/\Q ps H') X.xe s
theorem x9 {X:Cx} {pos:Pos}:PPs X pos [] [] []:=λpins s σ H Q I h=>pairTrees_nil_walk ⟨[],H,I,.nil,h⟩
theorem lm {X:Cx} {pos:Pos} {k v:Expr} {ks:List (Option Expr)} {vs:List Expr} {tk tv:TE} {trs:List (TE×TE)} (hk:PE X k tk) (hv:PE X v tv) (hr:PPs X pos ks vs trs) :
  PPs X pos (some k :: ks) (v :: vs) ((tk,tv) :: trs):=λpins s σ H Q I h =>
 pairTrees_cons_walk (thn (hk pins s σ H _ I h) λu s1 ⟨x,H1,I1,rx,q1⟩=>thn (hv pins s1 σ H1 _ I1 q1) λw2 s2 ⟨y,H2,I2,ry,q2⟩ =>
  thn (hr pins s2 σ H2 _ I2 q2) λws s3 ⟨ps,H3,I3,rel,q3⟩=>⟨(x,y) :: ps,H3,I3,.cons ⟨rx,ry⟩ rel,q3⟩)
def dP (kvs more:List (Key×V)):List (Key×V):=more.foldl (λacc kv=>kx acc kv.1 kv.2) kvs
theorem KV.merge:∀ {more:List (Key×V)} {rs:List (Key×Value)} {kvs:List (Key×V)} {vs:List (Key×Value)},KV more rs->KV kvs vs->KV (dP kvs more) (merged vs rs):=by
 intro more rs kvs vs r;unfold KV at r
 induction r generalizing kvs vs with
 | nil=>intro q;exact q
 | @cons p q ps qs h t ih =>
  intro r0;have e:KV (kx kvs p.1 p.2) (stored vs q.1 q.2):=by
   have:=r0.put p.1 h.2;rw [<- h.1];exact this
  exact ih e
theorem h9:∀ (more kvs:List (Key×V)),(dP kvs more).length<=kvs.length+more.length
 | [],kvs=>by show kvs.length<=kvs.length+0;lia
 | p :: r,kvs=>by
  have h1:=h9 r (kx kvs p.1 p.2);have h2:=qe kvs p.1 p.2;show (dP (kx kvs p.1 p.2) r).length<=_;rw [aAb];lia
theorem lp {P:Program} {w:World}:∀ {kvs:List (Key×V)} {ws:List (Value×Value)},VV (kvs.map λkv=>(kV kv.1,kv.2)) ws->∃ rs,Carries (a8 P w) ws rs/\KV kvs rs
 | [],_,r=>by rw [aA3] at r;cases r;exact ⟨[],True.intro,.nil⟩
 | p :: kvs,_,r=>by
  rw [aAq] at r
  cases r with
  | @cons a b as bs h t =>
   obtain ⟨rs,c,q⟩:=lp (P:=P) (w:=w) t;obtain ⟨b1,b2⟩:=b;exact ⟨(p.1,b2) :: rs,⟨sU h.1,rfl,c⟩,.cons ⟨rfl,h.2⟩ q⟩
def Il (trs:List (TE×TE)):TE:=λσ H Q=>∀ p,H p=none->rQ trs σ (upd H p (.dK [])) λps H2=>H2 p=some (.dK [])/\∃ kvs:List (Key×V),ps=kvs.map (λkv=>(kV kv.1,kv.2))/\kvs.length<=15/\Q (.ref p) (upd H2 p (.dK (dP [] kvs)))
theorem ya {X:Cx} {pos:Pos} {keys:List (Option Expr)} {values:List Expr} {trs:List (TE×TE)} (h:PPs X pos keys values trs) (hall:keys.all (·.isSome)=true) (hl:keys.length=values.length) (h0:keys≠[])
  (h15:keys.length<=15):PE X (.Dict keys values pos) (Il trs):=by
 intro pins s σ H Q I q;have hn:=I.hok.fresh (aAo s.heap.objs.size);have I1:=I.laid (a:=s.heap.objs.size) (o:=.dK []) (h':=s.heap.push { cls:=.type "dict",data:=.dict #[] }) (t':=s.toks) (λ_ _ q=>aAe _ q) (aAo _) (vZ s.heap I.big);refine wpAny_Dict_walk (knd:=a8 X.prog X.w) hall hl h0 h15 (thn (h pins _ σ _ _ I1 (q _ hn)) λws s2 ⟨ps,H2,I2,rel,e,kvs,ep,lk,q2⟩=>?_);subst ep;obtain ⟨rs,c,rk⟩:=lp (P:=X.prog) (w:=X.w) rel;obtain ⟨z,hd,vs0,r0,dd⟩:=Ij I2.hok e
 cases r0
 refine ⟨rs,c,dd,λh' dd' hs=>⟨.ref s.heap.objs.size,_,?_,rfl,q2⟩⟩;have hz:(dP [] kvs).length<=sizeLine:=by
  have h1:=h9 kvs [];rw [aAl] at h1;rw [sizeLine_eq];lia
 have he:∃ q,h'.get? s.heap.objs.size=some q:=let ⟨q,_,_,hq,_⟩:=dd';⟨q,hq⟩;exact x6 I2 (by rw [e];exact True.intro) hs he (BU hz hd (rk.merge .nil) dd')
section
variable {X:Cx} {pins:List (Addr×Obj)} {σ:St} {H:Hp} {s:Shared} {a:Addr} {y d:V} {u r:Value} {o:Option V} {A:Around} {E:Value->Shared->Prop}
end
section
variable {X:Cx} {o e f:Expr} {apos cpos:Pos} {td ty tx:TE}
end
section
variable {X:Cx} {pins:List (Addr×Obj)} {σ:St} {H:Hp} {s:Shared} {a:Addr} {kvs:List (Key×V)} {A:Around} {E:Value->Shared->Prop}
end
section
variable {X:Cx} {pins:List (Addr×Obj)} {σ:St} {H:Hp} {s:Shared} {a:Addr} {y:V} {u:Value} {A:Around} {E:Value->Shared->Prop}
end
end L2
namespace PySem
open Sem (wp)
namespace F
end F
end PySem
namespace PySem
open Sem (wp)
section
variable {prog:Program} {w:World} {K:Type} [DecidableEq K] {knd:KeyKind prog w K} {A:Around} {E:Value->Shared->Prop}
def Heap.PairItems (h:Heap) (knd:KeyKind prog w K) (items:Array Value) (kvs:List (K×Value)):Prop :=
 items.size=kvs.length/\∀ (i:Nat) (kv:K×Value),kvs[i]?=some kv->∃ (a:Addr) (key:Value),items[i]?=some (.ref a)/\h.IsTuple a #[key,kv.2]/\knd.is kv.1 key=true
theorem Heap.PairItems.stay {h h':Heap} {items:Array Value} {kvs:List (K×Value)} (x:h.PairItems knd items kvs) (k:∀ (i:Nat) (a:Addr) (o:Obj),items[i]?=some (.ref a)->h.get? a=some o->h'.get? a=some o):h'.PairItems knd items kvs :=
 ⟨x.1,λi kv e=>by
  obtain ⟨a,key,e1,⟨o,e2,r⟩,e3⟩:=x.2 i kv e;exact ⟨a,key,e1,⟨o,k i a o e1 e2,r⟩,e3⟩⟩
end
end PySem
namespace L2
open PySem PySem.Spec PyProof.Rows
def Pl (H:Hp) (a:Addr):Prop:=∃ o u,H a=some (.frz o u)/\o.dict=none
mutual
inductive IsP (K:W.Frag) (H:Hp):Dt->V->Prop
 | non:IsP K H .non .non
 | bl {b}:IsP K H (.bl b) (.bl b)
 | int {i}:IsP K H (.int i) (.int i)
 | str {z}:IsP K H (.str z) (.str z)
 | tup {l:List Dt} {a:Addr} {xs:List V}:SqT K H a xs->Pl H a->IsPs K H l xs->IsP K H (.tup l) (.ref a)
inductive IsPs (K:W.Frag) (H:Hp):List Dt->List V->Prop
 | nil:IsPs K H [] []
 | cons {d:Dt} {l:List Dt} {x:V} {xs:List V}:IsP K H d x->IsPs K H l xs->IsPs K H (d :: l) (x :: xs)
end
section
variable {K:W.Frag} {H H':Hp}
mutual
theorem IsP.d:∀ {d:Dt} {v:V},IsP K H d v->IsD K H d v
 | _,_,.non=>.non
 | _,_,.bl=>.bl
 | _,_,.int=>.int
 | _,_,.str=>.str
 | _,_,.tup h _ r=>.tup h (IsPs.d r)
theorem IsPs.d:∀ {l:List Dt} {xs:List V},IsPs K H l xs->IsDs K H l xs
 | _,_,.nil=>.nil
 | _,_,.cons h r=>.cons (IsP.d h) (IsPs.d r)
end
theorem Pl.same {a:Addr} (g:Same H H') (h:Pl H a):Pl H' a:=by
 obtain ⟨o,u,e,d⟩:=h;exact ⟨o,u,g _ _ e,d⟩
theorem Pl.but {a r:Addr} {ys:List V} (hr:H r=some (.lst ys)) (g:But r H H') (h:Pl H a):Pl H' a:=by
 obtain ⟨o,u,e,d⟩:=h;exact ⟨o,u,g _ _ (mV e hr (by intro z;cases z)) e,d⟩
mutual
theorem IsP.same (g:Same H H'):∀ {d:Dt} {v:V},IsP K H d v->IsP K H' d v
 | _,_,.non=>.non
 | _,_,.bl=>.bl
 | _,_,.int=>.int
 | _,_,.str=>.str
 | _,_,.tup h p r=>.tup (g.tup h) (p.same g) (IsPs.same g r)
theorem IsPs.same (g:Same H H'):∀ {l:List Dt} {xs:List V},IsPs K H l xs->IsPs K H' l xs
 | _,_,.nil=>.nil
 | _,_,.cons h r=>.cons (IsP.same g h) (IsPs.same g r)
end
mutual
theorem IsP.but {r:Addr} {ys:List V} (hr:H r=some (.lst ys)) (g:But r H H'):∀ {d:Dt} {v:V},IsP K H d v->IsP K H' d v
 | _,_,.non=>.non
 | _,_,.bl=>.bl
 | _,_,.int=>.int
 | _,_,.str=>.str
 | _,_,.tup h p q=>.tup (by
   rcases vU hr h with n | n
   ·exact g.tup n h
   ·exact n _) (p.but hr g) (IsPs.but hr g q)
theorem IsPs.but {r:Addr} {ys:List V} (hr:H r=some (.lst ys)) (g:But r H H'):∀ {l:List Dt} {xs:List V},IsPs K H l xs->IsPs K H' l xs
 | _,_,.nil=>.nil
 | _,_,.cons h q=>.cons (IsP.but hr g h) (IsPs.but hr g q)
end
theorem IsPs.length {l:List Dt} {xs:List V} (h:IsPs K H l xs):l.length=xs.length:=h.d.length
theorem IsPs.get {l:List Dt} {xs:List V} (h:IsPs K H l xs) {i:Nat} {d:Dt} (e:l[i]?=some d):∃ x,xs[i]?=some x/\IsP K H d x:=by
 induction l generalizing xs i with
 | nil=>simp at e
 | cons c l ih =>
  cases h with
  | cons h r =>
   cases i with
   | zero=>simp at e;subst e;exact ⟨_,rfl,h⟩
   | succ i=>exact ih r (by simpa using e)
theorem IsPs.get' {l:List Dt} {xs:List V} (h:IsPs K H l xs) {i:Nat} {x:V} (e:xs[i]?=some x):∃ d,l[i]?=some d/\IsP K H d x:=by
 induction l generalizing xs i with
 | nil=>cases h;simp at e
 | cons c l ih =>
  cases h with
  | cons h r =>
   cases i with
   | zero=>simp at e;subst e;exact ⟨_,rfl,h⟩
   | succ i=>exact ih r (by simpa using e)
theorem IsPs.append {l m:List Dt} {xs ys:List V} (h:IsPs K H l xs) (h':IsPs K H m ys):IsPs K H (l++m) (xs++ys):=by
 induction l generalizing xs with
 | nil=>cases h;exact h'
 | cons d l ih=>cases h with | cons h r=>exact .cons h (ih r)
theorem IsPs.drop:∀ {l:List Dt} {xs:List V} (n:Nat),IsPs K H l xs->IsPs K H (l.drop n) (xs.drop n)
 | _,_,0,h=>h
 | _,_,_+1,.nil=>.nil
 | _,_,n+1,.cons _ r=>IsPs.drop n r
theorem IsPs.take:∀ {l:List Dt} {xs:List V} (n:Nat),IsPs K H l xs->IsPs K H (l.take n) (xs.take n)
 | _,_,0,_=>.nil
 | _,_,_+1,.nil=>.nil
 | _,_,n+1,.cons h r=>.cons h (IsPs.take n r)
theorem IsP.unref {l:List Dt} {v:V} (h:IsP K H (.tup l) v):∃ a xs,v=.ref a/\SqT K H a xs/\Pl H a/\IsPs K H l xs:=by
 cases h with
 | tup h p r=>exact ⟨_,_,rfl,h,p,r⟩
end
def plO (xs:List V) (us:List Value):HO:=.frz { cls:=.type "tuple",data:=.seq us.toArray } (.tup xs)
section
variable {X:Cx} {pins:List (Addr×Obj)} {σ:St} {H:Hp} {s:Shared}
theorem Inv.plain {xs:List V} {us:List Value} {t':Nat} (I:Inv X pins σ H s) (r:Vals xs us) (z:xs.length<=sizeLine) :
  Inv X pins σ (upd H s.heap.objs.size (plO xs us)) { s with heap:=s.heap.push { cls:=.type "tuple",data:=.seq us.toArray },toks:=t' }/\H s.heap.objs.size=none :=
 ⟨I.laid (t':=t') (λb ob q=>aAe _ q) (aAo _) ⟨aAA _ rfl,z,us,r,IsTup.new _ _⟩,I.hok.fresh (aAo _)⟩
theorem iS {p:Addr} {l:List Dt} {xs:List V} {us:List Value} (hf:H p=none) (d:IsPs X.K H l xs):Same H (upd H p (plO xs us))/\IsP X.K (upd H p (plO xs us)) (.tup l) (.ref p) :=
 ⟨ag hf _,.tup (.inl (.inr ⟨_,aa⟩)) ⟨_,_,aa,rfl⟩ (d.same (ag hf _))⟩
variable {e:Expr} {es:List Expr} {t:TA} {pos:Pos}
inductive ITup (K:W.Frag) (xs:List V) (H1:Hp) (Q:VK):Prop
 | mk (l:List Dt):(IsPs K H1 l xs)->(xs.length<=sizeLine)->(∀ v H',Same H1 H'->IsP K H' (.tup l) v->Q v H')->ITup K xs H1 Q
def v0 (K:W.Frag) (t:TA):TE:=λσ H Q=>t σ H λxs H1=>ITup K xs H1 Q
theorem yb {x1} (h:PA X es t):PE X (.Tuple es x1 pos) (v0 X.K t):=by
 intro pins s σ H Q I hq;refine wpAny_Tuple_spliced (thn (h pos pins s σ H _ I hq) λus s1 ⟨xs,H1,I1,r,l,d,z,q⟩=>⟨by rw [<- r.length];exact z,?_⟩);obtain ⟨I2,hf⟩:=I1.plain (t':=s1.toks) r z;obtain ⟨g,dp⟩:=iS (X:=X) (us:=us) hf d;exact ⟨.ref s1.heap.objs.size,_,I2,rfl,q _ _ g dp⟩
theorem qg:bJ X (.type "tuple") (λxs H Q=>∃ p ys l,xs=[.ref p]/\SqL X.K H p ys/\IsPs X.K H l ys/\∀ v H',Same H H'->IsP X.K H' (.tup l) v->Q v H'):=by
 intro pins s σ H xs us Q I r h;obtain ⟨p,ys,l,rfl,hq,d,q⟩:=h;obtain ⟨u,rfl,rx⟩:=du r
 cases rx
 obtain ⟨its,r',pl,hz⟩:=I.list hq;have hlen:=r'.length;refine call_tuple_list pl.isList (λh' kp=>?_) (by simp only [aAw] <;> lia);have I1:Inv X pins σ H { s with heap:=h' }:=I.kept (t':=s.toks) kp;obtain ⟨I2,hf⟩:=I1.plain (t':=s.toks) r' hz;obtain ⟨g,dp⟩:=iS (X:=X) (us:=its) hf d;exact ⟨.ref h'.objs.size,_,I2,rfl,q _ _ g dp⟩
theorem yc:OpR X (binaryOp .Add) (λx y H Q=>∃ l m,IsP X.K H (.tup l) x/\IsP X.K H (.tup m) y/\l.length+m.length<=sizeLine/\∀ v H',Same H H'->IsP X.K H' (.tup (l++m)) v->Q v H'):=by
 intro pins s σ H x y v u Q I rx ry h;obtain ⟨l,m,dx,dy,hz,q⟩:=h;obtain ⟨a,xs,rfl,ha,pa,ra⟩:=dx.unref;obtain ⟨b,ys,rfl,hb,pb,rb⟩:=dy.unref
 cases rx
 cases ry
 obtain ⟨its,r1,p1,_⟩:=I.tuple ha;obtain ⟨its2,r2,p2,_⟩:=I.tuple hb;have e1:=ra.length;have e2:=rb.length
 by_cases hx:xs=[]
 ·subst hx;have hi:its=[]:=r1.nil_iff.mpr rfl;subst hi;have hl:l=[]:=aAY.mp (by rw [e1];rfl);subst hl;exact HT.cat_nil p1 p2 ⟨.ref b,H,I,rfl,q _ H (Same.refl H) dy⟩
 ·refine HT.cat_tup p1 p2 (λz=>hx (r1.nil_iff.mp z)) (λz=>?_) (λz=>?_) (by rw [<- r1.length,<- r2.length,<- e1,<- e2];exact hz)
  ·have hy:=r2.nil_iff.mp z;subst hy;have hm:m=[]:=aAY.mp (by rw [e2];rfl);subst hm;exact ⟨.ref a,H,I,rfl,q _ H (Same.refl H) (by rw [aAJ];exact dx)⟩
  ·obtain ⟨I2,hf⟩:=I.plain (t':=s.toks) (r1.append r2) (by rw [aAc,<- e1,<- e2];exact hz);obtain ⟨g,dp⟩:=iS (X:=X) (us:=its++its2) hf (ra.append rb);exact ⟨.ref s.heap.objs.size,_,I2,rfl,q _ _ g dp⟩
theorem yd:SlR X (λx lo hi H Q=>∃ l,IsP X.K H (.tup l) x/\∀ v H',Same H H'->IsP X.K H' (.tup (uJ l lo hi)) v->Q v H'):=by
 intro pins s σ H x v vl vu lo hi sl Q I rx hs pl pu h;obtain ⟨l,dx,q⟩:=h;obtain ⟨a,xs,rfl,hx,pa,ra⟩:=id dx.unref
 cases rx
 have e1:=ra.length;obtain ⟨its,r,ht,hz⟩:=I.tuple hx;have hlen:its.toArray.size=xs.length:=by rw [aAw];exact r.length.symm
 refine ⟨"tuple",_,PyProof.Rows.slot_tuple_getitem.lookup,ht.typeIs,?_⟩
 by_cases hw:HT.sIx xs.length 0 lo=0/\HT.sIx xs.length xs.length hi=xs.length
 ·refine HT.getItem_tuple_all ht hs pl pu (by rw [hlen];exact hw.1) (by rw [hlen];exact hw.2) ⟨.ref a,H,I,rfl,q _ H (Same.refl H) ?_⟩;have e:uJ l lo hi=l:=by
   unfold uJ;rw [e1,hw.1,hw.2,List.drop_zero,Nat.sub_zero,<- e1,aBs]
  rw [e];exact dx
 ·refine HT.getItem_tuple_cut ht hs pl pu (by rw [hlen];exact hw) ?_ (by rw [hlen];exact hz);rw [hlen];obtain ⟨I2,hf⟩:=I.plain (t':=s.toks) ((r.drop (HT.sIx xs.length 0 lo)).take (HT.sIx xs.length xs.length hi - HT.sIx xs.length 0 lo)) (aAz (j9 xs lo hi) hz);have d2:IsPs X.K H (uJ l lo hi) (k7 xs lo hi):=by
   unfold uJ k7;rw [e1];exact (ra.drop _).take _
  obtain ⟨g,dp⟩:=iS (X:=X) (us:=(its.drop (HT.sIx xs.length 0 lo)).take (HT.sIx xs.length xs.length hi - HT.sIx xs.length 0 lo)) hf d2;exact ⟨.ref s.heap.objs.size,_,I2,rfl,q _ _ g dp⟩
theorem ye:IxR X (λx y H Q=>∃ l i d,IsP X.K H (.tup l) x/\y=.int i/\atI l i=some d/\∀ v,IsP X.K H d v->Q v H):=by
 intro value slice pins s σ H x y v u Q I rx ry h hs;obtain ⟨l,i,d,dx,rfl,ha,q⟩:=h;obtain ⟨a,xs,rfl,hx,pa,ra⟩:=id dx.unref;obtain ⟨j,hj,hd,_⟩:=iN ha;have e1:=ra.length;obtain ⟨w',hw,dw⟩:=ra.get hd;have hat:atI xs i=some w':=by
  unfold atI at ha ⊢;rw [<- e1]
  cases z:ixN l.length i with
  | none=>rw [z] at ha;cases ha
  | some j' =>
   rw [z] at ha;have ha':l[j']?=some d:=ha;obtain ⟨w2,hw2,dw2⟩:=ra.get ha';have z2:=kM z;rw [hj] at z2;have:j=j':=Option.some.inj z2.1;subst this;exact hw
 exact vI value slice pins s σ H (.ref a) (.int i) v u Q I rx ry ⟨a,xs,i,w',rfl,rfl,hx,hat,q w' dw⟩ hs
theorem oq:OpR X (binaryOp .Mult) (rI IntMulOk λi j=>.int (i*j)):=opI λ_ _ _ _ _ _ _ hc q=>mul_int q hc
end
def sW (fs:List (Str×Dt)) (z:Str):Option Dt:=(fs.find? λp=>decide (p.1=z)).map (·.2)
def Jn (K:W.Frag) (H:Hp) (p:Addr) (fs:List (Str×Dt)):Prop :=
 ∃ kvs,H p=some (.dK kvs)/\∀ z,(sW fs z=none->hV kvs (Sum.inr z:Key)=none)/\∀ d,sW fs z=some d->∃ v,hV kvs (Sum.inr z:Key)=some v/\IsP K H d v
section
variable {X:Cx} {pins:List (Addr×Obj)} {σ:St} {H:Hp} {s:Shared}
end
end L2
namespace PySem
open Sem (wp)
open Builtin
section
variable {prog:Program} {w:World} {A:Around} {E:Value->Shared->Prop} {s:Shared}
end
end PySem
namespace L2
open PySem PySem.Spec PyProof.Rows
section
variable {X:Cx}
theorem uP (u:Value):∀ (k:Nat) (acc:Array Value),((List.replicate k #[u]).foldl (·++·) acc)=acc++(List.replicate k u).toArray:=by
 intro k
 induction k with
 | zero=>intro acc;simp
 | succ k ih =>
  intro acc;rw [aAZ,List.foldl_cons,ih,aAZ];apply Array.ext';simp
theorem yQ {x:V} {u:Value} (h:RelV x u):∀ k:Nat,Vals (List.replicate k x) (List.replicate k u)
 | 0=>.nil
 | k+1=>.cons h (yQ h k)
variable {tg:Expr}
end
theorem qh {X:Cx} {st:Stmt} {t:TS} (h:X.Ok->PS X st t):PS X st t:=λpins s σ H D I hw=>h I.ok pins s σ H D I hw
theorem sX {P:Program} {w:World} {X:Cx}:gc (CXE P w) X (λ_ _ _=>False):=by
 intro pins σ H s e s' I h;obtain ⟨_,_,_,_,_,_,_,_,_,_,_,_,_,q⟩:=h;exact q.elim
theorem u1 {A:Around} (h:A.units+64 < cLine):A.units+1 < cLine:=(3)
theorem fn_none {P:Program} {w:World} {K:W.Frag} {mg:Str->Option Value} {base:Heap} {CX:CXT} {k:Nat} {f:Addr} {fd:FuncData} {ps:List Str} {sp:Sp} (h:∀ vs H Q E,¬ sp vs H Q E):FnOk P w K mg base CX k f fd ps sp :=
 ⟨λvs H Q E z=>(h vs H Q E z).elim,λA outer s H args us vs Q E hr e0 hb r z=>(h vs H Q E z).elim⟩
section
variable {X:Cx}
theorem lq:OpR X (binaryOp .FloorDiv) (rI (λ_ j=>0 < j/\j < 10000000000000000000000000000000000000000000000000000000000000) λi j=>.int (i / j)):=opI λi j _ _ _ _ _ hc q=>by
 have h1:(0:Int) < j:=hc.1;have h2:j < 10000000000000000000000000000000000000000000000000000000000000:=hc.2;refine floordiv_int (3) (by rw [Int.fdiv_eq_ediv_of_nonneg i (3)];exact q) (.inl (PyProof.noPylong_of_log2 ?_));have h3:j.natAbs < 2 ^ 9000:=aAk (show j.natAbs < 10000000000000000000000000000000000000000000000000000000000000 by lia) (4);exact (Nat.log2_lt (3)).mpr h3
theorem mt_starts:MtM X "str.startswith" (λx vs H Q=>∃ y z,x=.str y/\vs=[.str z]/\Q (.bl (Txt.startswith y z)) H):=by
 intro pins s σ H x vs v us Q I rx rv h;obtain ⟨y,z,rfl,rfl,q⟩:=h;obtain ⟨t,rfl⟩:=rx;obtain ⟨u,rfl,t',rfl⟩:=rv.one;exact SC.startswith ⟨.bl _,H,I,rfl,q⟩
theorem call_int_text:bJ X (.type "int") (λxs H Q=>∃ z n,xs=[.str z]/\PySem.intText? z=some n/\z.length<=640/\Q (.int n) H):=by
 intro pins s σ H xs us Q I r h;obtain ⟨z,n,rfl,hn,hl,q⟩:=h;obtain ⟨u,rfl,t,rfl⟩:=du r;exact W.KIN.call_text hn hl ⟨.int n,H,I.tok _,⟨_,rfl⟩,q⟩
inductive ICatS (K:W.Frag) (x y:V) (H:Hp) (Q:VK):Prop
 | mk (l b:Addr) (xs zs:List V):(x=.ref l)->(y=.ref b)->(SqL K H l xs)->(SqL K H b zs)->(xs.length+zs.length<=sizeLine)->(∀ p,H p=none->Q (.ref p) (upd H p (.lst (xs++zs))))->ICatS K x y H Q
def sY (K:W.Frag):R2:=λx y H Q=>ICatS K x y H Q
theorem yf:OpR X (binaryOp .Add) (sY X.K):=by
 intro pins s σ H x y v u Q I rx ry h;obtain ⟨l,b,xs,zs,rfl,rfl,hH,hB,hz,q⟩:=h
 cases rx
 cases ry
 obtain ⟨its,r,pl,z⟩:=I.list hH;obtain ⟨its2,r2,pl2,z2⟩:=I.list hB;obtain ⟨⟨cls,dd,data,sl⟩,ho,hc,n,hd⟩:=pl.isList;obtain ⟨⟨cls2,dd2,data2,sl2⟩,ho2,hc2,n2,hd2⟩:=pl2.isList;simp only at hc hd hc2 hd2;subst hc hd hc2 hd2;have l1:=r.length;have l2:=r2.length;have ea:its.toArray++its2.toArray=(its++its2).toArray:=by simp
 refine concat_meets ⟨_,ho,rfl⟩ ⟨_,ho2,rfl⟩ noFill_list_add seq_list_add PySem.F.slot_list_add PySem.F.entry_list_add (PySem.F.args_list_add_2 _ _) (list_addW l b its.toArray its2.toArray n n2 dd dd2 sl sl2 (by simp only [aAw];lia)) ⟨ho,ho2,?_⟩;rw [ea];exact ⟨.ref _,_,I.lnew (t':=s.toks) (r.append r2) (by rw [aAc];lia),rfl,q _ I.fresh⟩
end
open PySem.NumText
def dg (m:Nat):List Nat:=(Nat.toDigits 10 m).map Char.toNat
theorem wa:∀ d:Nat,d < 10->(Nat.digitChar d).toNat=48+d:=by decide
theorem gh {m:Nat} (h:m < 10):dg m=[48+m]:=by
 unfold dg;rw [Nat.toDigits_of_lt_base h];show [(Nat.digitChar m).toNat]=_;rw [wa m h]
theorem sZ {m:Nat} (h:10<=m):dg m=dg (m / 10)++[48+m % 10]:=by
 have hm:m % 10 < 10:=Nat.mod_lt m (by decide);have t:Nat.toDigits 10 (m / 10)++Nat.toDigits 10 (m % 10)=Nat.toDigits 10 (10*(m / 10)+m % 10):=Nat.toDigits_append_toDigits (by decide) (3) hm;rw [Nat.div_add_mod] at t;unfold dg;rw [<- t,aAr]
 congr 1
 exact gh hm
theorem eT (m:Nat):AllDigits (dg m):=by
 intro c hc;obtain ⟨ch,hch,e⟩:=aAm.mp hc;rw [<- e];exact digit_range (Nat.isDigit_of_mem_toDigits (by decide) (by decide) hch)
theorem wc (m:Nat):dg m≠[]:=by
 intro e;have h:=toDigits_len_ge 10 m;rw [List.map_eq_nil_iff.mp e] at h;exact absurd h (by decide)
theorem wf (m:Nat):digitsVal (dg m)=m:=W.KIN.val_back m
theorem tj:∀ (m:Nat),0 < m->∃ c r,dg m=c :: r/\49<=c:=by
 intro m
 induction m using Nat.strongRecOn with
 | _ m ih =>
  intro h
  by_cases h1:m < 10
  ·exact ⟨48+m,[],gh h1,(3)⟩
  ·obtain ⟨c,r,e,hc⟩:=ih (m / 10) (3) (3);exact ⟨c,r++[48+m % 10],by rw [sZ (3),e];rfl,hc⟩
theorem ou:∀ (k m:Nat),m < 10 ^ (k+1)->(dg m).length<=k+1
 | 0,m,h=>by rw [gh (by simpa using h)];exact aAo 1
 | k+1,m,h=>by
  by_cases h1:m < 10
  ·rw [gh h1];exact aBP (aAE _)
  ·rw [sZ (3),aAc,aA2];have:m / 10 < 10 ^ (k+1):=by
    rw [Nat.pow_succ] at h;exact Nat.div_lt_of_lt_mul (by rw [Nat.mul_comm];exact h)
   have:=ou k (m / 10) this;lia
def eU (n:Int):List Nat:=if n < 0 then 45 :: dg n.natAbs else dg n.natAbs
theorem str_int (n:Int):(Str.ofString (toString n)).cps.toList=eU n:=by
 rw [signs_ofString]
 cases n with
 | ofNat m =>
  have:¬ (Int.ofNat m < 0):=by simp
  unfold eU;rw [if_neg this];show (Nat.repr m).toList.map Char.toNat=_;rw [Nat.toList_repr]
  rfl
 | negSucc m =>
  have:Int.negSucc m < 0:=Int.negSucc_lt_zero m;unfold eU;rw [if_pos this];show ("-" ++Nat.repr (m+1)).toList.map Char.toNat=_;rw [String.toList_append,aAr,Nat.toList_repr]
  rfl
theorem bG {x y:Str} (h:x.cps.toList=y.cps.toList):x=y:=by
 obtain ⟨a⟩:=x;obtain ⟨b⟩:=y
 congr 1
 exact Array.toList_inj.mp h
theorem ls (z:Str) (c:Nat):Txt.startswith z ⟨#[c]⟩=decide (z.cps.toList.head?=some c):=by
 obtain ⟨⟨l⟩⟩:=z
 cases l with
 | nil=>rfl
 | cons d r =>
  rw [aA1,decide_eq_true_iff];simp [Txt.startswith,Builtin.Str.subAt,Str.length]
theorem rR {z:Str} (h:1<=z.length):Txt.slice z (some 1) none=⟨(z.cps.toList.drop 1).toArray⟩:=by
 have e:=slice_from_eq (x:=z) (i:=1) (b:=z.length) (by decide) (3) rfl;rw [e];apply bG;show ((z.cps.toList.drop 1).take ((z.length:Int) - 1).toNat)=z.cps.toList.drop 1;apply aAx;have:z.cps.toList.length=z.length:=aAU;rw [aAK];lia
end L2
namespace L2
open PySem PySem.Spec PyProof.Rows
section
variable {X:Cx} {pins:List (Addr×Obj)} {σ:St} {H:Hp} {s:Shared} {h':Heap}
theorem Inv.turnedT {t':Nat} {wr:List Addr} {T:Addr} {o:HO} (I:Inv X pins σ H s) (k:∀ b u,b∉wr->s.heap.get? b=some u->h'.get? b=some u) (f:∀ b∈wr,iK X pins H b)
  (hT:s.heap.objs.size<=T) (new:ObjOk X.prog X.w (upd H T o) h' T o):Inv X pins σ (upd H T o) { s with heap:=h',toks:=t' }:=by
 have nT:∀ b u,s.heap.get? b=some u->b≠T:=λb u e z=>absurd (aAk (aAu e) (z ▸ hT)) (aAS _);have nH:∀ b u,H b=some u->b≠T:=λb u e z=>absurd (aAk (I.hok.lt e) (z ▸ hT)) (aAS _);have nw:∀ b u,H b=some u->b∉wr:=λb u e z=>by rw [(f b z).1] at e;cases e
 refine I.step (g':=s.gens) (d':=s.drawn) (ch:=wr) (λb hb=>?_) (λb u _ _ hc e _=>k b u hc e) (λb u _ _ hc e _=>⟨u.slots,k b u hc e⟩) (λb u _ e n=>by rw [ac (nT b u e)];exact n)
  (λb u hc e=>⟨u,k b u hc e⟩) (λb xs e=>by rw [ac (nH b _ e)];exact e) (λb u v e=>by rw [ac (nH b _ e)];exact e) (λb ps e=>⟨#[],by rw [ac (nH b _ e),e];simp⟩) (λm hm=>?_) (λb u e=>?_) I.bare
 ·obtain ⟨f0,f1,f2,f3,f4,f5⟩:=f b hb;exact ⟨f3,f1,f4,f5⟩
 ·obtain ⟨u,es,ep,ho,r⟩:=hm;exact ⟨u,es,ep,k _ u (λz=>(f _ z).2.1 rfl) ho,r⟩
 ·by_cases hb:b=T
  ·subst hb;rw [aa] at e
   cases e
   exact new
  ·rw [ac hb] at e;refine (I.hok b u e).stay (λc v hc q=>k c v ?_ q) (λc q=>?_) λc xs q=>by rw [ac (nH c _ q)];exact q
   ·rcases hc with z | z
    ·rw [z];exact nw b u e
    ·exact nw c _ z
   ·rw [ac (nH c _ q)];exact q
theorem Inv.turnedL {t':Nat} {wr:List Addr} (I:Inv X pins σ H s) (k:∀ b u,b∉wr->s.heap.get? b=some u->h'.get? b=some u) (f:∀ b∈wr,iK X pins H b):Inv X pins σ H { s with heap:=h',toks:=t' }:=by
 have nw:∀ b u,H b=some u->b∉wr:=λb u e z=>by rw [(f b z).1] at e;cases e
 refine I.step (g':=s.gens) (d':=s.drawn) (ch:=wr) (λb hb=>?_) (λb u _ _ hc e _=>k b u hc e) (λb u _ _ hc e _=>⟨u.slots,k b u hc e⟩) (λ_ _ _ _ n=>n)
  (λb u hc e=>⟨u,k b u hc e⟩) (λ_ _ e=>e) (λ_ _ _ e=>e) (λb ps e=>⟨#[],by rw [e];simp⟩) (λm hm=>?_) (λb u e=>?_) I.bare
 ·obtain ⟨f0,f1,f2,f3,f4,f5⟩:=f b hb;exact ⟨f3,f1,f4,f5⟩
 ·obtain ⟨u,es,ep,ho,r⟩:=hm;exact ⟨u,es,ep,k _ u (λz=>(f _ z).2.1 rfl) ho,r⟩
 ·refine (I.hok b u e).stay (λc v hc q=>k c v ?_ q) (λ_ q=>q) λ_ _ q=>q;rcases hc with z | z
  ·rw [z];exact nw b u e
  ·exact nw c _ z
end
section
variable {X:Cx} {elts:List Expr} {k:Nat} {tpos:Pos}
end
def met:List Key->List Key
 | []=>[]
 | k :: r=>if r.any (λj=>decide (j=k)) then met r else k :: met r
section
variable {P:Program} {w:World} {A:Around} {R:Result->Shared->Prop} {it:Addr} {fp wr:List Addr} {G:Array GenState->Array GenState->Prop} {n:Nat} {Pt:Nat->Value->Prop} {St:Nat->Shared->Prop}
end
section
variable {P:Program} {w:World} {A:Around} {E:Value->Shared->Prop} {s:Shared}
end
section
variable {X:Cx}
end
section
variable {K:W.Frag} {a b l:Addr} {xs ys:List V} {g:TG} {tb:List V->Addr->St->Hp->(List V->St->Hp->Prop)->Prop} {R:Hp->Prop} {σ0:St} {H0:Hp}
theorem eV (Pv:Nat->List V->St->Hp->Prop) (h0:Pv 0 [] σ0 H0) (hl:∀ i ys σ H,i<=xs.length->Pv i ys σ H->SqT K H a xs)
  (hs:∀ i x ys σ H (N:List V->St->Hp->Prop),xs[i]?=some x->Pv i ys σ H->(∀ ys' σ' H',Pv (i+1) ys' σ' H'->N ys' σ' H')->g x σ H λσ2 H2=>tb ys l σ2 H2 N)
  (hd:∀ ys σ H,Pv xs.length ys σ H->R H) :
  ∃ W:Nat->Nat->List V->St->Hp->Prop,(∃ m,W 0 m [] σ0 H0)/\∀ i m ys σ' H',W i m ys σ' H'->((Itt K a).stop i H'/\R H') \/
   ((Itt K a).go i H'/\∀ x H'',(Itt K a).yld i H' x H''->g x σ' H'' λσ2 H2=>tb ys l σ2 H2 λys' σ3 H3=>∃ m',m' < m/\W (i+1) m' ys' σ3 H3):=vT (Q:=λ_ H=>R H) Pv h0 hl hs hd
theorem lu (Pv:Nat->List V->St->Hp->Prop) (h0:Pv 0 [] σ0 H0) (hl:∀ i ys σ H,i<=xs.length->Pv i ys σ H->SqL K H a xs)
  (hs:∀ i x ys σ H (N:List V->St->Hp->Prop),xs[i]?=some x->Pv i ys σ H->(∀ ys' σ' H',Pv (i+1) ys' σ' H'->N ys' σ' H')->g x σ H λσ2 H2=>tb ys l σ2 H2 N)
  (hd:∀ ys σ H,Pv xs.length ys σ H->R H) :
  ∃ W:Nat->Nat->List V->St->Hp->Prop,(∃ m,W 0 m [] σ0 H0)/\∀ i m ys σ' H',W i m ys σ' H'->((Itl K a).stop i H'/\R H') \/
   ((Itl K a).go i H'/\∀ x H'',(Itl K a).yld i H' x H''->g x σ' H'' λσ2 H2=>tb ys l σ2 H2 λys' σ3 H3=>∃ m',m' < m/\W (i+1) m' ys' σ3 H3):=uI (Q:=λ_ H=>R H) Pv h0 hl hs hd
end
theorem kP {X:Cx} {K:W.Frag} {es:List Expr} {k:Nat} {pos:Pos} {t:TGs} {n:Nat} (hK:X.K=K) (hc:X.calm=true) (h:PGs X es t)
  (hn:(assignEach es X.env).length=n:=by rfl) (hst:(assignEach es X.env).findIdx? (·.1)=none:=by rfl):PG X (.Tuple es k pos) (HJ K n t):=by
 subst hK;exact jx hc h hn hst
theorem bR {H H1:Hp} {l:Addr} {o:HO} (hl:H l=none) (g:Same H H1):Same H (upd H1 l o):=λb u e=>by rw [ac (ah e hl)];exact g b u e
section
variable {X:Cx}
end
section
variable {X:Cx}
variable {K:W.Frag}
theorem pe_tupPK {es:List Expr} {x1:Nat} {pos:Pos} {t:TA} (hK:X.K=K) (h:PA X es t):PE X (.Tuple es x1 pos) (v0 K t):=by subst hK;exact yb h
theorem aG (hK:X.K=K):IxR X (BJ K):=by subst hK;exact xS
theorem tq (hK:X.K=K) (hu:X.A.units+64 < cLine):OpR X (compareOp .Eq) (Ih K):=by subst hK;exact BQ hu
theorem fv (hK:X.K=K):OpR X (compareOp .In) (rIn K false):=by subst hK;exact uC
end
section
variable {X:Cx}
end
section
variable {X:Cx}
theorem ng:∀ {ss:List Str} {us:List Value},Vals (ss.map V.str) us->StrsAre us ss
 | [],us,h=>by cases h;exact .nil
 | z :: ss,us,h=>by
  cases h with
  | cons r rr =>
   obtain ⟨t,rfl⟩:=r;exact .cons z t (ng rr)
theorem jF:∀ {ss:List Str} {us:List Value},StrsAre us ss->Vals (ss.map V.str) us
 | _,_,.nil=>.nil
 | _,_,.cons z t r=>.cons ⟨t,rfl⟩ (jF r)
theorem rS:bJ X (.builtin "sorted") (λxs H Q=>∃ (p:Addr) (ss:List Str),xs=[.ref p]/\SqL X.K H p (ss.map V.str)/\ss.length < 64/\∀ a ss',H a=none->ss'.Perm ss->sortedS ss'=true->Q (.ref a) (upd H a (.lst (ss'.map V.str)))):=by
 intro pins s σ H xs us Q I r h;obtain ⟨p,ss,rfl,hp,hl,q⟩:=h;obtain ⟨u,rfl,rx⟩:=du r
 cases rx
 obtain ⟨its,rv,pl,hz⟩:=I.list hp;have el:=rv.length;rw [aAa] at el;refine sorted_strs pl.isList (ng rv) (3) λout ss' h1 h2 h3=>?_;obtain ⟨e,he⟩:=sortedAll_at s.heap its out;have hn:H (s.heap.objs.size+1)=none:=I.hok.fresh (aBX _);refine ⟨.ref (s.heap.objs.size+1),_,I.laid (t':=s.toks) (o:=.lst (ss'.map V.str)) (λb o=>sortedAll_old) (aBX _) ?_,rfl,q _ _ hn h2 h3⟩;have e2:seqObj "list" out e=seqObj "list" out.toList.toArray e:=by rw [Array.toArray_toList]
 refine ⟨?_,out.toList,e,jF h1,?_⟩
 ·rw [aAa,h2.length_eq];exact aBa (aBO hl (by decide))
 ·rw [he,e2]
end
abbrev two (v:Value) (c:Nat):Obj:={ cls:=.type "list",dict:=none,data:=.seq #[v,v] c,slots:=#[] }
section
variable {prog:Program} {w:World} {A:Around} {R:Result->Shared->Prop} {it:Addr} {fp wr:List Addr} {n:Nat} {P:Nat->Value->Prop} {St:Nat->Heap->Prop}
end
section
variable {prog:Program} {w:World} {A:Around} {E:Value->Shared->Prop} {s:Shared} {l:Addr} {zs:Array (Int×Tok)} {d:Value} {Q:Value->Shared->Prop}
end
section
variable {X:Cx}
end
section
variable {X:Cx} {K:W.Frag}
end
section
variable {l:Addr} {g:TG} {tb:List V->Addr->St->Hp->(List V->St->Hp->Prop)->Prop} {R:Hp->Prop} {σ0:St} {H0:Hp} {lo:Int} {n:Nat} {z:Str}
theorem be (Pv:Nat->List V->St->Hp->Prop) (h0:Pv 0 [] σ0 H0) (hs:∀ i ys σ H (N:List V->St->Hp->Prop),i < n->Pv i ys σ H->(∀ ys' σ' H',Pv (i+1) ys' σ' H'->N ys' σ' H')->g (.int (lo+i)) σ H λσ2 H2=>tb ys l σ2 H2 N) (hd:∀ ys σ H,Pv n ys σ H->R H) :
  ∃ W:Nat->Nat->List V->St->Hp->Prop,(∃ m,W 0 m [] σ0 H0)/\∀ i m ys σ' H',W i m ys σ' H'->((Itr lo n).stop i H'/\R H')\/((Itr lo n).go i H'/\∀ x H'',(Itr lo n).yld i H' x H''->g x σ' H'' λσ2 H2=>tb ys l σ2 H2 λys' σ3 H3=>∃ m',m' < m/\W (i+1) m' ys' σ3 H3):=rO (Q:=λ_ H=>R H) Pv h0 hs hd
theorem uQ (Pv:Nat->List V->St->Hp->Prop) (h0:Pv 0 [] σ0 H0) (hs:∀ i c ys σ H (N:List V->St->Hp->Prop),z.cps[i]?=some c->Pv i ys σ H->(∀ ys' σ' H',Pv (i+1) ys' σ' H'->N ys' σ' H')->g (.str ⟨#[c]⟩) σ H λσ2 H2=>tb ys l σ2 H2 N) (hd:∀ ys σ H,Pv z.cps.size ys σ H->R H) :
  ∃ W:Nat->Nat->List V->St->Hp->Prop,(∃ m,W 0 m [] σ0 H0)/\∀ i m ys σ' H',W i m ys σ' H'->((Its z).stop i H'/\R H')\/((Its z).go i H'/\∀ x H'',(Its z).yld i H' x H''->g x σ' H'' λσ2 H2=>tb ys l σ2 H2 λys' σ3 H3=>∃ m',m' < m/\W (i+1) m' ys' σ3 H3):=p9 (Q:=λ_ H=>R H) Pv h0 hs hd
end
section
variable {X:Cx} {K:W.Frag}
inductive JIxP (K:W.Frag) (x y:V) (H:Hp) (Q:VK):Prop
 | mk (l:List Dt) (i:Int) (d:Dt):(IsP K H (.tup l) x)->(y=.int i)->(atI l i=some d)->(∀ v,IsP K H d v->Q v H)->JIxP K x y H Q
def wj (K:W.Frag):R2:=λx y H Q=>JIxP K x y H Q
def Jo (K:W.Frag):R2:=λx y H Q=>∃ l i d,IsD K H (.tup l) x/\y=.int i/\atI l i=some d/\∀ v,IsD K H d v->Q v H
inductive JCatP (K:W.Frag) (x y:V) (H:Hp) (Q:VK):Prop
 | mk (l m:List Dt):(IsP K H (.tup l) x)->(IsP K H (.tup m) y)->(l.length+m.length<=sizeLine)->(∀ v H',Same H H'->IsP K H' (.tup (l++m)) v->Q v H')->JCatP K x y H Q
def Im (K:W.Frag):R2:=λx y H Q=>JCatP K x y H Q
inductive JLenD (K:W.Frag) (xs:List V) (H:Hp) (Q:VK):Prop
 | mk (x:V) (l:List Dt):(xs=[x])->(IsD K H (.tup l) x)->(Q (.int l.length) H)->JLenD K xs H Q
def Io (K:W.Frag):List V->Hp->VK->Prop:=λxs H Q=>JLenD K xs H Q
inductive JIsi (K:W.Frag) (xs:List V) (H:Hp) (Q:VK):Prop
 | mk (x:V) (T:String) (b:Bool):(xs=[x,.ty T])->(IsiB K H x T b)->(Q (.bl b) H)->JIsi K xs H Q
def Jp (K:W.Frag):List V->Hp->VK->Prop:=λxs H Q=>JIsi K xs H Q
inductive JTupP (K:W.Frag) (xs:List V) (H:Hp) (Q:VK):Prop
 | mk (p:Addr) (ys:List V) (l:List Dt):(xs=[.ref p])->(SqL K H p ys)->(IsPs K H l ys)->(∀ v H',Same H H'->IsP K H' (.tup l) v->Q v H')->JTupP K xs H Q
def Ip (K:W.Frag):List V->Hp->VK->Prop:=λxs H Q=>JTupP K xs H Q
theorem iT (hK:X.K=K):IxR X (wj K):=by
 subst hK;intro e1 e2 pins s σ H x y v u Q I rx ry h hs;obtain ⟨l,i,d,a,b,c,q⟩:=h;exact ye _ _ _ _ _ _ _ _ _ _ _ I rx ry ⟨l,i,d,a,b,c,q⟩ hs
theorem ix_tupDN (hK:X.K=K):IxR X (Jo K):=by subst hK;exact xZ
theorem lv (hK:X.K=K):OpR X (binaryOp .Add) (Im K):=by
 subst hK;intro pins s σ H x y v u Q I rx ry h;obtain ⟨l,m,a,b,c,q⟩:=h;exact yc _ _ _ _ _ _ _ _ _ I rx ry ⟨l,m,a,b,c,q⟩
theorem iU (hK:X.K=K) (hu:X.A.units+64 < cLine):OpR X (compareOp .NotEq) (Ii K):=by subst hK;exact BR hu
theorem ik (hK:X.K=K):bJ X (.builtin "len") (Io K):=by
 subst hK;intro pins s σ H xs us Q I r h;obtain ⟨x,l,a,b,q⟩:=h;exact uK _ _ _ _ _ _ _ I r ⟨x,l,a,b,q⟩
theorem call_isiN' (hK:X.K=K):bJ X (.builtin "isinstance") (Jp K):=by
 subst hK;intro pins s σ H xs us Q I r h;obtain ⟨x,l,m,a,b,q⟩:=h;exact vP _ _ _ _ _ _ _ I r ⟨x,l,m,a,b,q⟩
theorem aU (hK:X.K=K):bJ X (.type "tuple") (Ip K):=by
 subst hK;intro pins s σ H xs us Q I r h;obtain ⟨x,l,m,a,b,c,q⟩:=h;exact qg _ _ _ _ _ _ _ I r ⟨x,l,m,a,b,c,q⟩
theorem pi_tupN {tg l:Expr} {tl:TE} (hK:X.K=K) (hl:PE X l tl):PI X tg l (HL K tl):=by subst hK;exact BE hl
theorem gi {tg l:Expr} {tl:TE} (hK:X.K=K) (hl:PE X l tl):PI X tg l (yK K tl):=by subst hK;exact xJ hl
end
section
variable {prog:Program} {w:World} {A:Around} {E:Value->Shared->Prop} {s:Shared}
theorem im {b t:Addr} {k:Nat} {its:Array Value} {v:Value} {Q:Value->Shared->Prop} (hb:IsTupIter s.heap b t k) (ht:IsTup s.heap t its) (hv:its[k]?=some v)
  (q:∀ h',IsTupIter h' b t (k+1)->Heap.SameBut b s.heap h'->Q v { s with heap:=h' }):wpAny (model prog w) A (Builtin.SmallTypes.nextOf (.ref b)) Q E s:=by
 obtain ⟨ob,gb,cb,db⟩:=id hb;obtain ⟨ot,gt,_,nt,dt⟩:=ht;unfold Builtin.SmallTypes.nextOf;refine wpAny_bind (wpAny_callSpecial?_slot (name:=Str.ofString "__next__") hb.typeIs slot_tupleiter_next (wpAny_call_entry slot_tupleiter_next hb.typeIs entry_tupleiter_next ?_ (args_tupleiter_next _)));refine show wpAny _ _ (field (.ref b) 0 >>= _) _ _ s from wpAny_bind (wpAny_field gb db (x:=.ref t) rfl ?_);refine show wpAny _ _ (if (Value.ref t == Value.none)=true then _ else _) _ _ s from ?_;rw [if_neg (by exact aAy)];refine show wpAny _ _ (field (.ref b) 1 >>= _) _ _ s from wpAny_bind (wpAny_field gb db (x:=.int k 0) rfl ?_);refine show wpAny _ _ (seqItems? (.ref t) >>= _) _ _ s from wpAny_bind (wpAny_seqItems gt dt ?_);simp only [hv,aBf];refine wpAny_bind (wpAny_setField gb db (by simp) (wpAny_pure ⟨v,rfl,wpAny_pure (q _ ⟨_,aBv _ gb (Obj.isFreed_of_fields (Obj.data_mapFields db _)),(Obj.cls_mapFields ..).trans cb,?_⟩ (Heap.SameBut.update ..))⟩));rw [Obj.data_mapFields db];simp [rawInt]
theorem nh {b t:Addr} {k:Nat} {its:Array Value} {Q:Value->Shared->Prop} (hh:A.handled=none) (hb:IsTupIter s.heap b t k) (ht:IsTup s.heap t its) (hv:its[k]?=none)
  (q:∀ h' e,Heap.ExtBut b s.heap h'->(∃ o,h'.get? e=some o/\o.cls=.type "StopIteration")->E (.ref e) { s with heap:=h' }):wpAny (model prog w) A (Builtin.SmallTypes.nextOf (.ref b)) Q E s:=by
 obtain ⟨ob,gb,cb,db⟩:=id hb;obtain ⟨ot,gt,_,nt,dt⟩:=ht;unfold Builtin.SmallTypes.nextOf;refine wpAny_bind (wpAny_callSpecial?_slot (name:=Str.ofString "__next__") hb.typeIs slot_tupleiter_next (wpAny_call_entry slot_tupleiter_next hb.typeIs entry_tupleiter_next ?_ (args_tupleiter_next _)));refine show wpAny _ _ (field (.ref b) 0 >>= _) _ _ s from wpAny_bind (wpAny_field gb db (x:=.ref t) rfl ?_);refine show wpAny _ _ (if (Value.ref t == Value.none)=true then _ else _) _ _ s from ?_;rw [if_neg (by exact aAy)];refine show wpAny _ _ (field (.ref b) 1 >>= _) _ _ s from wpAny_bind (wpAny_field gb db (x:=.int k 0) rfl ?_);refine show wpAny _ _ (seqItems? (.ref t) >>= _) _ _ s from wpAny_bind (wpAny_seqItems gt dt ?_);simp only [hv,aBf];refine wpAny_bind (wpAny_rule (wpAny_bind (wpAny_setField gb db (by simp) ?_)));refine show wpAny _ _ (newExc (.type "StopIteration") [] >>= _) _ _ _ from wpAny_bind ?_;simp only [newTuple,newExc];refine wpAny_bind (wpAny_newObj_type (wpAny_bind (m:=firstArgMember _ _) (wpAny_of_eq (a:=Value.none) (by first | rfl | (simp only [firstArgMember];rfl)) (wpAny_newObj_type ?_ (by size_fits)))) (by size_fits));simp only [raiseNew];refine wpAny_bind (wpAny_handled ?_);rw [show A.in1.handled=none from hh];exact wpAny_bind (wpAny_pure (wpAny_throw (q _ _ (((Heap.SameBut.update ..).extBut.push _).push _) ⟨_,aAA _ rfl,rfl⟩)))
theorem uR {z P0 P1 u v l m:Addr} {k:Nat} {xs ys:Array Value} {x y a b:Value} {Q:Option Value->Shared->Prop} (D:ZipApart z P0 P1 u v l m) (Z:IsZip s.heap z P0 P1 .none) (I0:IsPair s.heap P0 (.ref u) (.ref v)) (I1:IsPair s.heap P1 a b)
  (wu:IsTupIter s.heap u l k) (wv:IsTupIter s.heap v m k) (tl:IsTup s.heap l xs) (tm:IsTup s.heap m ys) (ex:xs[k]?=some x) (ey:ys[k]?=some y)
  (q:∀ h',IsZip h' z P0 P1 (rawInt s.heap.objs.size)->IsPair h' P1 x y->IsTupIter h' u l (k+1)->IsTupIter h' v m (k+1)->IsPair h' s.heap.objs.size x y->h'.objs.size=s.heap.objs.size+1 ->
   (∀ c o,c≠z->c≠P1->c≠u->c≠v->s.heap.get? c=some o->h'.get? c=some o)->Q (some (.ref s.heap.objs.size)) { s with heap:=h' }):wpAny (model prog w) A (pyNext (.ref z)) Q E s:=by
 have hT:s.TypeIs (.ref z) "zip" :=⟨_,Z,rfl⟩;unfold pyNext;refine wpAny_bind (wpAny_attempt (wpAny_callSpecial?_slot (name:=Str.ofString "__next__") hT F.slot_zip_next (wpAny_call_entry F.slot_zip_next hT F.entry_zip_next ?_ (F.args_zip_next_1 _))));refine show wpAny _ _ (field (.ref z) 2 >>= _) _ _ _ from wpAny_bind (wpAny_field Z rfl (x:=.bool false) rfl ?_);refine show wpAny _ _ (field (.ref z) 3 >>= _) _ _ _ from wpAny_bind (wpAny_field Z rfl (x:=.ref P0) rfl (wpAny_bind (wpAny_seqItems I0 rfl ?_)));refine show wpAny _ _ (Builtin.SmallTypes.ownedTupleIsFree (.ref z) >>= _) _ _ _ from wpAny_bind ?_;unfold Builtin.SmallTypes.ownedTupleIsFree;refine wpAny_bind (wpAny_field Z rfl (x:=.none) rfl (wpAny_pure ?_));rw [if_pos rfl];refine wpAny_bind (wpAny_rule (wpAny_bind (wpAny_field Z rfl (x:=.ref P1) rfl (wpAny_bind (wpAny_setField_rec Z (by simp) λha Za sa=>?_)))));replace Za:IsZip ha z P0 P1 .ellipsis:=Za;refine wpAny_bind ?_;simp only [List.zipIdx_cons,aAX,List.zipIdx_nil,aBq];refine wpAny_bind (wpAny_bind (wpAny_onRaise ?_));refine show wpAny _ _ (Builtin.SmallTypes.nextOf (.ref u) >>= _) _ _ _ from wpAny_bind (im (wu.extBut sa.extBut D.i1z) (tl.extBut sa.extBut D.l1z) ex λhb wb sb=>wpAny_pure ?_);have Ib:IsPair hb P1 a b:=sb.extBut _ _ D.TOi1 (sa.extBut _ _ D.TOz I1);refine wpAny_bind (wpAny_seqItems Ib rfl (wpAny_bind (wpAny_updateSeq_pair Ib λhc Ic sc=>wpAny_bind (wpAny_letGo (wpAny_pure ?_)))));replace Ic:IsPair hc P1 x b:=Ic;refine wpAny_bind (wpAny_bind (wpAny_onRaise ?_));refine show wpAny _ _ (Builtin.SmallTypes.nextOf (.ref v) >>= _) _ _ _ from wpAny_bind (im (((wv.extBut sa.extBut D.i2z).extBut sb.extBut D.i12.symm).extBut sc.extBut D.TOi2.symm) (((tm.extBut sa.extBut D.l2z).extBut sb.extBut D.l2i1).extBut sc.extBut D.l2TO) ey λhd wd sd=>wpAny_pure ?_);have Id:IsPair hd P1 x b:=sd.extBut _ _ D.TOi2 Ic;refine wpAny_bind (wpAny_seqItems Id rfl (wpAny_bind (wpAny_updateSeq_pair Id λhe Ie se=>wpAny_bind (wpAny_letGo (wpAny_pure (wpAny_pure ?_))))));replace Ie:IsPair he P1 x y:=Ie;refine wpAny_bind (wpAny_seqItems Ie rfl (wpAny_bind (wpAny_newTuple ?_)));have size:he.objs.size=s.heap.objs.size:=by rw [se.1,sd.1,sc.1,sb.1,sa.1]
 have Ze:IsZip he z P0 P1 .ellipsis:=se.extBut _ _ D.TOz.symm (sd.extBut _ _ D.i2z.symm (sc.extBut _ _ D.TOz.symm (sb.extBut _ _ D.i1z.symm Za)));have keep:∀ c o,c≠z->c≠P1->c≠u->c≠v->s.heap.get? c=some o->he.get? c=some o:=λc o n1 n2 n3 n4 e=>se.extBut _ _ n2 (sd.extBut _ _ n4 (sc.extBut _ _ n2 (sb.extBut _ _ n3 (sa.extBut _ _ n1 e))));have we:IsTupIter he u l (k+1):=((wb.extBut sc.extBut D.TOi1.symm).extBut sd.extBut D.i12).extBut se.extBut D.TOi1.symm;have we':IsTupIter he v m (k+1):=wd.extBut se.extBut D.TOi2.symm;have ltz:z < he.objs.size:=aAu Ze;refine show wpAny _ _ (Builtin.SmallTypes.ownedTupleHandOut (.ref z) (.ref he.objs.size) >>= _) _ _ _ from wpAny_bind ?_;unfold Builtin.SmallTypes.ownedTupleHandOut;have Zf:IsZip (he.push { cls:=.type "tuple",data:=.seq #[x,y] }) z P0 P1 .ellipsis:=aAe _ Ze;refine wpAny_bind (wpAny_setField_rec Zf (by simp) λhg Zg sg=>?_);replace Zg:IsZip hg z P0 P1 (rawInt he.objs.size):=Zg;refine wpAny_setField_rec Zg (by simp) λhi Zi si=>?_;replace Zi:IsZip hi z P0 P1 (rawInt he.objs.size):=Zi;have up:∀ c o,c≠z->he.get? c=some o->hi.get? c=some o:=λc o n e=>si.extBut _ _ n (sg.extBut _ _ n (aAe _ e));have Ti:IsPair hi he.objs.size x y:=si.extBut _ _ (aBK ltz) (sg.extBut _ _ (aBK ltz) (aAA _ rfl));have size':hi.objs.size=he.objs.size+1:=by rw [si.1,sg.1,aA4]
 refine wpAny_pure ⟨_,rfl,wpAny_pure ?_⟩;rw [size] at Zi Ti size';have go:=q hi Zi (up _ _ D.TOz Ie) (by obtain ⟨o,e,r⟩:=we;exact ⟨o,up _ o D.i1z e,r⟩) (by obtain ⟨o,e,r⟩:=we';exact ⟨o,up _ o D.i2z e,r⟩) Ti size' λc o n1 n2 n3 n4 e=>up c o n1 (keep c o n1 n2 n3 n4 e);rw [<- size] at go;exact go
theorem wm {z P0 P1 u v l m:Addr} {k:Nat} {xs ys:Array Value} {a b:Value} {Q:Option Value->Shared->Prop} (hh:A.handled=none) (D:ZipApart z P0 P1 u v l m) (Z:IsZip s.heap z P0 P1 .none) (I0:IsPair s.heap P0 (.ref u) (.ref v)) (I1:IsPair s.heap P1 a b)
  (wu:IsTupIter s.heap u l k) (wv:IsTupIter s.heap v m k) (tl:IsTup s.heap l xs) (tm:IsTup s.heap m ys) (no:xs[k]?=none\/ys[k]?=none)
  (q:∀ h',(∀ c o,c≠z->c≠P1->c≠u->c≠v->s.heap.get? c=some o->h'.get? c=some o)->Q none { s with heap:=h' }):wpAny (model prog w) A (pyNext (.ref z)) Q E s:=by
 have hT:s.TypeIs (.ref z) "zip" :=⟨_,Z,rfl⟩;unfold pyNext;refine wpAny_bind (wpAny_attempt (wpAny_callSpecial?_slot (name:=Str.ofString "__next__") hT F.slot_zip_next (wpAny_call_entry F.slot_zip_next hT F.entry_zip_next ?_ (F.args_zip_next_1 _))));refine show wpAny _ _ (field (.ref z) 2 >>= _) _ _ _ from wpAny_bind (wpAny_field Z rfl (x:=.bool false) rfl ?_);refine show wpAny _ _ (field (.ref z) 3 >>= _) _ _ _ from wpAny_bind (wpAny_field Z rfl (x:=.ref P0) rfl (wpAny_bind (wpAny_seqItems I0 rfl ?_)));refine show wpAny _ _ (Builtin.SmallTypes.ownedTupleIsFree (.ref z) >>= _) _ _ _ from wpAny_bind ?_;unfold Builtin.SmallTypes.ownedTupleIsFree;refine wpAny_bind (wpAny_field Z rfl (x:=.none) rfl (wpAny_pure ?_));rw [if_pos rfl];refine wpAny_bind (wpAny_rule (wpAny_bind (wpAny_field Z rfl (x:=.ref P1) rfl (wpAny_bind (wpAny_setField_rec Z (by simp) λha Za sa=>?_)))));replace Za:IsZip ha z P0 P1 .ellipsis:=Za;refine wpAny_bind ?_;simp only [List.zipIdx_cons,aAX,List.zipIdx_nil,aBq];refine wpAny_bind (wpAny_bind (wpAny_onRaise ?_));have stop:∀ {h':Heap} {e:Addr},(∃ o,h'.get? e=some o/\o.cls=.type "StopIteration")->IsZip h' z P0 P1 .ellipsis->e≠z:=λhe hz c=>by
  obtain ⟨o,ho,hc⟩:=he;subst c;rw [hz] at ho
  cases ho
  simp at hc
 have fin:∀ {h':Heap} {e:Addr},(∃ o,h'.get? e=some o/\o.cls=.type "StopIteration")->(∀ c o,c≠z->c≠P1->c≠u->c≠v->s.heap.get? c=some o->h'.get? c=some o) ->
   wpAny (model prog w) A (do if (<- isInstance (.ref e) (.type "StopIteration")) then pure none else throw (.ref e)) Q E { s with heap:=h' }:=λ{h' e} he hk=>by
  obtain ⟨o,ho,hc⟩:=he;exact wpAny_bind (wpAny_isInstance (T:= "StopIteration") (b:=true) ⟨o,ho,hc⟩ isSubtype_stop (wpAny_pure (q _ hk)))
 cases ex:xs[k]? with
 | none =>
  refine show wpAny _ _ (Builtin.SmallTypes.nextOf (.ref u) >>= _) _ _ _ from wpAny_bind (nh hh (wu.extBut sa.extBut D.i1z) (tl.extBut sa.extBut D.l1z) ex λhb e sb he=>?_);have Zb:IsZip hb z P0 P1 .ellipsis:=sb _ _ D.i1z.symm Za;have ne:=stop he Zb;obtain ⟨o,ho,hc⟩:=he;exact wpAny_setField_rec Zb (by simp) λhd _ sd=>fin ⟨o,sd.extBut _ _ ne ho,hc⟩ λc o n1 _ n3 _ e=>sd.extBut _ _ n1 (sb _ _ n3 (sa.extBut _ _ n1 e))
 | some x =>
  have ey:ys[k]?=none:=no.resolve_left (by rw [ex];simp);refine show wpAny _ _ (Builtin.SmallTypes.nextOf (.ref u) >>= _) _ _ _ from wpAny_bind (im (wu.extBut sa.extBut D.i1z) (tl.extBut sa.extBut D.l1z) ex λhb wb sb=>wpAny_pure ?_);have Ib:IsPair hb P1 a b:=sb.extBut _ _ D.TOi1 (sa.extBut _ _ D.TOz I1);refine wpAny_bind (wpAny_seqItems Ib rfl (wpAny_bind (wpAny_updateSeq_pair Ib λhc Ic sc=>wpAny_bind (wpAny_letGo (wpAny_pure (wpAny_bind (wpAny_bind (wpAny_onRaise ?_))))))));refine show wpAny _ _ (Builtin.SmallTypes.nextOf (.ref v) >>= _) _ _ _ from wpAny_bind (nh hh (((wv.extBut sa.extBut D.i2z).extBut sb.extBut D.i12.symm).extBut sc.extBut D.TOi2.symm) (((tm.extBut sa.extBut D.l2z).extBut sb.extBut D.l2i1).extBut sc.extBut D.l2TO) ey λhd e sd he=>?_);have Zd:IsZip hd z P0 P1 .ellipsis:=sd _ _ D.i2z.symm (sc.extBut _ _ D.TOz.symm (sb.extBut _ _ D.i1z.symm Za));have ne:=stop he Zd;obtain ⟨o,ho,hcl⟩:=he;exact wpAny_setField_rec Zd (by simp) λhf _ sf=>fin ⟨o,sf.extBut _ _ ne ho,hcl⟩ λc o n1 n2 n3 n4 e=>sf.extBut _ _ n1 (sd _ _ n4 (sc.extBut _ _ n2 (sb.extBut _ _ n3 (sa.extBut _ _ n1 e))))
theorem yR (hh:A.handled=none) (z P0 P1 u v l m:Addr) (D:ZipApart z P0 P1 u v l m) (xs ys:Array Value) :
  WalksT prog w A z [z,P0,P1,u,v,l,m] [z,P1,u,v] (min xs.size ys.size) (λi vals=>∃ x y,xs[i]?=some x/\ys[i]?=some y/\vals=#[x,y])
   (λi h=>IsZip h z P0 P1 .none/\IsPair h P0 (.ref u) (.ref v)/\(∃ a b,IsPair h P1 a b)/\IsTupIter h u l i/\IsTupIter h v m i/\IsTup h l xs/\IsTup h m ys)
   (λi T h=>IsZip h z P0 P1 (rawInt T)/\IsPair h P0 (.ref u) (.ref v)/\(∃ a b,IsPair h P1 a b)/\IsTupIter h u l (i+1)/\IsTupIter h v m (i+1)/\IsTup h l xs/\IsTup h m ys/\T≠z/\T≠P1/\T≠u/\T≠v) where
 sub:=λc hc=>by
  simp only [aAn,aAR,or_false] at hc ⊢;rcases hc with h | h | h | h <;> simp [h]
 frame:=λi h h' st kk=>by
  obtain ⟨Z,I0,⟨a,b,I1⟩,⟨o1,e1,r1⟩,⟨o2,e2,r2⟩,⟨o3,e3,r3⟩,⟨o4,e4,r4⟩⟩:=st;exact ⟨kk z (by simp) _ Z,kk P0 (by simp) _ I0,⟨a,b,kk P1 (by simp) _ I1⟩,⟨o1,kk u (by simp) _ e1,r1⟩,⟨o2,kk v (by simp) _ e2,r2⟩,⟨o3,kk l (by simp) _ e3,r3⟩,⟨o4,kk m (by simp) _ e4,r4⟩⟩
 item:=λi s Q E hi st q=>by
  obtain ⟨Z,I0,⟨a,b,I1⟩,wu,wv,tl,tm⟩:=st;have h1:i < xs.size:=(3)
  have h2:i < ys.size:=(3)
  refine uR D Z I0 I1 wu wv tl tm (aBi h1) (aBi h2) λh' a1 a2 a3 a4 a5 a6 kk=>?_;have far:∀ {c o},s.heap.get? c=some o->s.heap.objs.size≠c:=λe=>aBK (aAu e);obtain ⟨o1,e1,_⟩:=wu;obtain ⟨o2,e2,_⟩:=wv;obtain ⟨o3,e3,r3⟩:=tl;obtain ⟨o4,e4,r4⟩:=tm;refine q s.heap.objs.size #[xs[i],ys[i]] h' s.toks ⟨_,_,aBi h1,aBi h2,rfl⟩ (aAo _) ⟨_,a5,rfl,_,rfl⟩ ⟨a1,kk _ _ D.TIz D.TITO D.TIi1 D.TIi2 I0,⟨_,_,a2⟩,a3,a4,⟨o3,kk _ _ D.l1z D.l1TO D.l1i1 D.l1i2 e3,r3⟩,⟨o4,kk _ _ D.l2z D.l2TO D.l2i1 D.l2i2 e4,r4⟩,far Z,far I1,far e1,far e2⟩ λc o hc e=>?_;simp only [aAn,aAR,or_false,not_or] at hc;exact kk c o hc.1 hc.2.1 hc.2.2.1 hc.2.2.2 e
 go:=λelts k pos i T s Q E st q=>by
  obtain ⟨Z,I0,⟨a,b,I1⟩,wu,wv,tl,tm,_⟩:=st;refine wpAny_letOwnedTupleGo_zip Z λh' Z' s'=>q h' ⟨Z',s'.extBut _ _ D.TIz I0,⟨a,b,s'.extBut _ _ D.TOz I1⟩,wu.extBut s'.extBut D.i1z,wv.extBut s'.extBut D.i2z,tl.extBut s'.extBut D.l1z,tm.extBut s'.extBut D.l2z⟩ λc o hc e=>?_;simp only [aAn,aAR,or_false,not_or] at hc;exact s'.extBut _ _ hc.1 e
 apart:=λi T h st hT=>by
  obtain ⟨_,_,_,_,_,_,_,n1,n2,n3,n4⟩:=st;simp only [aAn,aAR,or_false] at hT;rcases hT with h | h | h | h
  ·exact n1 h
  ·exact n2 h
  ·exact n3 h
  ·exact n4 h
 done:=λs Q E st q=>by
  obtain ⟨Z,I0,⟨a,b,I1⟩,wu,wv,tl,tm⟩:=st;have no:xs[min xs.size ys.size]?=none\/ys[min xs.size ys.size]?=none:=by
   rcases Nat.le_total xs.size ys.size with h | h
   ·exact .inl (aBY (3))
   ·exact .inr (aBY (3))
  refine wm hh D Z I0 I1 wu wv tl tm no λh' kk=>q h' s.toks λc o hc e=>?_;simp only [aAn,aAR,or_false,not_or] at hc;exact kk c o hc.1 hc.2.1 hc.2.2.1 hc.2.2.2 e
 self:=λi s Q E st q=>wpAny_pyIter_zip st.1 q
abbrev zT1 (h:Heap) (l:Addr):Heap:=h.push { cls:=.type "tuple_iterator",data:=.fields #[.ref l,.int 0 0] }
abbrev zT2 (h:Heap) (l m:Addr):Heap:=(zT1 h l).push { cls:=.type "tuple_iterator",data:=.fields #[.ref m,.int 0 0] }
abbrev zT3 (h:Heap) (l m:Addr):Heap:=(zT2 h l m).push { cls:=.type "tuple",data:=.seq #[.ref h.objs.size,.ref (zT1 h l).objs.size] }
abbrev zT4 (h:Heap) (l m:Addr):Heap:=(zT3 h l m).push { cls:=.type "tuple",data:=.seq #[.none,.none] }
abbrev zT5 (h:Heap) (l m:Addr):Heap:=(zT4 h l m).push { cls:=.type "zip",data:=.fields #[.none,.bool false,.bool false,.ref (zT2 h l m).objs.size,.ref (zT3 h l m).objs.size] }
theorem rV (l m:Addr) (xs ys:Array Value) :
  Meets (Builtin.«zip.__new__» ⟨[.type "zip",.ref l,.ref m],[]⟩) (λ_ R s=>IsTup s.heap l xs/\IsTup s.heap m ys/\R (.ok (.ret (.ref (zT4 s.heap l m).objs.size))) { s with heap:=zT5 s.heap l m }) :=
 .of_wp λprog w A R s h=>by
  obtain ⟨hp,g,d,tk,os⟩:=s;obtain ⟨tl,tm,h⟩:=h;have sub:=sub_zip;have T1:IsTup (Shared.heap ⟨hp,g,d,tk,os⟩) l xs:=tl;have T2:IsTup (Shared.heap ⟨hp.push { cls:=.type "tuple_iterator",data:=.fields #[.ref l,.int 0 0] },g,d,tk,os⟩) m ys:=IsTup.push tm _
  wp_walk using iter_tuple T1,iter_tuple T2
  exact ⟨_,rfl,h⟩
theorem uS {l m:Addr} {xs ys:Array Value} {Q:Value->Shared->Prop} (tl:IsTup s.heap l xs) (tm:IsTup s.heap m ys)
  (q:∀ h',IsZip h' (s.heap.objs.size+4) (s.heap.objs.size+2) (s.heap.objs.size+3) .none->IsPair h' (s.heap.objs.size+2) (.ref s.heap.objs.size) (.ref (s.heap.objs.size+1))->IsPair h' (s.heap.objs.size+3) .none .none ->
   IsTupIter h' s.heap.objs.size l 0->IsTupIter h' (s.heap.objs.size+1) m 0->h'.objs.size=s.heap.objs.size+5->(∀ c o,s.heap.get? c=some o->h'.get? c=some o)->Q (.ref (s.heap.objs.size+4)) { s with heap:=h' }) :
  wpAny (model prog w) A (call (.type "zip") [.ref l,.ref m]) Q E s:=by
 refine callType_new F.called_zip (by decide) (F.typeCall_zip_2 _ _) (F.newCall_zip_2 _ _) (λobj=>F.args_object_init_3 obj _ _) F.entry_zip_new (rV l m xs ys) ⟨tl,tm,?_⟩;have n1:(zT1 s.heap l).objs.size=s.heap.objs.size+1:=aA4 ..;have n2:(zT2 s.heap l m).objs.size=s.heap.objs.size+2:=by rw [aA4,n1]
 have n3:(zT3 s.heap l m).objs.size=s.heap.objs.size+3:=by rw [aA4,n2]
 have n4:(zT4 s.heap l m).objs.size=s.heap.objs.size+4:=by rw [aA4,n3]
 have n5:(zT5 s.heap l m).objs.size=s.heap.objs.size+5:=by rw [aA4,n4]
 have e5:(zT5 s.heap l m).get? (zT4 s.heap l m).objs.size=some _:=aAA _ rfl;have e4:(zT5 s.heap l m).get? (zT3 s.heap l m).objs.size=some _:=aAe _ (aAA _ rfl);have e3:(zT5 s.heap l m).get? (zT2 s.heap l m).objs.size=some _:=aAe _ (aAe _ (aAA _ rfl));have e2:(zT5 s.heap l m).get? (zT1 s.heap l).objs.size=some _:=aAe _ (aAe _ (aAe _ (aAA _ rfl)));have e1:(zT5 s.heap l m).get? s.heap.objs.size=some _:=aAe _ (aAe _ (aAe _ (aAe _ (aAA _ rfl))));refine show _/\_ from ?_;rw [n2,n3,n4] at e5;rw [n1,n2] at e3;rw [n3] at e4;rw [n1] at e2;rw [n4];exact ⟨⟨_,e5,rfl⟩,q _ e5 e3 e4 ⟨_,e1,rfl,rfl⟩ ⟨_,e2,rfl,rfl⟩ n5 λc o x=>aAe _ (aAe _ (aAe _ (aAe _ (aAe _ x))))⟩
end
def qi (K:W.Frag) (a b:Addr):It :=
 ⟨λi H=>∃ xs ys x y,SqT K H a xs/\SqT K H b ys/\xs[i]?=some x/\ys[i]?=some y,
  λi H v H'=>∃ T x y,v=.ref T/\H T=none/\H'=upd H T (.tup [x,y])/\(∀ xs,SqT K H a xs->xs[i]?=some x)/\(∀ ys,SqT K H b ys->ys[i]?=some y),
  λi H=>∃ xs ys,SqT K H a xs/\SqT K H b ys/\min xs.length ys.length=i⟩
def BW (z TI TO i1 i2 l1 l2:Addr) (i:Nat) (h:Heap):Prop:=IsZip h z TI TO .none/\IsPair h TI (.ref i1) (.ref i2)/\(∃ a b,IsPair h TO a b)/\IsTupIter h i1 l1 i/\IsTupIter h i2 l2 i
theorem uT {P:Program} {w:World} {K:W.Frag} {elts:List Expr} {k:Nat} {pos:Pos} (z TI TO i1 i2 l1 l2:Addr) (D:ZipApart z TI TO i1 i2 l1 l2) :
  Turn P w K (.Tuple elts k pos) (qi K l1 l2) [z,TI,TO,i1,i2] z (BW z TI TO i1 i2 l1 l2) where
 mem:=by simp
 obj:=λi h st b hb=>by
  obtain ⟨hz,hTI,⟨a,c,hTO⟩,⟨o1,e1,c1,d1⟩,⟨o2,e2,c2,d2⟩⟩:=st;simp only [aAn,aAR,or_false] at hb;rcases hb with rfl | rfl | rfl | rfl | rfl
  ·exact ⟨_,hz,λv q=>by cases q⟩
  ·exact ⟨_,hTI,λv q=>by cases q⟩
  ·exact ⟨_,hTO,λv q=>by cases q⟩
  ·exact ⟨o1,e1,λv q=>by rw [d1] at q;cases q⟩
  ·exact ⟨o2,e2,λv q=>by rw [d2] at q;cases q⟩
 keep:=λi h h' st kk=>by
  obtain ⟨hz,hTI,⟨a,c,hTO⟩,⟨o1,e1,r1⟩,⟨o2,e2,r2⟩⟩:=st;exact ⟨kk z (by simp) _ hz,kk TI (by simp) _ hTI,⟨a,c,kk TO (by simp) _ hTO⟩,⟨o1,kk i1 (by simp) _ e1,r1⟩,⟨o2,kk i2 (by simp) _ e2,r2⟩⟩
 item:=by
  intro X hP hw hK hc i pins s σ H E I hf st hg;subst hP hw hK;obtain ⟨xs,ys,x,y,hx,hy,ex,ey⟩:=hg;obtain ⟨its,rv,p,hz⟩:=I.tuple hx;obtain ⟨its2,rv2,p2,hz2⟩:=I.tuple hy;obtain ⟨s1,s2,s3,s4,s5⟩:=st;have W:=yR (prog:=X.prog) (w:=X.w) (I.ok.hd hc) z TI TO i1 i2 l1 l2 D its.toArray its2.toArray;have li:i < xs.length:=(aAj.mp ex).1;have li2:i < ys.length:=(aAj.mp ey).1;have el:=rv.length;have el2:=rv2.length;have wsub:∀ b∈[z,TO,i1,i2],b∈[z,TI,TO,i1,i2]:=λb hb=>by
   simp only [aAn,aAR,or_false] at hb ⊢;rcases hb with rfl | rfl | rfl | rfl <;> simp
  refine W.item i s _ _ (by simp only [aAw];lia) ⟨s1,s2,s3,s4,s5,p,p2⟩ λT vals h' tk hv hT hTup hm hk=>?_;obtain ⟨u,v,eu,ev,rfl⟩:=hv;obtain ⟨u',eu',ru⟩:=rv.get ex;obtain ⟨v',ev',rv'⟩:=rv2.get ey;have e1:u=u':=by
   have:its[i]?=some u:=by simpa using eu
   rw [eu'] at this;exact (Option.some.inj this).symm
  have e2:v=v':=by
   have:its2[i]?=some v:=by simpa using ev
   rw [ev'] at this;exact (Option.some.inj this).symm
  subst e1 e2;have hTn:H T=none:=I.hok.fresh hT;have I1:Inv X pins σ (upd H T (.tup [x,y])) { s with heap:=h',toks:=tk }:=I.turnedT hk (λb hb=>hf b (wsub b hb)) hT ⟨by show 2<=sizeLine;decide,[u,v],.cons ru (.cons rv' .nil),hTup⟩;have ap:=W.apart i T h' hm;have f1:∀ b∈[z,TO,i1,i2],iK X pins (upd H T (.tup [x,y])) b:=λb hb=>by
   obtain ⟨f0,f1⟩:=hf b (wsub b hb);exact ⟨by rw [ac (λe:b=T=>ap (by rw [<- e];exact hb))];exact f0,f1⟩
  refine ⟨_,rfl,W.go elts k pos i T _ _ _ hm λh'' st2 hk2=>?_⟩;obtain ⟨t1,t2,t3,t4,t5,_,_⟩:=st2;refine ⟨.ref T,_,Inv.turnedL (s:={ s with heap:=h',toks:=tk }) (t':=tk) I1 hk2 f1,rfl,⟨T,x,y,rfl,hTn,rfl,λzs q=>by rw [I.tuple_inj q hx];exact ex,λzs q=>by rw [I.tuple_inj q hy];exact ey⟩,⟨t1,t2,t3,t4,t5⟩,λb hb=>?_⟩;have fb:=(hf b hb).1
  by_cases e:b=T
  ·subst e;have lti:s.heap.objs.size > TI:=aAu s2;simp only [aAn,aAR,or_false] at hb;rcases hb with rfl | rfl | rfl | rfl | rfl
   ·exact absurd (by simp) ap
   ·exact absurd lti (Nat.not_lt.mpr hT)
   ·exact absurd (by simp) ap
   ·exact absurd (by simp) ap
   ·exact absurd (by simp) ap
  ·rw [ac e];exact fb
 done:=by
  intro X hP hw hK hc i pins s σ H E I hf st hg;subst hP hw hK;obtain ⟨xs,ys,hx,hy,hi⟩:=hg;obtain ⟨its,rv,p,hz⟩:=I.tuple hx;obtain ⟨its2,rv2,p2,hz2⟩:=I.tuple hy;obtain ⟨s1,s2,s3,s4,s5⟩:=st;have W:=yR (prog:=X.prog) (w:=X.w) (I.ok.hd hc) z TI TO i1 i2 l1 l2 D its.toArray its2.toArray;have el:=rv.length;have el2:=rv2.length;have en:min its.toArray.size its2.toArray.size=i:=by simp only [aAw];lia
  have wsub:∀ b∈[z,TO,i1,i2],b∈[z,TI,TO,i1,i2]:=λb hb=>by
   simp only [aAn,aAR,or_false] at hb ⊢;rcases hb with rfl | rfl | rfl | rfl <;> simp
  refine W.done s _ _ ?_ λh' tk hk=>⟨rfl,I.turnedL hk λb hb=>hf b (wsub b hb)⟩;rw [en];exact ⟨s1,s2,s3,s4,s5,p,p2⟩
 self:=λ_ _ _ _ _ st h=>wpAny_pyIter_zip st.1 h
section
variable {X:Cx} {elts:List Expr} {k:Nat} {tpos:Pos}
def Iq (K:W.Frag) (ta:TA):TI:=λσ H R=>ta σ H λvs H1=>∃ a b,vs=[.ref a,.ref b]/\(∃ xs,SqT K H1 a xs)/\(∃ ys,SqT K H1 b ys)/\R (qi K a b) H1
theorem yg {a b:Expr} {ta:TA} {p pos:Pos} (hg:Gl X "zip") (hm:X.mg "zip" = none) (ha:PA X [a,b] ta) (hs:starEach [a,b] X.env=[(false,eval a X.env),(false,eval b X.env)]:=by rfl) (hs2:starEach [b] X.env=[(false,eval b X.env)]:=by rfl) :
  PI X (.Tuple elts k tpos) (.Call (.Name "zip" p) [a,b] [] pos) (Iq X.K ta):=by
 intro pins s σ H R I h;refine Call_ (jw I hg hm boot_zip (PyProof.Rows.callWith_type1 (thn (ha pos pins s σ H _ I h) λus s1 ⟨vs,H1,I1,r1,q1⟩=>?_) (by rw [hs,hs2]) (by rw [hs2];rfl)));obtain ⟨l1,l2,e,⟨xs,hx⟩,⟨ys,hy⟩,q⟩:=q1;subst e;obtain ⟨u,v,rfl,ru,rv⟩:=r1.two
 cases ru
 cases rv
 obtain ⟨its,rr,pl,hz⟩:=I1.tuple hx;obtain ⟨its2,rr2,pl2,hz2⟩:=I1.tuple hy;have lt1:l1 < s1.heap.objs.size:=by obtain ⟨o,e,_⟩:=pl;exact aAu e
 have lt2:l2 < s1.heap.objs.size:=by obtain ⟨o,e,_⟩:=pl2;exact aAu e
 refine uS pl pl2 λh' z1 z2 z3 z4 z5 zs kk=>?_;have I2:Inv X pins σ H1 { s1 with heap:=h' }:=I1.kept (t':=s1.toks) kk;refine wpAny_pyIter_zip z1 ?_;refine ⟨_,_,_,_,H1,rfl,I2,uT _ _ _ _ _ l1 l2 ?_,⟨z1,z2,⟨_,_,z3⟩,z4,z5⟩,λb hb=>?_,q⟩
 ·have lt1':s1.heap.objs.size > l1:=lt1;have lt2':s1.heap.objs.size > l2:=lt2
  constructor <;> (show ¬ (@Eq Nat _ _)) <;> lia
 ·have:s1.heap.objs.size<=b:=by
   simp only [aAn,aAR,or_false] at hb;rcases hb with rfl | rfl | rfl | rfl | rfl <;> lia
  exact I1.fpOk this (I1.hok.fresh this)
end
theorem uU {K:W.Frag} {a b l:Addr} {xs ys:List V} {g:TG} {tb:List V->Addr->St->Hp->(List V->St->Hp->Prop)->Prop} {Q:VK} {σ0:St} {H0:Hp} (Pv:Nat->List V->St->Hp->Prop) (h0:Pv 0 [] σ0 H0)
  (hla:∀ i us σ H,Pv i us σ H->SqT K H a xs/\SqT K H b ys)
  (hs:∀ i x y T us σ H (N:List V->St->Hp->Prop),xs[i]?=some x->ys[i]?=some y->H T=none->Pv i us σ H->(∀ us' σ' H',Pv (i+1) us' σ' H'->N us' σ' H')->g (.ref T) σ (upd H T (.tup [x,y])) λσ2 H2=>tb us l σ2 H2 N)
  (hd:∀ us σ H,Pv (min xs.length ys.length) us σ H->Q (.ref l) H) :
  ∃ W:Nat->Nat->List V->St->Hp->Prop,(∃ m,W 0 m [] σ0 H0)/\∀ i m us σ' H',W i m us σ' H'->((qi K a b).stop i H'/\Q (.ref l) H') \/
   ((qi K a b).go i H'/\∀ x H'',(qi K a b).yld i H' x H''->g x σ' H'' λσ2 H2=>tb us l σ2 H2 λus' σ3 H3=>∃ m',m' < m/\W (i+1) m' us' σ3 H3):=by
 refine ⟨λi m us σ H=>m=min xs.length ys.length - i/\i<=min xs.length ys.length/\Pv i us σ H,⟨_,rfl,aAE _,h0⟩,?_⟩;rintro i m us σ H ⟨rfl,hi,p⟩;obtain ⟨sa,sb⟩:=hla i us σ H p
 by_cases hlt:i < min xs.length ys.length
 ·obtain ⟨x,ex⟩:∃ x,xs[i]?=some x:=⟨_,aAv (3)⟩;obtain ⟨y,ey⟩:∃ y,ys[i]?=some y:=⟨_,aAv (3)⟩;refine .inr ⟨⟨xs,ys,x,y,sa,sb,ex,ey⟩,λv H' q=>?_⟩;obtain ⟨T,x',y',rfl,hT,rfl,q1,q2⟩:=q;have e1:=q1 xs sa;have e2:=q2 ys sb;exact hs i x' y' T us σ H _ e1 e2 hT p λus' σ' H' w=>⟨_,(3),rfl,hlt,w⟩
 ·have e:i=min xs.length ys.length:=(3)
  subst e;exact .inl ⟨⟨xs,ys,sa,sb,rfl⟩,hd us σ H p⟩
section
variable {X:Cx} {K:W.Frag}
theorem nj:OpR X (compareOp .LtE) (λx y H Q=>∃ i j,x=.str i/\y=.str j/\Q (.bl (!decide (j.cps.toList < i.cps.toList))) H):=by
 intro pins s σ H x y v u Q I rx ry h;obtain ⟨i,j,rfl,rfl,q⟩:=h;obtain ⟨t,rfl⟩:=rx;obtain ⟨t',rfl⟩:=ry;exact PySem.P.le_str (aL I q rfl)
end
section
variable {prog:Program} {w:World} {A:Around} {E:Value->Shared->Prop} {s:Shared}
end
section
variable {X:Cx}
def DicQ (K:W.Frag) (H:Hp) (p:Addr) (fs:List (Str×Dt)):Prop :=
 ∃ kvs,H p=some (.dK kvs)/\kvs.map (·.1)=fs.map (λp=>(Sum.inr p.1:Key))/\∀ z,(sW fs z=none->hV kvs (Sum.inr z:Key)=none)/\∀ d,sW fs z=some d->∃ v,hV kvs (Sum.inr z:Key)=some v/\IsP K H d v
theorem DicQ.p {K:W.Frag} {H:Hp} {p:Addr} {fs:List (Str×Dt)} (h:DicQ K H p fs):Jn K H p fs:=by
 obtain ⟨kvs,e,_,k⟩:=h;exact ⟨kvs,e,k⟩
end
section
variable {prog:Program} {w:World} {A:Around} {E:Value->Shared->Prop} {s:Shared}
end
section
variable {prog:Program} {w:World} {A:Around} {E:Value->Shared->Prop} {s:Shared}
end
section
variable {X:Cx} {pins:List (Addr×Obj)} {σ:St} {H H':Hp} {s:Shared} {h':Heap}
end
abbrev Ir (j tk:Nat) (x:Value):Obj:={ cls:=.type "tuple",data:=.seq #[.int j tk,x] }
inductive Rws (h:Heap) (lo:Nat):Nat->List V->List (Addr×HO)->Prop
 | nil {j:Nat}:Rws h lo j [] []
 | cons {j T tk:Nat} {x:Value} {v:V} {vs:List V} {r:List (Addr×HO)}:lo < T->RelV v x->h.get? T=some (Ir j tk x)->Rws h lo (j+1) vs r->Rws h lo j (v :: vs) ((T,plO [.int j,v] [.int j tk,x]) :: r)
theorem Rws.length {h:Heap} {lo:Nat}:∀ {j:Nat} {vs:List V} {r:List (Addr×HO)},Rws h lo j vs r->r.length=vs.length
 | _,_,_,.nil=>rfl
 | _,_,_,.cons _ _ _ r=>by rw [aAb,aAb,r.length]
section
variable {X:Cx}
end
section
variable {prog:Program} {w:World} {A:Around} {E:Value->Shared->Prop} {s:Shared}
end
section
variable {X:Cx}
end
section
variable {X:Cx} {tg:Expr} {pins:List (Addr×Obj)} {σ:St} {H:Hp} {s:Shared}
end
section
variable {X:Cx}
end
section
variable {a:Addr} {ob:Obj} {kvs:List (Key×V)} {g:TG} {l:Addr} {σ0:St} {H0:Hp} {R:Hp->Prop} {tb:List V->Addr->St->Hp->(List V->St->Hp->Prop)->Prop}
end
section
variable {X:Cx}
end
section
variable {prog:Program} {w:World} {A:Around} {E:Value->Shared->Prop} {s:Shared}
end
section
variable {X:Cx}
end
section
variable {X:Cx} {K:W.Frag}
end
section
variable {X:Cx} {K:W.Frag}
inductive JSlP (K:W.Frag) (x:V) (lo hi:Option Int) (H:Hp) (Q:VK):Prop
 | mk (l:List Dt):(IsP K H (.tup l) x)->(∀ v H',Same H H'->IsP K H' (.tup (uJ l lo hi)) v->Q v H')->JSlP K x lo hi H Q
def Jq (K:W.Frag):V->Option Int->Option Int->Hp->VK->Prop:=λx lo hi H Q=>JSlP K x lo hi H Q
inductive JLenS (K:W.Frag) (xs:List V) (H:Hp) (Q:VK):Prop
 | mk (p:Addr) (ys:List V):(xs=[.ref p])->((SqL K H p ys\/SqT K H p ys))->(Q (.int ys.length) H)->JLenS K xs H Q
def Iu (K:W.Frag):List V->Hp->VK->Prop:=λxs H Q=>JLenS K xs H Q
def yh (K:W.Frag):List V->Hp->VK->Prop:=λxs H Q=>∃ p ys,xs=[.ref p]/\(SqL K H p ys\/SqT K H p ys)/\∀ l,H l=none->Q (.ref l) (upd H l (.lst ys))
def BX (K:W.Frag):List V->Hp->VK->Prop:=λxs H Q=>∃ (p:Addr) (ss:List Str),xs=[.ref p]/\SqL K H p (ss.map V.str)/\ss.length < 64/\∀ a ss',H a=none->ss'.Perm ss->sortedS ss'=true->Q (.ref a) (upd H a (.lst (ss'.map V.str)))
def Jr (K:W.Frag):List V->Hp->VK->Prop:=λxs H Q=>∃ p ys,xs=[.ref p]/\true=true/\SqL K H p (bls ys)/\Q (.bl (ys.all id)) H
theorem eW (hK:X.K=K):SlR X (Jq K):=by
 subst hK;intro pins s σ H x v vl vu lo hi sl Q I rx hs pl pu h;obtain ⟨l,a,q⟩:=h;exact yd _ _ _ _ _ _ _ _ _ _ _ _ I rx hs pl pu ⟨l,a,q⟩
theorem iV (hK:X.K=K):SlR X (HX K):=by subst hK;exact xT
theorem aq (hK:X.K=K):OpR X (binaryOp .Add) (sY K):=by subst hK;exact yf
theorem bA (hK:X.K=K):bJ X (.builtin "len") (Iu K):=by
 subst hK;intro pins s σ H xs us Q I r h;obtain ⟨x,l,a,b,q⟩:=h;exact iO _ _ _ _ _ _ _ I r ⟨x,l,a,b,q⟩
theorem ia (hK:X.K=K):bJ X (.type "list") (yh K):=by subst hK;exact nZ
theorem kg (hK:X.K=K):bJ X (.builtin "sorted") (BX K):=by subst hK;exact rS
theorem nk (hK:X.K=K) (hc:X.calm=true):bJ X (.builtin "all") (Jr K):=by
 subst hK;intro pins s σ H xs us Q I r h;obtain ⟨p,ys,rfl,_,hs,q⟩:=h;exact vR _ _ _ _ _ _ _ I r ⟨p,ys,rfl,hc,hs,q⟩
end
section
variable {K:W.Frag} {a b l:Addr} {xs ys:List V} {g:TG} {tb:List V->Addr->St->Hp->(List V->St->Hp->Prop)->Prop} {R:Hp->Prop} {σ0:St} {H0:Hp}
theorem rW (Pv:Nat->List V->St->Hp->Prop) (h0:Pv 0 [] σ0 H0) (hla:∀ i us σ H,Pv i us σ H->SqT K H a xs/\SqT K H b ys)
  (hs:∀ i x y T us σ H (N:List V->St->Hp->Prop),xs[i]?=some x->ys[i]?=some y->H T=none->Pv i us σ H->(∀ us' σ' H',Pv (i+1) us' σ' H'->N us' σ' H')->g (.ref T) σ (upd H T (.tup [x,y])) λσ2 H2=>tb us l σ2 H2 N)
  (hd:∀ us σ H,Pv (min xs.length ys.length) us σ H->R H) :
  ∃ W:Nat->Nat->List V->St->Hp->Prop,(∃ m,W 0 m [] σ0 H0)/\∀ i m us σ' H',W i m us σ' H'->((qi K a b).stop i H'/\R H') \/
   ((qi K a b).go i H'/\∀ x H'',(qi K a b).yld i H' x H''->g x σ' H'' λσ2 H2=>tb us l σ2 H2 λus' σ3 H3=>∃ m',m' < m/\W (i+1) m' us' σ3 H3):=uU (Q:=λ_ H=>R H) Pv h0 hla hs hd
end
section
variable {X:Cx} {K:W.Frag}
end
end L2
namespace PySem
open Sem (wp)
namespace F
end F
section
variable {prog:Program} {w:World} {K:Type} [DecidableEq K] {kd:KeyKind prog w K} {A:Around} {E:Value->Shared->Prop}
end
end PySem
namespace L2
open PySem PySem.Spec PyProof.Rows
def kDt:Key->Dt
 | .inl i=>.int i
 | .inr z=>.str z
theorem yi {K:W.Frag} {H:Hp} {k:Key} {v:V} (h:IsP K H (kDt k) v):v=kV k:=by
 cases k <;> (cases h;rfl)
theorem nn {K:W.Frag} {H:Hp}:∀ {ks:List Key} {xs:List V},IsPs K H (ks.map kDt) xs->xs=ks.map kV
 | [],_,h=>by cases h;rfl
 | k :: ks,_,h=>by
  cases h with
  | cons h r=>rw [yi h,nn r];rfl
def yS (P:Program) (w:World) (p:Addr) (xs:List (List Key×Addr×Value)) (h:Heap):Prop :=
 ∃ o es ep,h.get? p=some o/\o.ExactDict/\o.data=.dict es ep/\es.toList=xs.map (entryOfKey (tupleKind (a8 P w)))/\(xs.map (·.1)).Nodup
def DicT (P:Program) (w:World) (K:W.Frag) (H:Hp) (p:Addr) (kvs:List (List Key×Dt)):Prop :=
 (p == sysModules)=false/\∃ xs:List (List Key×Addr×Value),H p=some (.ext (yS P w p xs)) /\
  Paired (λ(a:List Key×Dt) (b:List Key×Addr×Value)=>a.1=b.1/\IsP K H (.tup (a.1.map kDt)) (.ref b.2.1)/\∃ v,RelV v b.2.2/\IsP K H a.2 v) kvs xs
section
variable {X:Cx} {pins:List (Addr×Obj)} {σ:St} {H:Hp} {s:Shared}
theorem tu (I:Inv X pins σ H s) {ks:List Key} {a:Addr} (h:IsP X.K H (.tup (ks.map kDt)) (.ref a)):IsTupleKey (a8 X.prog X.w) s.heap ks a:=by
 obtain ⟨b,ys,e,ha,_,ra⟩:=h.unref
 cases e
 obtain ⟨its,r,⟨o,h1,h2,n,h3⟩,_⟩:=I.tuple ha;rw [nn ra] at r;exact ⟨o,its.toArray,n,h1,h2,h3,by simpa using jE r⟩
theorem DicT.dict {p:Addr} {kvs:List (List Key×Dt)} (I:Inv X pins σ H s) (h:DicT X.prog X.w X.K H p kvs):(p == sysModules)=false/\∃ xs:List (List Key×Addr×Value),s.heap.DictOfH (tupleKind (a8 X.prog X.w)) p xs /\
  Paired (λ(a:List Key×Dt) (b:List Key×Addr×Value)=>a.1=b.1/\IsP X.K H (.tup (a.1.map kDt)) (.ref b.2.1)/\∃ v,RelV v b.2.2/\IsP X.K H a.2 v) kvs xs:=by
 obtain ⟨e0,xs,e,r⟩:=h;obtain ⟨⟨o,es,ep,h1,h2,h3,h4,h5⟩,_⟩:=(show ObjOk X.prog X.w H s.heap p (.ext (yS X.prog X.w p xs)) from I.hok p _ e);refine ⟨e0,xs,⟨o,es,ep,h1,h2,h3,h4,λy hy=>?_,h5⟩,r⟩;have all:∀ {l:List (List Key×Dt)} {m:List (List Key×Addr×Value)},Paired (λ(a:List Key×Dt) (b:List Key×Addr×Value)=>a.1=b.1/\IsP X.K H (.tup (a.1.map kDt)) (.ref b.2.1)/\∃ v,RelV v b.2.2/\IsP X.K H a.2 v) l m->∀ y∈m,IsTupleKey (a8 X.prog X.w) s.heap y.1 y.2.1:=by
  intro l m q
  induction q with
  | nil=>intro y hy;exact nomatch hy
  | @cons p q ps qs hq t ih =>
   intro y hy;rcases aAn.mp hy with rfl | hy
   ·rw [<- hq.1];exact tu I hq.2.1
   ·exact ih y hy
 exact all r y hy
end
end L2
namespace PySem
open Sem (wp)
section
variable {prog:Program} {w:World} {K:Type} [DecidableEq K] {knd:HeapKind prog w K} {A:Around} {E:Value->Shared->Prop} {s:Shared}
end
end PySem
namespace L2
open PySem PySem.Spec PyProof.Rows
section
variable {X:Cx} {pins:List (Addr×Obj)} {σ:St} {H:Hp} {s:Shared}
end
theorem u2 {A:Around} (h:A.units+64 < cLine):A.units+2 < cLine:=(3)
section
variable {X:Cx} {o e f:Expr} {apos cpos:Pos} {td ty tx:TE}
end
end L2
namespace PySem
open Sem (wp)
open PyProof.Rows
section
variable {prog:Program} {w:World} {A:Around} {E:Value->Shared->Prop} {s:Shared} {δ:Type} {R:δ->Value->Prop} {h₀:Heap} {a:Addr} {D:List (Str×δ)} {k:Str} {tk:Tok}
theorem gj {Q:Option Value->Shared->Prop} (T:KTD.TabOf R h₀ a D) (kp:∀ b o,h₀.get? b=some o->s.heap.get? b=some o) (q1:∀ d v,KTD.datumAt k D=some d->R d v->Q (some v) { s with toks:=s.toks+1 })
  (q2:KTD.datumAt k D=none->Q none { s with toks:=s.toks+1 }):wpAny (model prog w) A (dictGet a (.str k tk)) Q E s:=by
 obtain ⟨_,o,es,ep,ho0,hc,hd,hr⟩:=T;have ho:=kp _ _ ho0;obtain ⟨l⟩:=es;unfold dictGet
 try with_reducible refine wpAny_holding ?_
 refine wpAny_bind (wpAny_pyHash_str (wpAny_bind (KTD.kt_dictFind_strs (s:={ s with toks:=s.toks+1 }) ho hd (by simpa using hr.exact) ?_)));have hq:Q (findBy (λk v=>v.isStr k) (Array.mk l) k) { s with toks:=s.toks+1 }:=by
  rw [show findBy (λk v=>v.isStr k) (Array.mk l) k=(l.find? λe=>e.key.isStr k).map (·.val) by simp [findBy]]
  cases hat:KTD.datumAt k D with
  | none=>rw [show (l.find? λe=>e.key.isStr k).map (·.val)=none by have:=hr.find_none hat;simpa using this];exact q2 hat
  | some d =>
   obtain ⟨v,hv,rv⟩:=hr.find_some hat;rw [show (l.find? λe=>e.key.isStr k).map (·.val)=some v from hv];exact q1 d v hat rv
 rw [findBy_of_findIdx?] at hq
 cases hi:(Array.mk l).findIdx? λe=>e.key.isStr k with
 | some i=>rw [hi] at hq;exact wpAny_bind (wpAny_dictEntries (s:={ s with toks:=s.toks+1 }) ho hd (wpAny_pure hq))
 | none=>rw [hi] at hq;exact wpAny_pure hq
end
end PySem
namespace L2
open PySem PySem.Spec PyProof.Rows
def lA (K:W.Frag) (a:Addr) (D:List (Str×Addr)):Prop:=∀ h,K.In h->KTD.TabOf (λb v=>v=Value.ref b) h a D
theorem Cy {K:W.Frag} {a:Addr} {D:List (Str×Addr)} (e:KTD.tabLook (λb v=>v == Value.ref b) (λb=>K.lookup b) a D=true):lA K a D :=
 λ_ X=>KTD.tab_of_look (L:=λb v=>v == Value.ref b) (R:=λb v=>v=Value.ref b) (λ_ _ z=>eq_of_beq z) (λb o q=>X b o q) e
def ow (K:W.Frag) (b:Addr) (ws:List Str):Bool:=match K.lookup b with
 | some o=>o.cls == .type "tuple" && (match o.data with | .seq vs _=>KTD.strsLook vs.toList ws && decide (vs.size<=1000) | _=>false)
 | none=>false
def wn (K:W.Frag) (D:List (Addr×List Str)):Bool:=D.all λp=>ow K p.1 p.2
def lB (K:W.Frag) (D:List (Addr×List Str)):Prop:=∀ p∈D,∀ H:Hp,SqT K H p.1 (p.2.map V.str)
theorem Iv {K:W.Frag} {D:List (Addr×List Str)} (e:wn K D=true):lB K D:=by
 intro p hp H;have e1:ow K p.1 p.2=true:=aAP.mp e p hp;unfold ow at e1
 split at e1
 ·rename_i o ho
  simp only [aAB] at e1;obtain ⟨e2,e3⟩:=e1
  split at e3
  ·rename_i vs n hd
   simp only [aAB] at e3;exact .inr ⟨o,vs,n,ho,eq_of_beq e2,hd,aBa (ay (of_decide_eq_true e3.2)),jF (KTD.strs_of_look e3.1)⟩
  ·cases e3
 ·cases e1
def gk (k:Str):List (Str×Addr)->Option Addr
 | []=>none
 | (x,b) :: D=>if k=x then some b else gk k D
theorem lC {k:Str}:∀ D:List (Str×Addr),KTD.datumAt k D=gk k D
 | []=>rfl
 | (x,b) :: D=>by
  show (if decide (k=x)=true then some b else KTD.datumAt k D)=_
  by_cases h:k=x
  ·simp [gk,h]
  ·simp [gk,h,lC D]
section
variable {X:Cx}
end
section
variable {prog:Program} {w:World} {A:Around} {E:Value->Shared->Prop} {s:Shared}
end
section
variable {prog:Program} {w:World} {A:Around} {E:Value->Shared->Prop} {s:Shared}
end
section
variable {prog:Program} {w:World} {K:Type} [DecidableEq K] {knd:KeyKind prog w K} {A:Around} {E:Value->Shared->Prop}
end
section
variable {prog:Program} {w:World} {K:Type} [DecidableEq K] {knd:KeyKind prog w K} {A:Around} {E:Value->Shared->Prop}
end
section
variable {X:Cx}
end
section
variable {X:Cx}
end
open AutoSeq1 (wpAny_loadPart')
structure ZOut (lo:Nat) (xs ys acc:Array Value) (h:Heap):Prop where
 pr:∀ (j:Nat) (e:Value),acc[j]?=some e->∃ (T:Addr) (x y:Value),e=.ref T/\lo<=T/\xs[j]?=some x/\ys[j]?=some y/\IsPair h T x y
 ij:∀ (j k:Nat) (e:Value),acc[j]?=some e->acc[k]?=some e->j=k
theorem ZOut.keep {lo:Nat} {xs ys acc:Array Value} {h h':Heap} (Z:ZOut lo xs ys acc h) (k:∀ T x y,lo<=T->IsPair h T x y->IsPair h' T x y):ZOut lo xs ys acc h' :=
 ⟨λj e hj=>by obtain ⟨T,x,y,a,b,c,d,f⟩:=Z.pr j e hj;exact ⟨T,x,y,a,b,c,d,k T x y b f⟩,Z.ij⟩
section
variable {prog:Program} {w:World} {A:Around} {E:Value->Shared->Prop} {s:Shared}
end
section
variable {prog:Program} {w:World} {A:Around} {E:Value->Shared->Prop} {s:Shared}
end
abbrev Iw (x y:Value):Obj:={ cls:=.type "tuple",data:=.seq #[x,y] }
inductive RwZ (h:Heap) (lo:Nat):List V->List V->List (Addr×HO)->Prop
 | nil:RwZ h lo [] [] []
 | cons {T:Nat} {x y:Value} {v u:V} {vs us:List V} {r:List (Addr×HO)}:lo<=T->RelV v x->RelV u y->h.get? T=some (Iw x y)->RwZ h lo vs us r->RwZ h lo (v :: vs) (u :: us) ((T,plO [v,u] [x,y]) :: r)
theorem RwZ.length {h:Heap} {lo:Nat} {vs us:List V} {r:List (Addr×HO)} (R:RwZ h lo vs us r):r.length=vs.length:=by
 induction R with
 | nil=>rfl
 | cons _ _ _ _ _ ih=>rw [aAb,aAb,ih]
section
variable {X:Cx}
end
end L2
namespace L2
open PySem PySem.Spec PyProof.Rows
open AutoSeq1 (wpAny_loadPart')
section
variable {prog:Program} {w:World} {A:Around} {E:Value->Shared->Prop} {s:Shared}
end
section
variable {X:Cx}
end
end L2
namespace L2
open PySem PySem.Spec PyProof.Rows
section
variable {X:Cx} {o e:Expr} {es:List Expr} {to:TE} {t:TA} {name:Str} {apos cpos:Pos} {T id:String} {r:V->List V->Hp->VK->Prop}
end
section
variable {P:Program} {w:World} {A:Around} {E:Value->Shared->Prop} {s:Shared}
end
section
variable {P:Program} {w:World} {A:Around} {R:Result->Shared->Prop} {it:Addr} {fp wr:List Addr} {G:Array GenState->Array GenState->Prop} {n:Nat} {Pt:Nat->Value->Prop} {St:Nat->Shared->Prop}
end
section
variable {P:Program} {w:World} {A:Around} {E:Value->Shared->Prop} {s:Shared}
end
section
variable {P:Program} {w:World} {A:Around} {E:Value->Shared->Prop} {s:Shared}
def SIt (h:Heap) (I a:Addr) (first:Value) (i n ep:Nat):Prop:=∃ o,h.get? I=some o/\o.cls=.type "set_iterator" /\o.data=.fields #[first,.int i 0,.ref a,.int n 0,.int ep 0]
theorem SIt.type {I a:Addr} {first:Value} {i n ep:Nat} (x:SIt s.heap I a first i n ep):s.TypeIs (.ref I) "set_iterator" :=let ⟨o,ho,hc,_⟩:=x;⟨o,ho,hc⟩
theorem SIt.at {h h':Heap} {I a:Addr} {first:Value} {i n ep:Nat} (x:SIt h I a first i n ep) (e:∀ o,h.get? I=some o->h'.get? I=some o):SIt h' I a first i n ep:=let ⟨o,ho,r⟩:=x;⟨o,e _ ho,r⟩
end
section
variable {P:Program} {w:World} {A:Around} {E:Value->Shared->Prop} {s:Shared}
end
section
variable {P:Program} {w:World} {A:Around} {E:Value->Shared->Prop} {s:Shared}
end
section
variable {P:Program} {w:World} {A:Around} {E:Value->Shared->Prop} {s:Shared}
end
section
variable {P:Program} {w:World} {A:Around} {E:Value->Shared->Prop} {s:Shared}
end
section
variable {P:Program} {w:World} {A:Around} {E:Value->Shared->Prop} {s:Shared}
end
section
variable {X:Cx}
end
section
variable {X:Cx} {elts:List Expr} {k:Nat} {tpos:Pos}
end
section
variable {X:Cx} {o e f:Expr} {apos cpos:Pos} {td ty tx:TE}
end
section
variable {X:Cx} {e st:Expr} {te tst:TE} {p2 pos:Pos}
end
end L2
namespace PySem
open Sem (wp)
section
variable {M:Model} {A:Around} {E:Value->Shared->Prop} {s:Shared}
end
end PySem
namespace PySem
open Sem (wp)
section
variable {prog:Program} {w:World} {A:Around} {E:Value->Shared->Prop} {s:Shared} {env:Env}
variable {nm q:Str} {C N:Addr} {bs bm bmB:List Value} {hdct:Bool} {sn:List Str} {sub:List Value} {ab:Bool} {col:Option Bool} {dd:Option Addr} {k0 k1 k2 k3 k5:Option Value} {B newId initId:String}
end
end PySem
namespace L2
open PySem PySem.Spec PyProof.Rows
section
variable {X:Cx} {pins:List (Addr×Obj)} {σ:St} {H:Hp} {s:Shared}
end
end L2
namespace PySem
open Sem (wp)
section
variable {prog:Program} {w:World} {A:Around} {E:Value->Shared->Prop} {s:Shared} {env:Env}
variable {nm q:Str} {C N:Addr} {bs bm bmB:List Value} {hdct:Bool} {sn:List Str} {sub:List Value} {ab:Bool} {col:Option Bool} {dd:Option Addr} {k0 k1 k2 k3 k5:Option Value} {B newId initId:String}
end
end PySem
namespace L2
open PySem PySem.Spec PyProof.Rows
section
variable {X:Cx} {pins:List (Addr×Obj)} {σ:St} {H:Hp} {s:Shared}
end
end L2
namespace PySem
open Sem (wp)
section
variable {prog:Program} {w:World} {K:Type} [DecidableEq K] {kd:KeyKind prog w K} {k0:K} {A:Around} {E:Value->Shared->Prop} {s:Shared}
def IsBoxKey (kd:KeyKind prog w K) (k0:K) (h:Heap) (k:K) (a:Addr):Prop :=
 ∃ o u b n,h.get? a=some o/\o.cls=.type "tuple" /\o.data=.seq #[u,.ref b] n/\kd.is k0 u=true/\IsTupleKey kd h [k] b
theorem IsBoxKey.tuple {k:K} {a:Addr} (x:IsBoxKey kd k0 s.heap k a):s.TypeIs (.ref a) "tuple" :=let ⟨o,_,_,_,q,c,_⟩:=x;⟨o,q,c⟩
theorem IsBoxKey.one {h:Heap} {a:Addr} {x y:K} (p:IsBoxKey kd k0 h x a) (q:IsBoxKey kd k0 h y a):x=y:=by
 obtain ⟨o,u,b,n,p1,p2,p3,p4,p5⟩:=p;obtain ⟨o',u',b',n',q1,q2,q3,q4,q5⟩:=q;obtain rfl:o=o':=Option.some.inj (p1.symm.trans q1);rw [p3] at q3;injection q3 with e _
 have e2:u=u'/\b=b':=by simpa using e
 obtain ⟨rfl,rfl⟩:=e2;exact List.cons.inj (p5.inj q5) |>.1
theorem IsBoxKey.stay {h h':Heap} {k:K} {a d:Addr} {o:Obj} {es ep} (x:IsBoxKey kd k0 h k a) (q:h.get? d=some o) (qd:o.data=.dict es ep) (sb:Heap.SameBut d h h'):IsBoxKey kd k0 h' k a:=by
 obtain ⟨o',u,b,n,p1,p2,p3,p4,p5⟩:=x;have ne:a≠d:=by
  rintro rfl;obtain rfl:o'=o:=Option.some.inj (p1.symm.trans q);rw [qd] at p3;exact nomatch p3
 exact ⟨o',u,b,n,(sb.2 a ne).trans p1,p2,p3,p4,p5.keeps q qd sb⟩
def ox (kd:KeyKind prog w K) (k0 k:K):Int:=reduceHash (Builtin.Tuple.tupleHashOf [kd.hash k0,tupleKeyHash kd [k]])
theorem wo {k:K} {a:Addr} {Q:Int->Shared->Prop} (hu:A.units+1 < cLine) (x:IsBoxKey kd k0 s.heap k a) (z:Q (ox kd k0 k) { s with toks:=s.toks+4 }) :
  wpAny (model prog w) A (pyHash (.ref a)) Q E s:=by
 have ty:=x.tuple;obtain ⟨o,u,b,n,p1,_,p3,p4,p5⟩:=x;unfold pyHash
 first | unfold pyHashByItsType | skip
 first | refine wpAny_bind (wpAny_cRoomFor_or (.inr (aBO (aA9 _) hu)) ?_) | skip
 refine wpAny_bind (wpAny_specialOf ty F.slot_tuple_hash.lookup ?_);show wpAny _ _ (if (some (Value.builtin "tuple.__hash__") == some Value.none)=true then _ else _) Q E s;rw [if_neg (by rw [beq_builtin_none];exact aAy)];refine wpAny_bind (wpAny_specialOf ty F.slot_tuple_hash.lookup ?_);show wpAny _ _ (callSpecialIfBoundUnlessNone? (.ref a) "__hash__" _ >>= _) Q E s;refine wpAny_bind (wpAny_callSpecialIfBoundUnlessNone?_slot ty F.slot_tuple_hash (wpAny_call_entry F.slot_tuple_hash ty F.entry_tuple_hash ?_ (F.args_tuple_hash_1 _)));show wpAny _ _ (Builtin.Tuple.tupleItemsOf (.ref a) >>= _) _ _ s;refine wpAny_bind (wpAny_tupleItemsOf p1 p3 ?_);refine wpAny_bind ?_;rw [<- aBE];show wpAny _ _ (forIn [u,Value.ref b] _ _) _ _ _;rw [aAX];refine wpAny_bind (wpAny_bind (kd.pyHash p4 ?_))
 first | refine wpAny_pure ?_ | refine wpAny_bind (wpAny_pure (wpAny_pure ?_))
 show wpAny _ _ (forIn [Value.ref b] _ _) _ _ _;rw [aAX];refine wpAny_bind (wpAny_bind (wpAny_pyHash_tuple (knd:=kd) (ks:=[k]) (by exact hu) (by exact p5) ?_))
 first | refine wpAny_pure ?_ | refine wpAny_bind (wpAny_pure (wpAny_pure ?_))
 show wpAny _ _ (forIn ([]:List Value) _ _) _ _ _;rw [aBq];refine wpAny_pure ?_;show wpAny _ _ (retInt (Builtin.Tuple.tupleHashOf [kd.hash k0,tupleKeyHash kd [k]])) _ _ _;refine wpAny_ret_mkInt ?_;show wpAny _ _ (if (decide (-(2:Int) ^ 63<=Builtin.Tuple.tupleHashOf [kd.hash k0,tupleKeyHash kd [k]]) && decide (Builtin.Tuple.tupleHashOf [kd.hash k0,tupleKeyHash kd [k]] < 2 ^ 63))=true then _ else _) Q E _;unfold ox reduceHash at z
 split
 ·rename_i q
  rw [if_pos q] at z;exact wpAny_pure z
 ·rename_i q
  rw [if_neg q] at z;exact wpAny_bind (wpAny_rule (wpAny_pure z))
theorem wq {x y:K} {a b:Addr} {P:Fin->Shared->Prop} (hu:A.units+1 < cLine) (p:IsBoxKey kd k0 s.heap x a) (q:IsBoxKey kd k0 s.heap y b) (z:P (.done (.ret (.bool (decide (x=y))))) s) :
  wpAny (model prog w) A (Builtin.«tuple.__eq__» ⟨[.ref a,.ref b],[]⟩) P E s:=by
 have ty:=q.tuple;obtain ⟨oa,ua,ba,na,a1,_,a3,a4,a5⟩:=p;obtain ⟨ob,ub,bb,nb,b1,_,b3,b4,b5⟩:=q;show wpAny _ _ (isInstance (.ref b) (.type "tuple") >>= _) _ _ s;refine wpAny_bind (wpAny_isInstance ty isSubtype_tuple_tuple ?_);simp only [aBe,aAH,if_false];refine wpAny_bind (wpAny_tupleItemsOf a1 a3 ?_);refine wpAny_bind (wpAny_tupleItemsOf b1 b3 ?_);refine wpAny_bind ?_;show wpAny _ _ (forIn [(ua,ub),(Value.ref ba,Value.ref bb)] _ _) _ _ _;rw [aAX];refine wpAny_bind (wpAny_bind (kd.eqBool (a:=k0) (b:=k0) a4 b4 ?_));rw [decide_eq_true rfl];simp only [aBe,aAH,if_false];refine wpAny_pure ?_;show wpAny _ _ (forIn [(Value.ref ba,Value.ref bb)] _ _) _ _ _;rw [aAX];refine wpAny_bind (wpAny_bind (wpAny_eqBool_tuple (knd:=kd) (x:=[x]) (y:=[y]) (3) a5 b5 ?_))
 by_cases e:x=y
 ·subst e;rw [decide_eq_true rfl];rw [decide_eq_true rfl] at z;simp only [aBe,aAH,if_false];refine wpAny_pure ?_;show wpAny _ _ (forIn ([]:List (Value×Value)) _ _) _ _ _;rw [aBq];exact wpAny_pure (wpAny_pure z)
 ·have e':¬ [x]=[y]:=λc=>e (List.cons.inj c).1;rw [decide_eq_false e'];rw [decide_eq_false e] at z;simp only [Bool.not_false,if_true];exact wpAny_bind (wpAny_pure (wpAny_pure (wpAny_pure (wpAny_pure z))))
theorem BY {x y:K} {a b:Addr} {Q:Bool->Shared->Prop} (hu:A.units+2 < cLine) (p:IsBoxKey kd k0 s.heap x a) (q:IsBoxKey kd k0 s.heap y b) (z:Q (decide (x=y)) s) :
  wpAny (model prog w) A (eqBool (.ref a) (.ref b)) Q E s:=by
 unfold eqBool
 try with_reducible refine wpAny_holding ?_
 show wpAny _ _ (if (Value.ref a == Value.ref b)=true then _ else _) Q E s
 by_cases ab:(Value.ref a == Value.ref b)=true
 ·rw [if_pos ab];have e:a=b:=by have:=eq_of_beq ab;injection this
  subst e;obtain rfl:=p.one q;exact wpAny_bind (wpAny_rule (wpAny_pure (by simpa using z)))
 ·rw [if_neg ab];exact wpAny_bind (wpAny_richCompare_same_room (op:=.Eq) p.tuple q.tuple F.slot_tuple_eq
   (wpAny_call_entry F.slot_tuple_eq p.tuple F.entry_tuple_eq (wq (by exact hu) p q ⟨_,rfl,(λe=>nomatch e),wpAny_truthy_bool z⟩) (F.args_tuple_eq_2 _ _)) (3))
theorem qj (m:Nat) {ks:List K} {a:Addr} {Q:Bool->Shared->Prop} (x:IsTupleKey kd s.heap ks a) (z:Q true s):wpAny (model prog w) A (eqIsQuiet (m+1) (.ref a)) Q E s:=by
 have ty:=x.typeIs;obtain ⟨o,its,n,p1,_,p3,p4⟩:=x;unfold eqIsQuiet;refine wpAny_bind (wpAny_specialOf ty F.slot_tuple_eq.lookup ?_);show wpAny _ _ (isInstance (.ref a) (.type "tuple") >>= _) _ _ s;refine wpAny_bind (wpAny_isInstance ty isSubtype_tuple_tuple ?_);simp only [aBe,aAH,if_false];refine wpAny_bind (wpAny_seqItems p1 p3 ?_);refine wpAny_bind ?_;show wpAny _ _ (forIn its _ _) _ _ s;rw [<- aBE];refine wpAny_forIn_list _ (λrest r s'=>r.1=none/\s'=s/\∀ v∈rest,carriedByValue v=true) _ ?_ ?_ _ _ ⟨rfl,rfl,p4.byValue⟩
 ·rintro v rest r s' ⟨hr,rfl,al⟩;rw [eqIsQuiet_byValue _ (al v aAh)];refine wpAny_bind (wpAny_pure ?_);simp only [aBe,aAH,if_false];exact wpAny_pure ⟨rfl,rfl,λu hu'=>al u (aAf _ hu')⟩
 ·rintro ⟨r1,r2⟩ s' ⟨hr,rfl,_⟩;simp only at hr;subst hr;exact wpAny_pure z
theorem uV {k:K} {a:Addr} {Q:Bool->Shared->Prop} (x:IsBoxKey kd k0 s.heap k a) (z:Q true s):wpAny (model prog w) A (eqIsQuiet 8 (.ref a)) Q E s:=by
 have ty:=x.tuple;obtain ⟨o,u,b,n,p1,_,p3,p4,p5⟩:=x;unfold eqIsQuiet;refine wpAny_bind (wpAny_specialOf ty F.slot_tuple_eq.lookup ?_);show wpAny _ _ (isInstance (.ref a) (.type "tuple") >>= _) _ _ s;refine wpAny_bind (wpAny_isInstance ty isSubtype_tuple_tuple ?_);simp only [aBe,aAH,if_false];refine wpAny_bind (wpAny_seqItems p1 p3 ?_);refine wpAny_bind ?_;show wpAny _ _ (forIn #[u,Value.ref b] _ _) _ _ s;rw [<- aBE];show wpAny _ _ (forIn [u,Value.ref b] _ _) _ _ s;rw [aAX,eqIsQuiet_byValue _ (kd.byValue _ _ p4)];refine wpAny_bind (wpAny_bind (wpAny_pure ?_));simp only [aBe,aAH,if_false];refine wpAny_pure ?_;show wpAny _ _ (forIn [Value.ref b] _ _) _ _ s;rw [aAX];refine wpAny_bind (wpAny_bind (qj _ p5 ?_));simp only [aBe,aAH,if_false];refine wpAny_pure ?_;show wpAny _ _ (forIn ([]:List Value) _ _) _ _ s;rw [aBq];exact wpAny_pure (wpAny_pure z)
end
def yj {prog:Program} {w:World} {K:Type} [DecidableEq K] (kd:KeyKind prog w K) (k0:K):HeapKind prog w K where
 is:=IsBoxKey kd k0
 hash:=ox kd k0
 draws:=λ_=>4
 room:=λA=>A.units+2 < cLine
 inj:=λp q=>p.one q
 keeps:=λx q qd sb=>x.stay q qd sb
 pyHash:=λhu x z=>wo (aBO (aA9 _) hu) x z
 eqBool:=λhu p q z=>BY hu p q z
 quiet:=λx z=>uV x z
section
variable {prog:Program} {w:World} {K:Type} [DecidableEq K] {knd:HeapKind prog w K} {A:Around} {E:Value->Shared->Prop} {s:Shared}
end
end PySem
namespace L2
open PySem PySem.Spec PyProof.Rows
theorem nu {α β:Type} {F:α->β->Prop}:∀ {l:List α} {m:List β},Paired F l m->∀ {i:Nat} {p:α} {q:β},l[i]?=some p->m[i]?=some q->F p q
 | _,_,.nil,i,p,q,h,_=>by simp at h
 | _,_,.cons r t,0,p,q,h,g=>by
  obtain rfl:_=p:=by simpa using h
  obtain rfl:_=q:=by simpa using g
  exact r
 | _,_,.cons r t,i+1,p,q,h,g=>nu t (by simpa using h) (by simpa using g)
theorem wt {H:Hp} {a p:Addr} {o:Obj} {u:HO} (mu:Mut (H p)) (e:H a=some (.frz o u)):a≠p:=by
 intro c;subst c;rw [e] at mu;exact mu
mutual
theorem oy {K:W.Frag} {H H':Hp} {p:Addr} (mu:Mut (H p)) (g:But p H H'):∀ {d:Dt} {v:V},IsP K H d v->IsP K H' d v
 | _,_,.non=>.non
 | _,_,.bl=>.bl
 | _,_,.int=>.int
 | _,_,.str=>.str
 | _,_,.tup h pl q=>.tup (g.tup (by obtain ⟨o,u,e,dn⟩:=pl;exact wt mu e) h) (by
   obtain ⟨o,u,e,dn⟩:=pl;exact ⟨o,u,g _ _ (wt mu e) e,dn⟩) (bq mu g q)
theorem bq {K:W.Frag} {H H':Hp} {p:Addr} (mu:Mut (H p)) (g:But p H H'):∀ {l:List Dt} {xs:List V},IsPs K H l xs->IsPs K H' l xs
 | _,_,.nil=>.nil
 | _,_,.cons h q=>.cons (oy mu g h) (bq mu g q)
end
def BZ (k:Key):Dt:=.tup [.str "list",.tup [kDt k]]
abbrev tF (P:Program) (w:World):HeapKind P w Key:=yj (a8 P w) (Sum.inr ("list" : Str))
def oz (P:Program) (w:World) (p:Addr) (ob:Obj) (xs:List (Key×Addr×Value)) (h:Heap):Prop :=
 h.get? p=some ob/\ob.ExactDict/\∃ es ep,ob.data=.dict es ep/\es.toList=xs.map (entryOfKey (tF P w))/\(xs.map (·.1)).Nodup
def DicO (P:Program) (w:World) (K:W.Frag) (H:Hp) (a:Addr) (ob:Obj) (kvs:List (Key×V)):Prop:=(a == sysModules)=false/\kvs.length<=sizeLine/\∃ xs,H a=some (.ext (oz P w a ob xs)) /\
 Paired (λ(p:Key×V) (q:Key×Addr×Value)=>p.1=q.1/\IsP K H (BZ p.1) (.ref q.2.1)/\RelV p.2 q.2.2) kvs xs
def DicE (P:Program) (w:World) (m:Bool) (K:W.Frag) (H:Hp) (a:Addr) (kvs:List (Key×V)):Prop:=match m with
 | false=>H a=some (.dK kvs)
 | true=>(∃ ob,DicO P w K H a ob kvs)\/(kvs=[]/\H a=some (.dK []))
section
variable {P:Program} {w:World} {K:W.Frag} {m:Bool} {H H':Hp} {a:Addr} {ob:Obj} {kvs:List (Key×V)}
theorem DicE.ne {r:Addr} {ys:List V} (h:DicE P w m K H a kvs) (hr:H r=some (.lst ys)):r≠a:=by
 intro c;subst c
 cases m with
 | false=>rw [show H r=some (.dK kvs) from h] at hr;cases hr
 | true =>
  rcases h with ⟨ob,_,_,_,e,_⟩ | ⟨_,e⟩
  ·rw [e] at hr;cases hr
  ·rw [e] at hr;cases hr
end
section
variable {X:Cx} {pins:List (Addr×Obj)} {σ:St} {H:Hp} {s:Shared}
theorem Ca (I:Inv X pins σ H s) {k:Key} {a:Addr} (h:IsP X.K H (BZ k) (.ref a)):IsBoxKey (a8 X.prog X.w) (Sum.inr ("list" : Str)) s.heap k a:=by
 obtain ⟨b,ys,e,ha,_,ra⟩:=IsP.unref h
 cases e
 obtain ⟨its,r,⟨o,h1,h2,n,h3⟩,_⟩:=I.tuple ha
 cases ra with
 | cons d1 ra =>
  cases ra with
  | cons d2 ra =>
   cases ra
   cases d1
   obtain ⟨c,zs,rfl,hc,pc,rc⟩:=IsP.unref d2
   cases r with
   | cons q1 r =>
    cases r with
    | cons q2 r =>
     cases r
     cases q2
     exact ⟨o,_,c,n,h1,h2,h3,sU (k:=Sum.inr ("list" : Str)) q1,tu I (ks:=[k]) (show IsP X.K H (.tup ([k].map kDt)) (.ref c) from d2)⟩
theorem DicO.dict {a:Addr} {ob:Obj} {kvs:List (Key×V)} (I:Inv X pins σ H s) (h:DicO X.prog X.w X.K H a ob kvs):(a == sysModules)=false/\kvs.length<=sizeLine/\∃ xs,s.heap.DictOfH (tF X.prog X.w) a xs/\oz X.prog X.w a ob xs s.heap/\H a=some (.ext (oz X.prog X.w a ob xs)) /\
  Paired (λ(p:Key×V) (q:Key×Addr×Value)=>p.1=q.1/\IsP X.K H (BZ p.1) (.ref q.2.1)/\RelV p.2 q.2.2) kvs xs:=by
 obtain ⟨e0,e1,xs,e,r⟩:=h;obtain ⟨oo,_⟩:=(show ObjOk X.prog X.w H s.heap a (.ext (oz X.prog X.w a ob xs)) from I.hok a _ e);obtain ⟨h1,h2,es,ep,h3,h4,h5⟩:=id oo;refine ⟨e0,e1,xs,⟨ob,es,ep,h1,h2,h3,h4,λy hy=>?_,h5⟩,oo,e,r⟩;obtain ⟨i,hi⟩:=aBj hy;have hl:i < kvs.length:=by rw [Paired.length r];exact (aAj.mp hi).1
 have q:=nu r (aAv hl) hi;rw [<- q.1];exact Ca I q.2.1
end
section
variable {X:Cx} {P:Program} {w:World} {K:W.Frag} {o e f:Expr} {apos cpos pos:Pos} {td ty tx:TE}
end
section
variable {X:Cx} {tg:Expr} {P:Program} {w:World} {K:W.Frag}
end
section
variable {prog:Program} {w:World} {A:Around} {E:Value->Shared->Prop} {s:Shared}
theorem yk {l:Addr} {items:Array Value} {k:Nat} {x:Int} {u:Tok} {Q:Value->Shared->Prop} (ho:s.heap.get? l=some { cls:=.type "list",dict:=none,data:=.seq items k,slots:=#[] }) (h1:0<=x) (h2:x<=1000) (hz:items.size=1)
  (h:Q (.ref s.heap.objs.size) { s with heap:=s.heap.push { cls:=.type "list",data:=.seq ((List.replicate x.toNat items).foldl (·++·) #[]) } }):wpAny (model prog w) A (binaryOp .Mult (.ref l) (.int x u)) Q E s:=by
 have hT:s.TypeIs (.ref l) "list" :=⟨_,ho,rfl⟩;refine wpAny_binaryOp_repeat_ref (T:= "list") (U:= "int") (by decide) hT (λs'=>typeIs_int s' x u) noFill_list_mul F.fills_int_mul F.slot_int_rmul repeat_list F.slot_int_index.lookup ?_;refine call_meets F.slot_int_rmul (typeIs_int s x u) F.entry_int_rmul (F.args_int_rmul_2 _ _) (int___rmul___int_list x u l items k) ⟨ho,rfl,hT,?_⟩;have ne:items.isEmpty=false:=by
  simp;intro c;rw [c] at hz;simp at hz
 refine call_meets F.slot_list_mul hT F.entry_list_mul (F.args_list_mul_2 _ _) (AutoListH.list___mul___list_int_3 l items k x u (by simp [Builtin.List.listFitsIndex];lia) (by rw [hz];lia) (by rw [hz];simp [Builtin.List.listTooLong,sizeLine];lia)) ⟨ho,?_⟩;rw [ne];exact h
end
section
variable {X:Cx} {K:W.Frag}
theorem ww:OpR X (binaryOp .Mult) (λx y H Q=>∃ a z n,x=.ref a/\H a=some (.lst [z])/\y=.int n/\0<=n/\n<=1000/\∀ p,H p=none->Q (.ref p) (upd H p (.lst (List.replicate n.toNat z)))):=by
 intro pins s σ H x y v u Q I rx ry h;obtain ⟨a,z,n,rfl,ha,rfl,h1,h2,q⟩:=h
 cases rx
 obtain ⟨t,rfl⟩:=ry;obtain ⟨_,its,k,r,e0⟩:=(show ObjOk X.prog X.w H s.heap a (.lst [z]) from I.hok a _ ha);obtain ⟨u,rfl,ru⟩:=du r;refine yk e0 h1 h2 rfl ?_;have e:(List.replicate n.toNat [u].toArray).foldl (·++·) #[]=(List.replicate n.toNat u).toArray:=by
  rw [show [u].toArray=#[u] from rfl,uP];simp
 rw [e];refine ⟨.ref _,_,I.laid (t':=s.toks) (o:=.lst (List.replicate n.toNat z)) (λb ob q=>aAe _ q) (aAo _) ?_,rfl,q _ (I.hok.fresh (aAo _))⟩;exact ⟨by rw [aAW];exact aAz (show n.toNat<=1000 by lia) (by decide),_,0,yQ ru n.toNat,aAA _ rfl⟩
end
end L2
namespace PySem
open PyProof.Rows PySem.Spec
section
variable {prog:Program} {w:World} {h₀:Heap} {k:Str} {tk:Tok} {a:Addr} {α:Type} {R:α->Value->Prop} {D:List (Str×α)}
theorem qk:MeetsIn prog w (Builtin.«dict.get» ⟨[.ref a,.str k tk],[]⟩) (λ_ Rr s=>KTD.TabOf R h₀ a D/\(∀ b o,h₀.get? b=some o->s.heap.get? b=some o)/\(∀ d v,KTD.datumAt k D=some d->R d v->Rr (.ok (.ret v)) { s with toks:=s.toks+1 }) /\
  (KTD.datumAt k D=none->Rr (.ok (.ret .none)) { s with toks:=s.toks+1 })) :=
 .of_wp λA Rr s ⟨T,kp,h1,h2⟩=>by
  show wpAny _ _ (dictGet a (.str k tk) >>= _) _ _ s;refine wpAny_bind (gj T kp (λd v ha hv=>wpAny_pure ⟨v,rfl,h1 d v ha hv⟩) λhn=>wpAny_bind (m:=Builtin.Dict.missed a (.str k tk)) (wpAny_missed_other T.1 (wpAny_pure ⟨.none,rfl,h2 hn⟩)))
end
end PySem
namespace L2
open PySem PySem.Spec PyProof.Rows
structure Mn (K:W.Frag) (C:Addr) (m q:Str) (st:Stmt) (ps:List Str) (f:Addr) (fd:FuncData):Prop where
 meth:Meth K C m f
 F:Fun K m q st f fd
 b:Binds K fd ps []
structure Mi (K:W.Frag) (C:Addr) (m q:Str) (st:Stmt) (ps:List Str) (f:Addr) (fd:FuncData):Prop where
 makes:Mk K C f
 F:Fun K m q st f fd
 b:Binds K fd ps []
def wx (y z:Str) (i:Int):Int:=match Builtin.Str.occurrences y z (PySem.fromIndex y.length i) y.length 1 with
 | k :: _=>(k:Int)
 | []=>-1
theorem lD:∀ {zs:List Str} {us:List Value},Vals (zs.map V.str) us->StrsAre us zs
 | [],us,h=>by cases h;exact .nil
 | z :: zs,us,h=>by
  cases h with
  | cons r h =>
   obtain ⟨t,rfl⟩:=r;exact .cons z t (lD h)
section
variable {X:Cx}
theorem wA:MtM X "str.find" (λx vs H Q=>∃ y z i,x=.str y/\vs=[.str z,.int i]/\Q (.int (wx y z i)) H):=by
 intro pins s σ H x vs v us Q I rx rv h;obtain ⟨y,z,i,rfl,rfl,q⟩:=h;obtain ⟨t,rfl⟩:=rx;obtain ⟨u1,u2,rfl,⟨t1,rfl⟩,⟨t2,rfl⟩⟩:=sP rv;exact call_gives PySem.F.slot_str_find (typeIs_str _ _ _) PySem.F.entry_str_find (PySem.F.args_str_find_3 _ _ _) (gives_str_find_from y z i t t1 t2) ⟨.int _,H,I.tok _,⟨_,rfl⟩,q⟩
theorem rX:MtM X "str.lstrip" (λx vs H Q=>∃ y z,x=.str y/\vs=[.str z]/\y.length<=sizeLine/\Q (.str (Txt.lstripChars y z)) H):=by
 intro pins s σ H x vs v us Q I rx rv h;obtain ⟨y,z,rfl,rfl,hl,q⟩:=h;obtain ⟨t,rfl⟩:=rx;obtain ⟨u,rfl,t1,rfl⟩:=rv.one;exact SC.lstripChars (λt' k=>⟨.str _,H,I.kept (t':=k) (λ_ _ e=>e),⟨t',rfl⟩,q⟩) hl
theorem cS:MtM X "str.join" (λx vs H Q=>∃ (sp:Str) (p:Addr) (zs:List Str),x=.str sp/\vs=[.ref p]/\(SqL X.K H p (zs.map V.str)\/SqT X.K H p (zs.map V.str))/\(zs.map (·.length)).sum+zs.length*sp.length<=16777216/\Q (.str (Txt.join sp zs)) H):=by
 intro pins s σ H x vs v us Q I rx rv h;obtain ⟨sp,p,zs,rfl,rfl,hp,hz,q⟩:=h;obtain ⟨t,rfl⟩:=rx;obtain ⟨u,rfl,e⟩:=rv.one
 cases e
 rcases hp with hp | hp
 ·obtain ⟨its,rr,pl,_⟩:=I.list hp;exact join_list pl.isList (by simpa using lD rr) hz λt' k=>⟨.str _,H,I.kept (t':=k) (λ_ _ e=>e),⟨t',rfl⟩,q⟩
 ·obtain ⟨its,rr,pl,_⟩:=I.tuple hp;exact join_tuple pl (by simpa using lD rr) hz λt' k=>⟨.str _,H,I.kept (t':=k) (λ_ _ e=>e),⟨t',rfl⟩,q⟩
abbrev TJ:=St->Hp->Str->(Str->Hp->Prop)->Prop
def PJ (X:Cx) (es:List Expr) (t:TJ):Prop:=∀ (pins:List (Addr×Obj)) (s:Shared) (σ:St) (H:Hp) (out:Str) (Q:Str->Hp->Prop),Inv X pins σ H s->t σ H out Q->wpAny (model X.prog X.w) X.A (joinParts out (evalEach es X.env)) (EP X pins σ λx H'=>∃ z,x=.str z/\Q z H') X.xe s
def tJn:TJ:=λ_ H out Q=>out.length<=sizeLine/\Q out H
def tJe (te:TE) (t:TJ):TJ:=λσ H out Q=>te σ H λx H1=>∃ y,x=.str y/\y.length<=sizeLine/\(out++y).length<=sizeLine/\t σ H1 (out++y) Q
def tJ (t:TJ):TE:=λσ H Q=>t σ H Str.empty λz H'=>Q (.str z) H'
theorem rY:PJ X [] tJn:=λpins s σ H out Q I h=>joinParts_nil ⟨.str out,H,I.tok _,⟨_,rfl⟩,out,rfl,h.2⟩ h.1
theorem jG {e:Expr} {es:List Expr} {te:TE} {t:TJ} (he:PE X e te) (hr:PJ X es t):PJ X (e :: es) (tJe te t):=λpins s σ H out Q I h =>
 joinParts_cons (thn (he pins s σ H _ I h) λv s1 ⟨x,H1,I1,rx,y,ex,_,hl,q⟩=>by
  subst ex;obtain ⟨t0,rfl⟩:=rx;exact ⟨hl,hr pins s1 σ H1 _ Q I1 q⟩)
theorem io {e:Expr} {es:List Expr} {te:TE} {t:TJ} {pos:Pos} (he:PE X e te) (hr:PJ X es t):PJ X (.FormattedValue e (-1) none pos :: es) (tJe te t):=λpins s σ H out Q I h =>
 joinParts_cons (PyProof.Rows.FormattedValue_plain (thn (he pins s σ H _ I h) λv s1 ⟨x,H1,I1,rx,y,ex,hy,hl,q⟩=>by
  subst ex;obtain ⟨t0,rfl⟩:=rx;exact formatField_str (λt' tk=>⟨hl,hr pins _ σ H1 _ Q (I1.kept (t':=tk) λ_ _ e=>e) q⟩) hy))
theorem oA {e1 e2:Expr} {es:List Expr} {t:TJ} {pos:Pos} (h:PJ X (e1 :: e2 :: es) t):PE X (.JoinedStr (e1 :: e2 :: es) pos) (tJ t):=λpins s σ H Q I q =>
 JoinedStr_many (thn (h pins s σ H Str.empty _ I q) λv s1 ⟨x,H1,I1,rx,z,ex,q1⟩=>by
  subst ex;exact ⟨.str z,H1,I1,rx,q1⟩)
def Cb (D:List (Str×Addr)) (t:TA):TE:=λσ H Q=>t σ H λvs H1=>∃ k,vs=[.str k]/\Q (match gk k D with | some b=>.ref b | none=>.non) H1
theorem lE {x:Str} {ad:Addr} {D:List (Str×Addr)} {e:Expr} {t:TA} {p apos cpos:Pos} (hD:lA X.K ad D) (hg:Gl X x) (hm:X.mg x=some (.ref ad)) (ha:PA X [e] t) (hdb:(x == ("__debug__" : Str))=false:=by decide)
  (hbase:attributeBase (.Name x p) "get" X.env (eval (.Name x p) X.env)=eval (.Name x p) X.env:=by rfl)
  (hfew:((backTo cpos (starEach [e] X.env)).all (λx=>!x.1) && (backToKw cpos (keywordEach [] X.env)).all (λx=>x.1.isSome)
   && decide (([e]:List Expr).length+([]:List Keyword).length+(if ([]:List Keyword).isEmpty then 0 else 1) < 30))=true:=by rfl)
  (hline:(apos.endLine == cpos.line)=true:=by rfl) (hs:starEach [e] X.env=(false,eval e X.env) :: starEach [] X.env:=by rfl) :
  PE X (.Call (.Attribute (.Name x p) "get" apos) [e] [] cpos) (Cb D t):=by
 intro pins s σ H Q I h;have T:∀ {s':Shared} {σ':St} {H':Hp} {pins':List (Addr×Obj)},Inv X pins' σ' H' s'->KTD.TabOf (λb v=>v=Value.ref b) X.base ad D:=λJ=>hD _ J.ok.mod.kin;have ty0:∀ {s':Shared} {σ':St} {H':Hp} {pins':List (Addr×Obj)},Inv X pins' σ' H' s'->s'.TypeIs (.ref ad) "dict" /\(∀ b,Value.ref ad=.ref b->∃ ob,s'.heap.get? b=some ob/\ob.dict=none):=λ{s' σ' H' pins'} J=>by
  obtain ⟨_,o,_,_,ho,hc,_⟩:=T J;refine ⟨⟨o,J.bk _ _ ho,hc.1⟩,λb q=>?_⟩;injection q with q
  subst q;exact ⟨o,J.bk _ _ ho,hc.2.1⟩
 refine wpAny_Call_method_late hbase hfew hline rfl (iI I hg hm ?_ hdb);refine ⟨"dict","dict.get",PySem.F.plainAttrs_dict,PySem.F.slot_dict_get,PySem.F.type_dict_get,(ty0 I).1,(ty0 I).2,?_⟩;have hA:=ha cpos pins s σ H _ I h;rw [hs] at hA ⊢;refine Calls.callWith_builtin (1) (Calls.evalArgs_plain ?_);refine thn hA λus s2 ⟨vs,H2,I2,r2,k,e2,q2⟩=>?_;subst e2;obtain ⟨u,rfl,ru⟩:=du r2;obtain ⟨tk,rfl⟩:=ru;refine call_meetsIn PySem.F.slot_dict_get (ty0 I2).1 PySem.F.entry_dict_get (PySem.F.args_dict_get_2 _ _) (qk (h₀:=X.base) (D:=D) (R:=λb v=>v=Value.ref b)) ⟨T I2,λb o z=>I2.bk b o z,λb v hb hv=>?_,λhn=>?_⟩
 ·subst hv;rw [<- lC,hb] at q2;exact ⟨.ref b,H2,I2.tok _,rfl,q2⟩
 ·rw [<- lC,hn] at q2;exact ⟨.non,H2,I2.tok _,rfl,q2⟩
end
def oB (K:W.Frag) (a:Addr) (D:List (Str×Str)):Prop:=∀ h,K.In h->KTD.TabOf (λz v=>∃ t,v=Value.str z t) h a D
theorem Cz {K:W.Frag} {a:Addr} {D:List (Str×Str)} (e:KTD.tabLook (λz v=>v.isStr z) (λb=>K.lookup b) a D=true):oB K a D :=
 λ_ X=>KTD.tab_of_look (L:=λz v=>v.isStr z) (R:=λz v=>∃ t,v=Value.str z t) (λz v h=>by
  cases v with
  | str y t=>exact ⟨t,by have:(y == z)=true:=h;rw [eq_of_beq this]⟩
  | _=>cases h) (λb o q=>X b o q) e
def gn (k:Str):List (Str×Str)->Option Str
 | []=>none
 | (x,b) :: D=>if k=x then some b else gn k D
theorem eX {k:Str}:∀ D:List (Str×Str),KTD.datumAt k D=gn k D
 | []=>rfl
 | (x,b) :: D=>by
  show (if decide (k=x)=true then some b else KTD.datumAt k D)=_
  by_cases h:k=x
  ·simp [gn,h]
  ·simp [gn,h,eX D]
section
variable {X:Cx} {K:W.Frag}
theorem Cc (hK:X.K=K):OpR X (compareOp .In) (λx y H Q=>∃ k ad D,x=.str k/\y=.ref ad/\oB K ad D/\Q (.bl (gn k D).isSome) H):=by
 subst hK;intro pins s σ H x y v u Q I rx ry h;obtain ⟨k,ad,D,rfl,rfl,hD,q⟩:=h;obtain ⟨tk,rfl⟩:=rx
 cases ry
 have T:=hD _ I.ok.mod.kin;have ty:s.TypeIs (.ref ad) "dict" :=by
  obtain ⟨_,o,_,_,ho,hc,_⟩:=T;exact ⟨o,I.bk _ _ ho,hc.1⟩
 show wpAny _ _ ((do return Value.bool (<- contains (.ref ad) (.str k tk))):Sem Value) _ _ s;refine wpAny_bind ?_;unfold contains
 try with_reducible refine wpAny_holding ?_
 refine wpAny_bind (wpAny_specialOf ty slot_dict_contains.lookup ?_);show wpAny _ _ (if (some (Value.builtin "dict.__contains__") == some Value.none)=true then _ else _) _ _ s;rw [if_neg (by rw [beq_builtin_none];exact aAy)];refine wpAny_bind (wpAny_callSpecialUnlessNone?_slot (name:=Str.ofString "__contains__") ty slot_dict_contains
  (wpAny_call_entry slot_dict_contains ty entry_dict_contains ?_ (args_dict_contains _ _)))
 show wpAny _ _ (dictGet ad (.str k tk) >>= _) _ _ s;refine wpAny_bind (gj T (λb o z=>I.bk b o z) (λz v hz hv=>?_) λhn=>?_)
 ·rw [eX] at hz;rw [hz] at q;exact wpAny_pure ⟨_,rfl,wpAny_truthy_bool (wpAny_pure ⟨.bl true,H,I.tok _,rfl,q⟩)⟩
 ·rw [eX] at hn;rw [hn] at q;exact wpAny_bind (m:=Builtin.Dict.pendingKey? ad (.str k tk)) (wpAny_pendingKey_other T.1 (wpAny_pure ⟨_,rfl,wpAny_truthy_bool (wpAny_pure ⟨.bl false,H,I.tok _,rfl,q⟩)⟩))
def Ix (K:W.Frag) (td ty:TE):TE:=λσ H Q=>td σ H λx H1=>ty σ H1 λy H2=>∃ k ad D z,x=.ref ad/\y=.str k/\oB K ad D/\gn k D=some z/\Q (.str z) H2
theorem yl {o e:Expr} {td ty:TE} {pos:Pos} (hK:X.K=K) (ho:PE X o td) (hi:PE X e ty) (hs:BV e):PE X (.Subscript o e pos) (Ix K td ty):=by
 subst hK;intro pins s σ H Q I h;refine sV PySem.F.slot_dict_getitem.lookup hs (thn (ho pins s σ H _ I h) λu s1 ⟨x,H1,I1,rx,q1⟩=>thn (hi pins s1 σ H1 _ I1 q1) λiv s2 ⟨y,H2,I2,ry,k,ad,D,z,ex,ey,hD,hz,q2⟩=>?_);subst ex ey;obtain rfl:u=Value.ref ad:=rx;obtain ⟨tk,rfl⟩:=ry;have T:=hD _ I2.ok.mod.kin;have ty:s2.TypeIs (.ref ad) "dict" :=by
  obtain ⟨_,o,_,_,ho,hc,_⟩:=T;exact ⟨o,I2.bk _ _ ho,hc.1⟩
 refine ⟨ty,?_⟩;unfold getItem
 try with_reducible refine wpAny_holding ?_
 refine wpAny_bind (wpAny_sequenceKey ty (by decide) ?_);refine wpAny_bind (wpAny_callSpecial?_slot (name:=Str.ofString "__getitem__") ty slot_dict_getitem
  (wpAny_call_entry slot_dict_getitem ty entry_dict_getitem ?_ (args_dict_getitem _ _)))
 show wpAny _ _ (dictGet ad (.str k tk) >>= _) _ _ s2;refine wpAny_bind (gj T (λb o z=>I2.bk b o z) (λz' v hz' hv=>?_) λhn=>?_)
 ·rw [eX,hz] at hz'
  cases hz'
  obtain ⟨t,rfl⟩:=hv;exact wpAny_pure ⟨_,rfl,wpAny_pure ⟨.str z,H2,I2.tok _,⟨t,rfl⟩,q2⟩⟩
 ·rw [eX,hz] at hn
  cases hn
end
def yT (K:W.Frag) (a:Addr) (bs:List Addr):Prop:=∀ H:Hp,SqT K H a (bs.map V.ref)
end L2
namespace PySem
namespace StrLaws
open Builtin Builtin.Str
theorem ql (s sub:Str) (hi:Nat):∀ (l:List Nat) (a:Array Nat) (fr:Nat),1<=a.size->(forIn l (a,fr) (occBody s sub hi 1)).run.fst=a
 | [],a,fr,h=>rfl
 | j :: l,a,fr,h=>by
  rw [aAX];unfold occBody;rw [if_neg (λz=>by have:a.size < 1:=z.1.1.1;lia)];exact ql s sub hi l a fr h
theorem qm (s sub:Str) (hi:Nat):∀ (l:List Nat) (fr:Nat),(∀ i∈l,fr<=i) ->
  (forIn l ((#[]:Array Nat),fr) (occBody s sub hi 1)).run.fst=match l.find? (λi=>decide (i+sub.length<=hi/\subAt s sub i=true)) with | some i=>#[i] | none=>#[]
 | [],fr,_=>rfl
 | a :: l,fr,hf=>by
  rw [aAX];unfold occBody;have ha:fr<=a:=hf a (aAh ..)
  by_cases hc:a+sub.length<=hi/\subAt s sub a=true
  ·rw [if_pos ⟨⟨⟨by show 0 < 1;decide,ha⟩,hc.1⟩,hc.2⟩,aA5,decide_eq_true hc];exact ql s sub hi l _ _ (by simp)
  ·rw [if_neg (λh=>hc ⟨h.1.2,h.2⟩),aA5,decide_eq_false hc];exact qm s sub hi l fr λi hi'=>hf i (aAf _ hi')
theorem occ_one (x:Str) (c lo:Nat):occurrences x ⟨#[c]⟩ lo x.length 1=match (x.cps.toList.drop lo).findIdx? (· == c) with | some i=>[lo+i] | none=>[]:=by
 rw [occ_eq,qm x ⟨#[c]⟩ x.length _ lo (λi hi=>by rw [List.mem_range'_1] at hi;exact hi.1)];have key:∀ (n lo:Nat),lo+n=x.length+1->(List.range' lo n).find? (λi=>decide (i+(⟨#[c]⟩:Str).length<=x.length/\subAt x ⟨#[c]⟩ i=true))=((x.cps.toList.drop lo).findIdx? (· == c)).map (lo + ·):=by
  intro n
  induction n with
  | zero =>
   intro lo h;rw [aA6 (by rw [aAU];have:x.length=x.cps.size:=rfl;lia)]
   rfl
  | succ n ih =>
   intro lo h;rw [List.range'_succ];have dk:decide (lo+(⟨#[c]⟩:Str).length<=x.length/\subAt x ⟨#[c]⟩ lo=true)=decide (x.cps.toList[lo]?=some c):=by
    rw [decide_eq_decide];exact subAt_one x c lo
   by_cases hlt:lo < x.cps.toList.length
   ·rw [aA7 hlt]
    by_cases e:x.cps.toList[lo]=c
    ·rw [List.find?_cons_of_pos (by rw [dk,aAv hlt,e];simp),aBF];simp [e]
    ·rw [aBZ (by rw [dk,aAv hlt];simpa using e),ih (lo+1) (by lia),aBF];have:(x.cps.toList[lo] == c)=false:=by simpa using e
     rw [this]
     cases (x.cps.toList.drop (lo+1)).findIdx? (· == c) with
     | none=>rfl
     | some i=>simp;lia
   ·rw [aBZ (by rw [dk,aBw (3)];simp),ih (lo+1) (3),aA6 (3),aA6 (3)]
    rfl
 by_cases hlo:lo<=x.length+1
 ·rw [key (x.length+1 - lo) lo (3)]
  cases (x.cps.toList.drop lo).findIdx? (· == c) <;> rfl
 ·rw [show x.length+1 - lo=0 by lia,aA6 (by rw [aAU];have:x.length=x.cps.size:=rfl;lia)]
  rfl
end StrLaws
end PySem
namespace L2
open PySem PySem.Spec PyProof.Rows
section
variable {X:Cx}
theorem ip:OpR X (binaryOp .Mult) (λx y H Q=>∃ (z:Str) (n:Int),x=.str z/\y=.int n/\1<=z.length/\z.length<=100/\0<=n/\n<=100/\∀ z':Str,z'.cps.toList=(List.replicate n.toNat z.cps.toList).flatten->Q (.str z') H):=by
 intro pins s σ H x y v u Q I rx ry h;obtain ⟨z,n,rfl,rfl,hz1,hz,h0,h1,q⟩:=h;obtain ⟨t,rfl⟩:=rx;obtain ⟨t',rfl⟩:=ry;have hm:z.length*n.toNat<=10000:=aAz (Nat.mul_le_mul hz (show n.toNat<=100 by lia)) (by decide);refine PySem.P.mul_str ?_ (λc0 _=>?_) (λ_ _=>?_) ?_
 ·rw [decide_eq_false (3),decide_eq_false (3)]
  rfl
 ·intro c1;have c2:(z.length:Int) > (2 ^ 63 - 1) / n:=c1;have:(z.length:Int)<=(2 ^ 63 - 1) / n:=(Int.le_ediv_iff_mul_le (3)).mpr (by
   have hm':((z.length*n.toNat:Nat):Int)<=10000:=(3)
   rw [Int.natCast_mul,Int.toNat_of_nonneg h0] at hm';lia)
  lia
 ·exact decide_eq_false (Nat.not_lt.mpr (aAz hm (by decide)))
 ·by_cases c1:n < 1
  ·rw [if_pos c1];refine ⟨aAE _,.str _,H,I.tok _,⟨_,rfl⟩,q _ ?_⟩;rw [show n.toNat=0 by lia]
   rfl
  ·rw [if_neg c1]
   by_cases c2:n=1
   ·subst c2;exact ⟨.str _,H,I,⟨_,rfl⟩,q _ (by simp)⟩
   ·have c3:¬ (n == 1 || z.length == 0)=true:=by
     rw [show (z.length == 0)=false from by simp;lia,aB2]
     simpa using c2
    rw [if_neg c3];have e:((List.replicate n.toNat z.cps).foldl (·++·) #[]).toList=(List.replicate n.toNat z.cps.toList).flatten:=by
     have key:∀ (k:Nat) (acc:Array Nat),((List.replicate k z.cps).foldl (·++·) acc).toList=acc.toList++(List.replicate k z.cps.toList).flatten:=by
      intro k
      induction k with
      | zero=>intro acc;simp
      | succ k ih =>
       intro acc;rw [aAZ,List.foldl_cons,ih,aAZ,List.flatten_cons,aBz,aAD]
     have:=key n.toNat #[]
     simpa using this
    refine ⟨?_,.str _,H,I.tok _,⟨_,rfl⟩,q _ e⟩;show (((List.replicate n.toNat z.cps).foldl (·++·) #[])).size<=sizeLine;rw [<- aAU,e,List.length_flatten,List.map_replicate,List.sum_replicate_nat];rw [aAU,Nat.mul_comm];exact aAz hm (by decide)
end
def wB (vs:List Value) (bs:List Addr):Bool:=vs == bs.map Value.ref
def qo (K:W.Frag) (b:Addr) (bs:List Addr):Bool:=match K.lookup b with
 | some o=>o.cls == .type "tuple" && (match o.data with | .seq vs _=>wB vs.toList bs && decide (vs.size<=1000) | _=>false)
 | none=>false
theorem lG:∀ bs:List Addr,Vals (bs.map V.ref) (bs.map Value.ref)
 | []=>.nil
 | b :: bs=>.cons rfl (lG bs)
theorem Iy {K:W.Frag} {a:Addr} {bs:List Addr} (e:qo K a bs=true):yT K a bs:=by
 intro H;unfold qo at e
 split at e
 ·rename_i o ho
  simp only [aAB] at e;obtain ⟨e2,e3⟩:=e
  split at e3
  ·rename_i vs n hd
   simp only [aAB] at e3;have ev:vs.toList=bs.map Value.ref:=eq_of_beq e3.1;exact .inr ⟨o,vs,n,ho,eq_of_beq e2,hd,aBa (ay (of_decide_eq_true e3.2)),by rw [ev];exact lG bs⟩
  ·cases e3
 ·cases e
theorem mnM {K:W.Frag} {C f:Addr} {m q:Str} {st:Stmt} {ps:List Str} {od an:Option Addr} {sl:Array (Option Value)} {oc kV dc pm cd ct:Value} (a:W.findIn K (.ref C) m=some (some (.ref f))) (i:W.isFn K (.ref f)=true)
  (l:K.lookup f=some ⟨oc,od,.func (W.fnOf m q (cn st) (bN st) (ae st) .none kV dc pm an cd ct),sl⟩) (c:W.codeIn K cd q=true) (k:W.keepIn K (.ref f)=true)
  (b:∀ (kV doc pm:Value) (an:Option Addr) (cdv ct:Value) (us:List Value),us.length=ps.length->bindArgs (W.fnOf m q (cn st) (bN st) (ae st) .none kV doc pm an cdv ct) ⟨us,[]⟩=pure (ps.zip us)):∃ f fd,Mn K C m q st ps f fd :=
 ⟨f,_,⟨a,i,k⟩,jB (st:=st) l c k,(jB (st:=st) l c k).binds b⟩
theorem miM {K:W.Frag} {C f:Addr} {q:Str} {st:Stmt} {ps:List Str} {od an:Option Addr} {sl:Array (Option Value)} {oc kV dc pm cd ct:Value} (mk:W.makesIn K C=true) (a:W.findIn K (.ref C) "__init__" = some (some (.ref f))) (i:W.isFn K (.ref f)=true) (kc:W.keepIn K (.ref C)=true)
  (l:K.lookup f=some ⟨oc,od,.func (W.fnOf "__init__" q (cn st) (bN st) (ae st) .none kV dc pm an cd ct),sl⟩) (c:W.codeIn K cd q=true) (k:W.keepIn K (.ref f)=true)
  (b:∀ (kV doc pm:Value) (an:Option Addr) (cdv ct:Value) (us:List Value),us.length=ps.length->bindArgs (W.fnOf "__init__" q (cn st) (bN st) (ae st) .none kV doc pm an cdv ct) ⟨us,[]⟩=pure (ps.zip us)):∃ f fd,Mi K C "__init__" q st ps f fd :=
 ⟨f,_,⟨mk,a,i,kc⟩,jB (st:=st) l c k,(jB (st:=st) l c k).binds b⟩
section
variable {X:Cx}
theorem rZ:bJ X (.type "str") (λxs H Q=>(∃ i,xs=[.int i]/\i.natAbs.log2 < 1920/\Q (.str (toString i)) H)\/∃ z,xs=[.str z]/\Q (.str z) H):=by
 intro pins s σ H xs us Q I r h;rcases h with ⟨i,rfl,hz,q⟩ | ⟨z,rfl,q⟩
 ·obtain ⟨u,rfl,t,rfl⟩:=du r;exact PySem.P.str_of_int hz ⟨.str _,H,I.tok _,⟨_,rfl⟩,q⟩
 ·obtain ⟨u,rfl,t,rfl⟩:=du r;exact PySem.P.str_of_str ⟨.str _,H,I,⟨_,rfl⟩,q⟩
def Iz (K:W.Frag):R2:=λx y H Q=>∃ (p:Addr) (as:List Addr) (ds:List Dt) (d:Dt),y=.ref p/\SqL K H p (as.map V.ref)/\as.Nodup/\IsDs K H ds (as.map V.ref)/\IsD K H d x/\cz ds<=60/\Q (.bl (ds.any λe=>eqD e d)) H
theorem tG:∀ {as:List Addr} {us:List Value},Vals (as.map V.ref) us->us=as.map Value.ref
 | [],_,h=>by cases h;rfl
 | a :: as,_,h=>by
  cases h with
  | cons r t =>
   cases r
   rw [tG t]
   rfl
theorem Cd {K:W.Frag} (hK:X.K=K) (hu:X.A.units+64 < cLine):OpR X (compareOp .In) (Iz K):=by
 subst hK;intro pins s σ H x y v u Q I rx ry h;obtain ⟨p,as,ds,d,rfl,hq,nd,hds,hd,hdep,q⟩:=h
 cases ry
 obtain ⟨its,r,pl,hz⟩:=I.list hq;have eu:=tG r;subst eu;have ld:ds.length=as.length:=by rw [hds.length,aAa]
 let f:Value->Bool:=λw=>match w with
  | .ref a=>((as.zip ds).find? λp=>p.1 == a).any λp=>eqD p.2 d
  | _=>false
 have key:∀ (as:List Addr) (ds:List Dt),as.Nodup->ds.length=as.length->∀ (i:Nat) (a:Addr) (e:Dt),as[i]?=some a->ds[i]?=some e->(as.zip ds).find? (λp=>p.1 == a)=some (a,e):=by
  intro as
  induction as with
  | nil=>intro ds _ _ i a e h;simp at h
  | cons b as ih =>
   intro ds nd l i a e h1 h2
   cases ds with
   | nil=>simp at l
   | cons g ds =>
    rw [aBc,aA5]
    cases i with
    | zero=>cases h1;cases h2;simp
    | succ i =>
     have hm:a∈as:=aAs h1;have nb:(b == a)=false:=by
      rw [beq_eq_false_iff_ne];rintro rfl;exact (aBd.mp nd).1 hm
     dsimp only;rw [nb];exact ih ds (aBd.mp nd).2 (Nat.succ.inj l) i a e h1 h2
 have fa:∀ (i:Nat) (a:Addr) (e:Dt),as[i]?=some a->ds[i]?=some e->f (.ref a)=eqD e d:=λi a e h1 h2=>by
  show ((as.zip ds).find? λp=>p.1 == a).any _=_;rw [key as ds nd ld i a e h1 h2]
  rfl
 refine SeqAt.in_listAt f pl.isList (λw hw=>?_) ⟨.bl _,H,I,rfl,?_⟩
 ·have hw':w∈as.map Value.ref:=by simpa using hw
  obtain ⟨i,hi⟩:=aBj hw';rw [aAg] at hi;obtain ⟨a,ha,rfl⟩:=aAi.mp hi;have il:=(aAj.mp ha).1;obtain ⟨e,he⟩:∃ e,ds[i]?=some e:=⟨_,aAv (3)⟩;rw [fa i a e ha he];obtain ⟨x1,ex,dx⟩:=hds.get he;rw [aAg,ha] at ex
  cases ex
  have j1:i < ds.length:=(aAj.mp he).1;have dep1:e.dep<=60:=by
   have:=lh (l:=ds) j1;have e2:ds.getD i .non=e:=by rw [aAM,he];rfl
   rw [e2] at this;lia
  exact (BP I 60 e d (.ref a) x (.ref a) v X.A.in1 dep1 dx hd rfl rx (by rw [nc];lia)).1
 ·have e1:(as.map Value.ref).toArray.any f=ds.any λe=>eqD e d:=by
   rw [show (as.map Value.ref).toArray.any f=(as.map Value.ref).any f by simp,List.any_map];have:∀ (as':List Addr) (ds':List Dt),ds'.length=as'.length->(∀ (i:Nat) (a:Addr) (e:Dt),as'[i]?=some a->ds'[i]?=some e->f (.ref a)=eqD e d)->as'.any (f ∘ Value.ref)=ds'.any λe=>eqD e d:=by
    intro as'
    induction as' with
    | nil=>intro ds' l _;cases ds' with
     | nil=>rfl
     | cons g t=>simp at l
    | cons b as' ih =>
     intro ds' l h
     cases ds' with
     | nil=>simp at l
     | cons g ds' =>
      rw [aBn,aBn,ih ds' (Nat.succ.inj l) λi a e h1 h2=>h (i+1) a e h1 h2];rw [show (f ∘ Value.ref) b=eqD g d from h 0 b g rfl rfl]
   exact this as ds ld fa
  rw [e1];exact q
end
end L2
namespace K88
open PySem L2 PyProof.Rows
abbrev j0:Stmt:=top 7
abbrev fG:Stmt:=top 10
abbrev gC:Stmt:=top 11
abbrev em:Stmt:=top 16
abbrev cW:Stmt:=top 17
abbrev cJ:Stmt:=top 18
abbrev dF:Stmt:=top 19
abbrev cX:Stmt:=top 20
abbrev fH:Stmt:=top 21
abbrev gF:Stmt:=top 22
abbrev eL:Stmt:=top 23
abbrev cw:Stmt:=top 24
abbrev cY:Stmt:=top 25
abbrev eM:Stmt:=top 26
abbrev eO:Stmt:=top 27
abbrev gG:Stmt:=top 28
abbrev mC:Stmt:=top 29
abbrev iD:Stmt:=top 40
abbrev iE:Stmt:=top 41
abbrev j3:Stmt:=top 42
abbrev gH:Stmt:=top 43
abbrev cr:Stmt:=top 44
abbrev gI:Stmt:=top 49
abbrev eP:Stmt:=top 50
abbrev iF:Stmt:=top 51
abbrev bU:Stmt:=top 52
abbrev gJ:Stmt:=top 53
abbrev gK:Stmt:=top 54
abbrev fI:Stmt:=top 55
abbrev gL:Stmt:=top 56
abbrev gM:Stmt:=top 57
abbrev cZ:Stmt:=top 58
abbrev cx:Stmt:=top 59
abbrev eo:Stmt:=top 60
abbrev eQ:Stmt:=top 62
abbrev gN:Stmt:=top 63
abbrev j4:Stmt:=top 64
abbrev gO:Stmt:=top 65
abbrev da:Stmt:=top 66
abbrev cC:Stmt:=top 67
abbrev dj:Stmt:=top 68
abbrev bz:Stmt:=top 69
abbrev bK:Stmt:=top 70
abbrev cK:Stmt:=top 71
abbrev fJ:Stmt:=top 72
abbrev bY:Stmt:=top 73
abbrev bP:Stmt:=top 74
abbrev bZ:Stmt:=top 75
abbrev cD:Stmt:=top 76
abbrev cL:Stmt:=top 77
abbrev gP:Stmt:=top 78
abbrev eI:Stmt:=top 79
abbrev fK:Stmt:=top 80
abbrev cM:Stmt:=top 81
abbrev bo:Stmt:=top 82
abbrev bD:Stmt:=top 83
abbrev dm:Stmt:=top 84
abbrev cE:Stmt:=top 85
abbrev uo:Stmt:=top 86
abbrev eA:Stmt:=bE (top 45) 0
abbrev cN:Stmt:=bE (top 45) 1
abbrev dq:Stmt:=bE (top 45) 2
abbrev eB:Stmt:=bE (top 45) 3
abbrev cg:Stmt:=bE (top 45) 4
theorem kI:FnScope ["self","text"] ["self","text"] (ae eA):=by constructor <;> first | rfl | decide +kernel
theorem eJ:FnScope ["self","ahead","at"] ["self","ahead"] (ae cN):=by constructor <;> first | rfl | decide +kernel
theorem j5:FnScope ["self","mark"] ["self","mark"] (ae dq):=by constructor <;> first | rfl | decide +kernel
theorem fY:FnScope ["self","sort","found"] ["self","sort"] (ae eB):=by constructor <;> first | rfl | decide +kernel
theorem gQ:FnScope ["self","mark"] ["self","mark"] (ae cg):=by constructor <;> first | rfl | decide +kernel
theorem sK:FnScope ["letter"] ["letter"] (ae j0):=by constructor <;> first | rfl | decide +kernel
theorem mR:FnScope ["number"] ["number"] (ae fG):=by constructor <;> first | rfl | decide +kernel
theorem jj:FnScope ["text","figures"] ["text"] (ae gC):=by constructor <;> first | rfl | decide +kernel
theorem kJ:FnScope ["sort","word"] ["sort","word"] (ae em):=by constructor <;> first | rfl | decide +kernel
theorem jk:FnScope ["kind","word"] ["kind"] (ae cW):=by constructor <;> first | rfl | decide +kernel
theorem jl:FnScope ["word","parts"] ["word","parts"] (ae cJ):=by constructor <;> first | rfl | decide +kernel
theorem sc_value_text:FnScope ["value","inner"] ["value"] (ae dF):=by constructor <;> first | rfl | decide +kernel
theorem dG:FnScope ["turn","word","forth","back"] ["turn"] (ae cX):=by constructor <;> first | rfl | decide +kernel
theorem mS:FnScope ["piece"] ["piece"] (ae fH):=by constructor <;> first | rfl | decide +kernel
theorem pH:FnScope ["path"] ["path"] (ae gF):=by constructor <;> first | rfl | decide +kernel
theorem mD:FnScope ["change"] ["change"] (ae eL):=by constructor <;> first | rfl | decide +kernel
theorem jm:FnScope ["sort","thing","form"] ["sort","thing"] (ae cw):=by constructor <;> first | rfl | decide +kernel
theorem pI:FnScope ["part","sort"] ["part","sort"] (ae cY):=by constructor <;> first | rfl | decide +kernel
theorem gR:FnScope ["word","texts","inner"] ["word","texts"] (ae eM):=by constructor <;> first | rfl | decide +kernel
theorem mE:FnScope ["texts"] ["texts"] (ae eO):=by constructor <;> first | rfl | decide +kernel
theorem pJ:FnScope ["word","text"] ["word","text"] (ae gG):=by constructor <;> first | rfl | decide +kernel
theorem vp:FnScope ["text"] ["text"] (ae mC):=by constructor <;> first | rfl | decide +kernel
theorem de:FnScope ["text","found","at","end"] ["text"] (ae iD):=by constructor <;> first | rfl | decide +kernel
theorem ko:FnScope ["text","at","close"] ["text","at"] (ae iE):=by constructor <;> first | rfl | decide +kernel
theorem iG:FnScope ["text","at","letters","end"] ["text","at","letters"] (ae j3):=by constructor <;> first | rfl | decide +kernel
theorem jn:FnScope ["text","number"] ["text"] (ae gH):=by constructor <;> first | rfl | decide +kernel
theorem aE:FnScope ["words","deepest","here","sort","told"] ["words"] (ae cr):=by constructor <;> first | rfl | decide +kernel
theorem pK:FnScope ["text"] ["text"] (ae gI):=by constructor <;> first | rfl | decide +kernel
theorem mF:FnScope ["text"] ["text"] (ae eP):=by constructor <;> first | rfl | decide +kernel
theorem gS:FnScope ["text","sort","row","told"] ["text","sort"] (ae iF):=by constructor <;> first | rfl | decide +kernel
theorem jo:FnScope ["row","sort","path"] ["row","sort"] (ae bU):=by constructor <;> first | rfl | decide +kernel
theorem jp:FnScope ["row","sort","word"] ["row","sort"] (ae gJ):=by constructor <;> first | rfl | decide +kernel
theorem fM:FnScope ["row","word","found"] ["row"] (ae gK):=by constructor <;> first | rfl | decide +kernel
theorem cm:FnScope ["row","opening","word","sort","closing"] ["row"] (ae fI):=by constructor <;> first | rfl | decide +kernel
theorem fN:FnScope ["row","word","forth"] ["row"] (ae gL):=by constructor <;> first | rfl | decide +kernel
theorem jq:FnScope ["row","names"] ["row"] (ae gM):=by constructor <;> first | rfl | decide +kernel
theorem dH:FnScope ["row","sort","word","form","found","part_sort"] ["row","sort","word"] (ae cZ):=by constructor <;> first | rfl | decide +kernel
theorem jr:FnScope ["row","sort","closing","found"] ["row","sort","closing"] (ae cx):=by constructor <;> first | rfl | decide +kernel
theorem kK:FnScope ["parts"] ["parts"] (ae eo):=by constructor <;> first | rfl | decide +kernel
theorem mG:FnScope ["script","k"] ["script","k"] (ae eQ):=by constructor <;> first | rfl | decide +kernel
theorem jt:FnScope ["cell","k","stir"] ["cell","k"] (ae gN):=by constructor <;> first | rfl | decide +kernel
theorem eC:FnScope ["script","k","turn","cell","found","j"] ["script","k","turn"] (ae j4):=by constructor <;> first | rfl | decide +kernel
theorem ju:FnScope ["row","many","digit"] ["row","many"] (ae gO):=by constructor <;> first | rfl | decide +kernel
theorem cF:FnScope ["row","many","base","tail","way","words"] ["row","many"] (ae da):=by constructor <;> first | rfl | decide +kernel
theorem cu:FnScope ["row","low","high"] ["row"] (ae cC):=by constructor <;> first | rfl | decide +kernel
theorem cO:FnScope ["row","way","words"] ["row"] (ae dj):=by constructor <;> first | rfl | decide +kernel
theorem bI:FnScope ["row","deep","room","many","fields","name"] ["row","deep","room"] (ae bz):=by constructor <;> first | rfl | decide +kernel
theorem aT:FnScope ["row","deep","room","names","key","fields","name","inner"] ["row","deep","room"] (ae bK):=by constructor <;> first | rfl | decide +kernel
theorem kq:FnScope ["row","deep","room","way"] ["row","deep","room"] (ae cK):=by constructor <;> first | rfl | decide +kernel
theorem kr:FnScope ["row","most","signs"] ["row","most"] (ae fJ):=by constructor <;> first | rfl | decide +kernel
theorem ao:FnScope ["kind","word","words","name","inner","number"] ["kind"] (ae bY):=by constructor <;> first | rfl | decide +kernel
theorem sc_law_value_words:FnScope ["value","words","part","marks"] ["value"] (ae bP):=by constructor <;> first | rfl | decide +kernel
theorem aA:FnScope ["turn","words","name","one","other","number"] ["turn"] (ae bZ):=by constructor <;> first | rfl | decide +kernel
theorem aQ:FnScope ["piece","words","k","part"] ["piece"] (ae cD):=by constructor <;> first | rfl | decide +kernel
theorem bQ:FnScope ["path","words","name"] ["path"] (ae cL):=by constructor <;> first | rfl | decide +kernel
theorem pL:FnScope ["words"] ["words"] (ae gP):=by constructor <;> first | rfl | decide +kernel
theorem pM:FnScope ["words","row"] ["words","row"] (ae eI):=by constructor <;> first | rfl | decide +kernel
theorem kt:FnScope ["row","word"] ["row"] (ae fK):=by constructor <;> first | rfl | decide +kernel
theorem jv:FnScope ["row"] ["row"] (ae cM):=by constructor <;> first | rfl | decide +kernel
theorem cP:FnScope ["row","deep","way","many"] ["row","deep"] (ae bo):=by constructor <;> first | rfl | decide +kernel
theorem dr:FnScope ["row","deep","way","forth"] ["row","deep"] (ae bD):=by constructor <;> first | rfl | decide +kernel
theorem bg:FnScope ["row","way","one","two","three","four"] ["row"] (ae dm):=by constructor <;> first | rfl | decide +kernel
theorem kL:FnScope ["row"] ["row"] (ae cE):=by constructor <;> first | rfl | decide +kernel
theorem fP:FnScope ["script","k","again","row","path","words","piece","text"] ["script"] (ae uo):=by constructor <;> first | rfl | decide +kernel
theorem pi1 {K:W.Frag} {X:Cx} {a:Expr} {ta:TE} {i j pos pos'} (hK:X.K=K) (ha:PE X a ta):PE X (.Subscript a (.Constant (.int i) j pos) pos') (tOp (wj K) ta (tC (.int i))):=pe_ix (iT hK) ha pe_int λ_ _=>rfl
theorem isS {K : W.Frag} {H : Hp} {z : Str} {Q : V -> Prop} (h : Q (.str z)) : ∀ v, IsP K H (.str z) v -> Q v := λv hv => by cases hv; exact h
theorem isI {K : W.Frag} {H : Hp} {z : Int} {Q : V -> Prop} (h : Q (.int z)) : ∀ v, IsP K H (.int z) v -> Q v := λv hv => by cases hv; exact h
theorem sz1 : 1 <= sizeLine := by decide
theorem sz2 : 2 <= sizeLine := by decide
theorem sz3 : 3 <= sizeLine := by decide
theorem pcl {X:Cx} {x:Str} {st:Stmt} {ps:List Str} {f:Addr} {fd:FuncData} {k:Nat} {sp:Sp} {e:Expr} {es:List Expr} {t:TA} {p pos:Pos} (D:Gn X.K X.mg x st ps f fd) (F:FnOk X.prog X.w X.K X.mg X.base CX0 k f fd ps sp) (hr:Room k X.A) (hg:Gl X x) (ha:PA X (e :: es) t) (hdb:(x == ("__debug__" : Str))=false:=by decide) (he:starEach (e :: es) X.env=(false,eval e X.env) :: starEach es X.env:=by rfl) (hpl:(backTo pos (starEach es X.env)).any (·.1)=false:=by rfl):PE X (.Call (.Name x p) (e :: es) [] pos) (sQ sp [] E0 t):=pe_call F hr hg D.m D.F.kp D.b .nil gd ha hdb he hpl
theorem pa1 {X:Cx} {e:Expr} {te:TE} (ha:PE X e te) (hs:starEach [e] X.env=(false,eval e X.env) :: starEach [] X.env):PA X [e] (bO te iL):=av ha pa_nil hs
theorem pa2 {X:Cx} {e f:Expr} {te tf:TE} (ha:PE X e te) (hb:PE X f tf) (hs:starEach [e,f] X.env=(false,eval e X.env) :: starEach [f] X.env) (ht:starEach [f] X.env=(false,eval f X.env) :: starEach [] X.env):PA X [e,f] (bO te (bO tf iL)):=av ha (av hb pa_nil ht) hs
theorem pa3 {X:Cx} {e f g:Expr} {te tf tg:TE} (ha:PE X e te) (hb:PE X f tf) (hc:PE X g tg) (hs:starEach [e,f,g] X.env=(false,eval e X.env) :: starEach [f,g] X.env) (ht:starEach [f,g] X.env=(false,eval f X.env) :: starEach [g] X.env) (hu:starEach [g] X.env=(false,eval g X.env) :: starEach [] X.env):PA X [e,f,g] (bO te (bO tf (bO tg iL))):=av ha (av hb (av hc pa_nil hu) ht) hs
structure Ads where
 HandError:Addr
 BadText:Addr
 WordRow:Addr
structure Tx (K:W.Frag) (mg:Str->Option Value) (ad:Ads):Prop where
 is_sign:∃ f fd,Gn K mg "is_sign" j0 ["letter"] f fd
 figures_of:∃ f fd,Gn K mg "figures_of" fG ["number"] f fd
 number_of:∃ f fd,Gn K mg "number_of" gC ["text"] f fd
 parts_behind:∃ f fd,Gn K mg "parts_behind" em ["sort","word"] f fd
 kind_text:∃ f fd,Gn K mg "kind_text" cW ["kind"] f fd
 most_exchanged:∃ f fd,Gn K mg "most_exchanged" cJ ["word","parts"] f fd
 value_text:∃ f fd,Gn K mg "value_text" dF ["value"] f fd
 turn_text:∃ f fd,Gn K mg "turn_text" cX ["turn"] f fd
 piece_text:∃ f fd,Gn K mg "piece_text" fH ["piece"] f fd
 path_text:∃ f fd,Gn K mg "path_text" gF ["path"] f fd
 change_text:∃ f fd,Gn K mg "change_text" eL ["change"] f fd
 form_text:∃ f fd,Gn K mg "form_text" cw ["sort","thing"] f fd
 part_text:∃ f fd,Gn K mg "part_text" cY ["part","sort"] f fd
 in_brackets:∃ f fd,Gn K mg "in_brackets" eM ["word","texts"] f fd
 with_commas:∃ f fd,Gn K mg "with_commas" eO ["texts"] f fd
 pair_text:∃ f fd,Gn K mg "pair_text" gG ["word","text"] f fd
 quoted:∃ f fd,Gn K mg "quoted" mC ["text"] f fd
 words_of:∃ f fd,Gn K mg "words_of" iD ["text"] f fd
 word_end:∃ f fd,Gn K mg "word_end" iE ["text","at"] f fd
 run_end:∃ f fd,Gn K mg "run_end" j3 ["text","at","letters"] f fd
 made_word:∃ f fd,Gn K mg "made_word" gH ["text"] f fd
 deepest_brackets:∃ f fd,Gn K mg "deepest_brackets" cr ["words"] f fd
 read_path:∃ f fd,Gn K mg "read_path" gI ["text"] f fd
 read_change:∃ f fd,Gn K mg "read_change" eP ["text"] f fd
 read_all:∃ f fd,Gn K mg "read_all" iF ["text","sort"] f fd
 part_read:∃ f fd,Gn K mg "part_read" bU ["row","sort"] f fd
 pair_read:∃ f fd,Gn K mg "pair_read" gJ ["row","sort"] f fd
 kind_read:∃ f fd,Gn K mg "kind_read" gK ["row"] f fd
 value_read:∃ f fd,Gn K mg "value_read" fI ["row"] f fd
 turn_read:∃ f fd,Gn K mg "turn_read" gL ["row"] f fd
 path_read:∃ f fd,Gn K mg "path_read" gM ["row"] f fd
 form_read:∃ f fd,Gn K mg "form_read" cZ ["row","sort","word"] f fd
 list_read:∃ f fd,Gn K mg "list_read" cx ["row","sort","closing"] f fd
 at_least_one:∃ f fd,Gn K mg "at_least_one" eo ["parts"] f fd
 law_cell_at:∃ f fd,Gn K mg "_law_cell_at" eQ ["script","k"] f fd
 law_mixed:∃ f fd,Gn K mg "_law_mixed" gN ["cell","k"] f fd
 law_own:∃ f fd,Gn K mg "_law_own" j4 ["script","k","turn"] f fd
 law_digit:∃ f fd,Gn K mg "_law_digit" gO ["row","many"] f fd
 law_names:∃ f fd,Gn K mg "_law_names" da ["row","many"] f fd
 law_number_kind:∃ f fd,Gn K mg "_law_number_kind" cC ["row"] f fd
 law_leaf_kind:∃ f fd,Gn K mg "_law_leaf_kind" dj ["row"] f fd
 law_record_kind:∃ f fd,Gn K mg "_law_record_kind" bz ["row","deep","room"] f fd
 law_rows_kind:∃ f fd,Gn K mg "_law_rows_kind" bK ["row","deep","room"] f fd
 law_kind:∃ f fd,Gn K mg "_law_kind" cK ["row","deep","room"] f fd
 law_text:∃ f fd,Gn K mg "_law_text" fJ ["row","most"] f fd
 law_kind_words:∃ f fd,Gn K mg "_law_kind_words" bY ["kind"] f fd
 law_value_words:∃ f fd,Gn K mg "_law_value_words" bP ["value"] f fd
 law_turn_words:∃ f fd,Gn K mg "_law_turn_words" bZ ["turn"] f fd
 law_piece_words:∃ f fd,Gn K mg "_law_piece_words" cD ["piece"] f fd
 law_path_words:∃ f fd,Gn K mg "_law_path_words" cL ["path"] f fd
 law_tight:∃ f fd,Gn K mg "_law_tight" gP ["words"] f fd
 law_loose:∃ f fd,Gn K mg "_law_loose" eI ["words","row"] f fd
 law_word:∃ f fd,Gn K mg "_law_word" fK ["row"] f fd
 law_any_number:∃ f fd,Gn K mg "_law_any_number" cM ["row"] f fd
 law_any_value:∃ f fd,Gn K mg "_law_any_value" bo ["row","deep"] f fd
 law_any_turn:∃ f fd,Gn K mg "_law_any_turn" bD ["row","deep"] f fd
 law_any_piece:∃ f fd,Gn K mg "_law_any_piece" dm ["row"] f fd
 law_any_path:∃ f fd,Gn K mg "_law_any_path" cE ["row"] f fd
 law:∃ f fd,Gn K mg "law" uo ["script"] f fd
 o_WordRow:mg "WordRow" = some (.ref ad.WordRow)
 c_WordRow:Cls K ad.WordRow
 n_WordRow_all_words:NoAttr K ad.WordRow "all_words"
 n_WordRow_place:NoAttr K ad.WordRow "place"
 m_WordRow_init:∃ f fd,Mi K ad.WordRow "__init__" "WordRow.__init__" eA ["self","text"] f fd
 m_WordRow_coming:∃ f fd,Mn K ad.WordRow "coming" "WordRow.coming" cN ["self","ahead"] f fd
 m_WordRow_comes:∃ f fd,Mn K ad.WordRow "comes" "WordRow.comes" dq ["self","mark"] f fd
 m_WordRow_take:∃ f fd,Mn K ad.WordRow "take" "WordRow.take" eB ["self","sort"] f fd
 m_WordRow_take_mark:∃ f fd,Mn K ad.WordRow "take_mark" "WordRow.take_mark" cg ["self","mark"] f fd
 x_HandError:ExC K mg "HandError" ad.HandError
 x_BadText:ExC K mg "BadText" ad.BadText
 LETTERS:∃ t,mg "LETTERS" = some (.str "abcdefghijklmnopqrstuvwxyz" t)
 LONGEST_NAME:∃ t,mg "LONGEST_NAME" = some (.int 8 t)
 PERCENT:∃ t,mg "PERCENT" = some (.int 37 t)
 FIGURES:∃ t,mg "FIGURES" = some (.str "0123456789" t)
 KIND_PARTS:mg "KIND_PARTS" = some (.ref 59)/\lA K 59 [("number",60),("text",61),("list",62),("rows",63)]/\lB K [(60,["number","number"]),(61,["number"]),(62,["number","kind"]),(63,["word","number","kind"])]
 TURN_PARTS:mg "TURN_PARTS" = some (.ref 64)/\lA K 64 [("bounds",65),("scale",66),("shrink",67),("figures",68),("number",69),("cut",70),("first",71),("one",72),("out",73),("items",74)]/\lB K [(65,["number","number"]),(66,["number"]),(67,["number"]),(68,["number"]),(69,["number","number"]),(70,["number"]),(71,["number"]),(72,["number"]),(73,[]),(74,["turn"])]
 PIECE_PARTS:mg "PIECE_PARTS" = some (.ref 75)/\lA K 75 [("put",76),("drop",77),("name",78),("sink",79),("lift",80),("turn",81),("split",82),("join",83),("part",84),("whole",85)]/\lB K [(76,["word","kind","value"]),(77,["word","value"]),(78,["word","word"]),(79,["word","word"]),(80,["word","word"]),(81,["word","turn"]),(82,["word","text","word","word"]),(83,["word","word","text","word"]),(84,["word","number","word","word"]),(85,["word","word","number","word","number","number"])]
 BLANK:∃ t,mg "BLANK" = some (.str " " t)
 QUOTE:∃ t,mg "QUOTE" = some (.str "\"" t)
 MINUS:∃ t,mg "MINUS" = some (.str "-" t)
 OPENING:∃ t,mg "OPENING" = some (.str "([{" t)
 CLOSING:∃ t,mg "CLOSING" = some (.str ")]}" t)
 MARKS:∃ t,mg "MARKS" = some (.str "()[]{},:;/" t)
 MOST_FIGURES:∃ t,mg "MOST_FIGURES" = some (.int 60 t)
 MOST_BRACKETS:∃ t,mg "MOST_BRACKETS" = some (.int 40 t)
 END:mg "END" = some (.ref 176)/\lB K [(176,["end",""])]
 PAIR_SORTS:∃ a,mg "PAIR_SORTS" = some (.ref a)/\oB K a [("field","kind"),("entry","value"),("way","word")]
 BRACKETED:mg "BRACKETED" = some (.ref 263)/\yT K 263 [260,261,262]/\lB K [(260,["[","list","value","]"]),(261,["{","record","entry","}"]),(262,["(","rows","value",")"])]
 z_all:mg "all" = none
 z_int:mg "int" = none
 z_isinstance:mg "isinstance" = none
 z_len:mg "len" = none
 z_list:mg "list" = none
 z_max:mg "max" = none
 z_min:mg "min" = none
 z_ord:mg "ord" = none
 z_range:mg "range" = none
 z_sorted:mg "sorted" = none
 z_str:mg "str" = none
 z_sum:mg "sum" = none
 z_tuple:mg "tuple" = none
 z_zip:mg "zip" = none
abbrev depth:Nat:=120
def IA (K:W.Frag):Sp:=λvs H Q _=>∃ (a:Addr) (ns:List Int),vs=[.ref a]/\SqL K H a (ns.map V.int)/\ns.length<=63/\∀ H',Q (.bl true) H'
section
variable {P:Program} {w:World} {K:W.Frag} {mg:Str->Option Value} {ad:Ads} {base:Heap}
theorem bC {K:W.Frag} {H:Hp} {z:Str} {v:V} (h:IsP K H (.str z) v):v=.str z:=by cases h;rfl
theorem lI {K:W.Frag} {H:Hp} {i:Int} {v:V} (h:IsP K H (.int i) v):v=.int i:=by cases h;rfl
theorem bS {A B:Prop} {x:V} (h:A):if decide (x=x)=true then A else B:=by rw [if_pos (decide_eq_true rfl)];exact h
theorem bt {A B:Prop} {x y:V} (n:x≠y) (h:B):if decide (x=y)=true then A else B:=by rw [if_neg (λc=>n (of_decide_eq_true c))];exact h
theorem wC {A B:Prop} {x y:V} (n:x≠y) (h:A):if (!decide (x=y))=true then A else B:=by rw [if_pos (by rw [decide_eq_false n];rfl)];exact h
theorem qp {A B:Prop} {x:V} (h:B):if (!decide (x=x))=true then A else B:=by rw [if_neg (by rw [decide_eq_true rfl];decide)];exact h
theorem aM {a b:Str} (h:a≠b):V.str a≠V.str b:=λe=>h (V.str.inj e)
theorem at0 {α:Type} (c:α) (r:List α):atI (c :: r) 0=some c:=by
 have e:atI (c :: r) ((0:Nat):Int)=some c:=fq (1);exact e
theorem am (z:Str):z.cps.toList.length=z.length:=aAU
theorem cf {n:Nat} (h:n<=100000):n<=sizeLine:=aAz h (by decide)
theorem qq {α:Type} {l:List α} {n:Nat} {c:α} (h:l[n]?=some c):atI l (n:Int)=some c:=fq h
theorem nv {α β:Type} {xs:List α} {i:Nat} {x:α} (f:α->β) (h:xs[i]?=some x):(xs.take i).map f++[f x]=(xs.take (i+1)).map f:=by
 rw [aAC,h,aAr];rfl
abbrev letters:Str:= "abcdefghijklmnopqrstuvwxyz"
def inB (c:Nat):Bool:=!(Builtin.Str.occurrences letters ⟨#[c]⟩ 0 letters.length 1).isEmpty
def eY (z:Str):Bool:=decide (1<=z.length) && decide (z.length<=8) && !decide (z= "each") && z.cps.toList.all inB
def ltS (a b:Str):Prop:=a.cps.toList < b.cps.toList
instance (a b:Str):Decidable (ltS a b):=inferInstanceAs (Decidable (a.cps.toList < b.cps.toList))
def jH (ws:List Str):Bool:=decide (1<=ws.length) && decide (ws.length<=8) && ws.all eY && decide ws.Nodup
abbrev G4:=Str×Dt×Nat×Nat
abbrev prG (g:G4):Dt:=.tup [.str g.1,g.2.1]
def jI:List Nat->Nat
 | []=>0
 | n :: r=>n+jI r
def qr:List Nat->Nat
 | []=>0
 | n :: r=>max n (qr r)
def IB (l:List Dt) (z:Str):Prop:=∃ w r,Dt.tup [.str z,.tup (.str w :: r)]∈l/\(w= "number" \/w= "text")
inductive FK:Nat->Nat->Dt->Prop
 | text (i:Int):0<=i->i<=60->FK 1 1 (.tup [.str "text",.int i])
 | choice (ws:List Str):jH ws=true->FK 1 1 (.tup [.str "choice",.tup (ws.map Dt.str)])
 | number (i j:Int):-1000000000000000000000000000000<=i->i<=j->j<=1000000000000000000000000000000->FK 1 1 (.tup [.str "number",.int i,.int j])
 | list {a c:Nat} {k:Dt} {i:Int}:FK a c k->0<=i->i<=8->FK (a+1) (c+1) (.tup [.str "list",k,.int i])
 | rows {a c:Nat} {z:Str} {l:List Dt} {i:Int}:FK a c (.tup [.str "record",.tup l])->IB l z->0<=i->i<=8->FK (a+1) (c+1) (.tup [.str "rows",.str z,.tup [.str "record",.tup l],.int i])
 | rcd {gs:List G4}:(∀ g∈gs,FK g.2.2.1 g.2.2.2 g.2.1)->(gs.map (·.1)).Pairwise ltS->(∀ g∈gs,eY g.1=true/\g.1≠ "noneone")->gs.length<=8->FK (qr (gs.map (·.2.2.1))+1) (jI (gs.map (·.2.2.2))+1) (.tup [.str "record",.tup (gs.map prG)])
theorem FK.pos {a c:Nat} {d:Dt} (h:FK a c d):1<=a:=by cases h <;> lia
theorem wD {n:Nat}:∀ {l:List Nat},n∈l->n<=qr l
 | m :: l,h=>by
  show n<=max m (qr l);rcases aAn.mp h with rfl | h
  ·exact Nat.le_max_left _ _
  ·exact aAz (wD h) (Nat.le_max_right _ _)
theorem max_le {b:Nat}:∀ {l:List Nat},(∀ n∈l,n<=b)->qr l<=b
 | [],_=>aAE _
 | m :: l,h=>by
  show max m (qr l)<=b;exact Nat.max_le.mpr ⟨h m aAh,max_le λn hn=>h n (aAf _ hn)⟩
theorem IC {n:Nat} (h:n<=1000):n<=sizeLine:=aBa (ay h)
theorem wE {l:List Str} (h:l.Pairwise ltS):l.Nodup:=List.Pairwise.imp (λ{a b} hab e=>by
 subst e;exact absurd hab (List.lt_irrefl _)) h
def oC (_:W.Frag) (_:Ads):Sp:=λvs H Q _=>∃ i k:Int,vs=[.int i,.int k]/\∀ c:Int,0<=c->c < 2147483647->Q (.int c) H
def iW (_:W.Frag) (_:Ads):Sp:=λvs H Q _=>∃ (r:Addr) (n m:Int),vs=[.ref r,.int m]/\H r=some (.lst [.int n])/\0 < m/\m < 10000000000000000000000000000000000000000000000000000000000000/\Q (.int (n % m)) (upd H r (.lst [.int (n / m)]))
def lJ (K:W.Frag) (_:Ads):Sp:=λvs H Q _=>∃ (a:Addr) (ns:List Int) (k:Nat),vs=[.ref a,.int k]/\SqL K H a (ns.map V.int)/\ns.length<=63/\∀ c,Q (.int c) H
def sh (K:W.Frag) (_:Ads):Sp:=λvs H Q _=>∃ (a:Addr) (ns:List Int) (k t:Nat),vs=[.ref a,.int k,.int t]/\SqL K H a (ns.map V.int)/\ns.length<=63/\k < 1000/\t < 5 /\
 ∀ r n H',H r=none->Same H H'->H' r=some (.lst [.int n])->Q (.ref r) H'
theorem oE (T:Tx K mg ad) {f:Addr} {fd:FuncData} (F:Gn K mg "_law_mixed" gN ["cell","k"] f fd):FnOk P w K mg base CX0 1 f fd ["cell","k"] (oC K ad):=by
 refine F.F.ok jt (λvs H Q E h=>?_) (λcdv A outer s H vs Q E hr h=>?_)
 ·obtain ⟨i,k,rfl,_⟩:=h
  rfl
 obtain ⟨i,k,rfl,q⟩:=h;refine ⟨_,(6,(23,jt.nd,(16,dO,(16,fZ,(16,aZ,(15,aZ,(16,dO,pv 0),(15,fZ,pe_int,pv 1)))))),(5,(8,(16,dO,(16,fZ,(16,dO,(15,fZ,pv 2,pv 2))))))),?_⟩;refine ⟨_,rfl,_,_,rfl,rfl,(by show (0:Int) < 1000000007;decide),_,rfl,_,_,rfl,rfl,.inl ⟨by decide,by decide⟩,_,_,rfl,rfl,_,_,rfl,rfl,_,_,rfl,rfl,.inr ⟨by decide,by decide⟩,_,_,rfl,rfl,(by show (0:Int) < 2147483647;decide),?_⟩;have b0:(0:Int)<=(i % 1000000007+7919*k+1)*48271 % 2147483647:=aBU _ (by decide);have b1:(i % 1000000007+7919*k+1)*48271 % 2147483647 < 2147483647:=aBG _ (by decide);exact ⟨_,rfl,_,rfl,_,_,rfl,rfl,.inl ⟨by lia,(3)⟩,_,_,rfl,rfl,(by show (0:Int) < 2147483629;decide),_,_,rfl,rfl,.inr ⟨by decide,by decide⟩,_,_,rfl,rfl,(by show (0:Int) < 2147483647;decide),q _ (aBU _ (by decide)) (aBG _ (by decide))⟩
theorem aF (T:Tx K mg ad) {f:Addr} {fd:FuncData} (F:Gn K mg "_law_digit" gO ["row","many"] f fd):FnOk P w K mg base CX0 1 f fd ["row","many"] (iW K ad):=by
 refine F.F.ok ju (λvs H Q E h=>?_) (λcdv A outer s H vs Q E hr h=>?_)
 ·obtain ⟨r,n,m,rfl,_⟩:=h
  rfl
 obtain ⟨r,n,m,rfl,hr0,h0,h1,q⟩:=h;refine ⟨_,(6,(23,ju.nd,(15,dO,@pe_ix _ _ _ _ _ _ _ (aG (K:=K) rfl) (pv 0) pe_int (λ_ _=>rfl),pv 1)),(6,nU (15,lq,@pe_ix _ _ _ _ _ _ _ (aG (K:=K) rfl) (pv 0) pe_int (λ_ _=>rfl),pv 1) (rf (pv 0) pe_int k8),(5,(8,pv 2)))),?_⟩;have e0:atI [V.int n] 0=some (.int n):=rfl;exact ⟨_,rfl,r,_,_,_,rfl,rfl,SqL.of hr0,e0,_,rfl,_,_,rfl,rfl,h0,_,rfl,r,_,_,_,rfl,rfl,SqL.of hr0,e0,_,rfl,_,_,rfl,rfl,⟨h0,h1⟩,_,rfl,r,_,_,_,rfl,rfl,hr0,rfl,_,rfl,q⟩
theorem lK {α:Type} {xs:List α} {d:Int} (h0:0<=d) (h1:d < (xs.length:Int)):∃ v,v∈xs/\atI xs d=some v:=by
 have hk:d.toNat < xs.length:=(3)
 have ek:((d.toNat:Nat):Int)=d:=(3)
 have e:atI xs ((d.toNat:Nat):Int)=some xs[d.toNat]:=fq (by simp [hk]);rw [ek] at e;exact ⟨xs[d.toNat],aBM hk,e⟩
theorem mod_lt (n:Int) {m:Int} (h:0 < m):0<=n % m/\n % m < m:=⟨aBU _ (3),aBG _ h⟩
theorem lL (T:Tx K mg ad) {f:Addr} {fd:FuncData} (F:Gn K mg "_law_cell_at" eQ ["script","k"] f fd):FnOk P w K mg base CX0 1 f fd ["script","k"] (lJ K ad):=by
 refine F.F.ok mG (λvs H Q E h=>?_) (λcdv A outer s H vs Q E hr h=>?_)
 ·obtain ⟨a,ns,k,rfl,_⟩:=h
  rfl
 obtain ⟨a,ns,k,rfl,hS,h63,q⟩:=h;refine ⟨_,(6,(11,pt_cmpR fQ (pv 1) (pe_callB (bA (K:=K) rfl) rfl T.z_len PySem.boot_len (@pa1 _ _ _ (pv 0) (1))) (nomark _),(5,(8,@pe_ix _ _ _ _ _ _ _ (aG (K:=K) rfl) (pv 0) (pv 1) (λ_ _=>rfl)))),(5,(8,pe_int))),?_⟩;refine ⟨_,rfl,_,rfl,a,_,rfl,.inl hS,_,_,rfl,rfl,_,rfl,?_⟩;rw [aAa];refine bi (λc=>?_) (λc=>?_)
 ·have c':(k:Int) < ns.length:=of_decide_eq_true c;obtain ⟨v,hv,e⟩:=lK (xs:=ns.map V.int) (d:=(k:Int)) (3) (by rw [aAa];exact c');obtain ⟨i,_,rfl⟩:=aAm.mp hv;exact ⟨_,rfl,_,rfl,a,_,_,_,rfl,rfl,hS,e,q i⟩
 ·exact q 0
theorem Ce {y:Int} (h0:0<=y) (h1:y < 2147483647 ^ 40):IntMulOk (y / 8) (10 ^ Int.toNat 60):=by
 refine IntMulOk.of_le (m:=1240) (n:=200) (intBits_le_iff.mpr ?_) (4) (by decide);have h2:(2147483647:Int) ^ 40<=((2 ^ 1240:Nat):Int):=(4)
 have h3:y / 8<=y:=Int.ediv_le_self _ h0;have h4:0<=y / 8:=(3)
 lia
theorem wF {y c:Int} {i:Nat} (h0:0<=y) (h1:y < 2147483647 ^ i) (c0:0<=c) (c1:c < 2147483647):0<=y*2147483647+c/\y*2147483647+c < 2147483647 ^ (i+1):=by
 have e:(2147483647:Int) ^ (i+1)=2147483647 ^ i*2147483647:=Int.pow_succ _ _;rw [e]
 generalize (2147483647:Int) ^ i=b at *
 lia
theorem sj (T:Tx K mg ad) {f:Addr} {fd:FuncData} (F:Gn K mg "_law_own" j4 ["script","k","turn"] f fd):FnOk P w K mg base CX0 2 f fd ["script","k","turn"] (sh K ad):=by
 obtain ⟨_,_,KU⟩:=T.law_cell_at;have Lm:=lL (P:=P) (w:=w) (base:=base) T KU;obtain ⟨_,_,Lb⟩:=T.law_mixed;have Lw:=oE (P:=P) (w:=w) (base:=base) T Lb;refine F.F.ok eC (λvs H Q E h=>?_) (λcdv A outer s H vs Q E hr h=>?_)
 ·obtain ⟨a,ns,k,t,rfl,_⟩:=h
  rfl
 obtain ⟨a,ns,k,t,rfl,hS,h63,hk,ht,q⟩:=h;refine ⟨_,(@pss_cons _ _ _ _ _ (21,3,eC.nd,(10,KU,Lm,@pa2 _ _ _ _ _ (pv 0) (pv 1) (1) (1))) (@pss_cons _ _ _ _ _ (21,4,eC.nd,pe_int) (@pss_cons _ _ _ _ _ (ps_for PassesOwn.never rfl (bf rfl T.z_range (9,pe_int)) (aj (i:=5) eC.nd rfl (Or.inl rfl))
    (5,(21,4,eC.nd,(15,aZ,(16,fZ,pv 4),(10,Lb,Lw,(12,(15,aZ,(15,aZ,(15,dO,pe_callB vS rfl T.z_sum boot_sum (@pa1 _ _ _ (pv 0) (1)),(16,eK,pe_int)),pv 3),pv 1),(15,aZ,(15,aZ,(15,fZ,pe_int,pv 1),(15,fZ,pe_int,pv 2)),pv 5))))))) (6,(11,PW.pt (@pw_and _ _ _ _ _ _ _ (pt_cmpR HR (pv 3) (16,eK,pe_int) (nomark _)) (@pw_and1 _ _ _ _ (pt_cmpR op_eq (pv 2) pe_int (nomark _)))),(5,(8,@pe_lst _ _ _ _ (9,(15,aZ,(15,dO,pv 3,(16,eK,pe_int)),(15,oq,(16,lq,pv 4),(16,eK,pe_int))))))),(5,(8,@pe_lst _ _ _ _ (9,(16,lq,pv 4)))))))),?_⟩
 refine ⟨_,rfl,_,rfl,a,ns,k,rfl,hS,h63,λx=>?_⟩;refine ⟨40,rfl,by decide,by decide,gT (lo:=0) (n:=(40:Int).toNat) (λi σ H1=>H1=H/\∃ y v,(0<=y/\y < 2147483647 ^ i)/\σ=[some (.ref a),some (.int k),some (.int t),some (.int x),some (.int y),v]) ⟨rfl,0,_,⟨Int.le_refl _,by decide⟩,rfl⟩ ?_ ?_⟩
 ·rintro i σ H1 hi ⟨rfl,y,v,⟨y0,y1⟩,rfl⟩;refine ⟨_,rfl,_,_,rfl,rfl,.inr ⟨by decide,by decide⟩,?_⟩;refine ⟨_,rfl,a,ns,rfl,rfl,hS,_,_,rfl,rfl,⟨by decide,by decide,by decide⟩,_,_,rfl,rfl,(by show (0:Int) < 10 ^ (60:Int).toNat;decide +kernel),?_⟩;refine ⟨_,rfl,_,_,rfl,rfl,_,rfl,_,_,rfl,rfl,?_⟩;refine ⟨_,rfl,_,_,rfl,rfl,.inl ⟨by decide,by decide⟩,_,rfl,_,_,rfl,rfl,.inl ⟨by decide,by decide⟩,?_⟩;refine ⟨_,_,rfl,rfl,_,rfl,_,_,rfl,rfl,_,_,rfl,λm m0 m1=>?_⟩;exact ⟨_,_,rfl,rfl,rfl,_,_,wF y0 y1 m0 m1,rfl⟩
 ·rintro σ H1 ⟨rfl,y,v,⟨y0,y1⟩,rfl⟩;refine ⟨_,rfl,_,_,rfl,rfl,⟨by decide,by decide,by decide⟩,_,_,rfl,rfl,_,rfl,?_⟩;refine bi (λc1=>?_) (λc1=>?_)
  ·refine ⟨_,rfl,rfl,_,rfl,bi (λc2=>?_) (λc2=>?_)⟩
   ·refine ⟨_,rfl,_,_,rfl,rfl,⟨by decide,by decide,by decide⟩,_,_,rfl,rfl,(by show (0:Int) < 10 ^ (60:Int).toNat;decide +kernel),?_⟩;refine ⟨_,rfl,_,_,rfl,rfl,⟨by decide,by decide⟩,_,_,rfl,rfl,⟨by decide,by decide,by decide⟩,?_⟩;refine ⟨_,_,rfl,rfl,Ce y0 y1,_,_,rfl,rfl,sz1,λr hr'=>q r _ _ hr' (ag hr' _) aa⟩
   ·exact ⟨_,rfl,_,_,rfl,rfl,⟨by decide,by decide⟩,sz1,λr hr'=>q r _ _ hr' (ag hr' _) aa⟩
  ·exact ⟨_,rfl,_,_,rfl,rfl,⟨by decide,by decide⟩,sz1,λr hr'=>q r _ _ hr' (ag hr' _) aa⟩
structure Nam (m:Nat) (ss:List Str):Prop where
 len:ss.length=m
 asc:ss.Pairwise ltS
 ok:∀ z∈ss,eY z=true/\z≠ "noneone"
theorem wG {a b:Str} (h:¬ ltS b a) (n:a≠b):ltS a b:=by
 by_cases c:ltS a b
 ·exact c
 ·refine absurd ?_ n;have e:a.cps.toList=b.cps.toList:=List.le_antisymm (List.not_lt.mp h) (List.not_lt.mp c)
  cases a
  cases b
  simp only at e;rw [Array.toList_inj.mp e]
theorem ny:∀ (l:List Str) (p:Str),risingS p l=true->(p :: l).Nodup->(p :: l).Pairwise ltS
 | [],p,_,_=>List.pairwise_singleton _ _
 | x :: l,p,h,nd=>by
  simp only [risingS,ltCps_eq,aAB,aBI,decide_eq_false_iff_not] at h;have nd':=aBd.mp nd;have ih:=ny l x h.2 nd'.2;have px:ltS p x:=wG h.1 λe=>nd'.1 (e ▸ aAh);refine List.pairwise_cons.mpr ⟨λy hy=>?_,ih⟩;rcases aAn.mp hy with rfl | hy
  ·exact px
  ·exact List.lt_trans px ((List.pairwise_cons.mp ih).1 y hy)
theorem uW {l:List Str} (h:sortedS l=true) (nd:l.Nodup):l.Pairwise ltS:=by
 cases l with
 | nil=>exact .nil
 | cons x l=>exact ny l x h nd
theorem lM {ss l:List Str} (hp:ss.Perm l) (hs:sortedS ss=true) (nd:l.Nodup) (ok:∀ z∈l,eY z=true/\z≠ "noneone"):Nam l.length ss :=
 ⟨hp.length_eq,uW hs (hp.nodup_iff.mpr nd),λz hz=>ok z (hp.mem_iff.mp hz)⟩
def f1 (k:Nat):Str:=Txt.slice "abcdefgh" none (some (0+(k:Int)+1))
theorem ID:∀ m,m < 9->((List.range m).map f1).Pairwise ltS/\∀ z∈(List.range m).map f1,eY z=true/\z≠ "noneone" :=(4)
def words8:List Str:=["eac","eachx","list","lists","number","rows","text","words"]
def f2 (b k:Nat):Str:=words8.getD ((b+k) % 8) ""
theorem IE:∀ b,b < 26->((List.range 8).map (f2 b)).Nodup/\∀ z∈(List.range 8).map (f2 b),eY z=true/\z≠ "noneone" :=(4)
def tails:List Str:=["","a","zz","eachone"]
def f3 (b:Nat) (t:Str) (k:Nat):Str:=⟨#[letters.cps.toList.getD ((b+7*k) % 26) 0]⟩++t
theorem IF:∀ b,b < 26->∀ t∈tails,((List.range 8).map (f3 b t)).Nodup/\∀ z∈(List.range 8).map (f3 b t),eY z=true/\z≠ "noneone" :=(4)
theorem yU {f:Nat->Str} {m:Nat} (hm:m<=8) (h:((List.range 8).map f).Nodup/\∀ z∈(List.range 8).map f,eY z=true/\z≠ "noneone"):((List.range m).map f).Nodup/\∀ z∈(List.range m).map f,eY z=true/\z≠ "noneone" :=by
 have s:((List.range m).map f).Sublist ((List.range 8).map f):=(List.range_sublist.mpr hm).map f;exact ⟨s.nodup h.1,λz hz=>h.2 z (s.subset hz)⟩
def oF (K:W.Frag) (_:Ads):Sp:=λvs H Q _=>∃ (r:Addr) (c:Int) (m:Nat),vs=[.ref r,.int m]/\H r=some (.lst [.int c])/\m<=8 /\
 ∀ p ss c' H',But r H H'->H p=none->H' r=some (.lst [.int c'])->H' p=some (.lst (ss.map V.str))->Nam m ss->Q (.ref p) H'
theorem oG {α:Type} {l:List α} {n:Nat} {e:α} (h:n < l.length):l.getD n e=l[n]:=by simp [List.getD,h]
theorem tH {α:Type} (f:α->V) (ws:List α) (d:Int) (e:α) (h0:0<=d) (h1:d < (ws.length:Int)):atI (ws.map f) d=some (f (ws.getD d.toNat e)):=by
 have hk:d.toNat < ws.length:=(3)
 have ek:((d.toNat:Nat):Int)=d:=(3)
 have e':atI (ws.map f) ((d.toNat:Nat):Int)=some (f ws[d.toNat]):=fq (by simp [hk]);rw [ek] at e';rw [e',oG hk]
theorem iq (f:Nat->Str) (i:Nat):((List.range i).map f).map V.str++[V.str (f i)]=((List.range (i+1)).map f).map V.str:=by simp [List.range_succ]
theorem jJ (f:Nat->Str) {i:Nat} (h:i<=8):(((List.range i).map f).map V.str).length < sizeLine:=by rw [aAa,aAa,aBg];exact ay (3)
theorem bB {r l:Addr} {o:HO} {H H':Hp} (b:But r H H') (hl:H l=none):But r H (upd H' l o):=λx u n e=>by rw [ac (ah e hl)];exact b x u n e
theorem IG {b k:Nat}:atI (words8.map V.str) (((b:Int)+(0+(k:Int))) % 8)=some (.str (f2 b k)):=by
 obtain ⟨h0,h1⟩:=mod_lt ((b:Int)+(0+(k:Int))) (m:=8) (by decide);rw [tH V.str words8 _ "" h0 h1,show (((b:Int)+(0+(k:Int))) % 8).toNat=(b+k) % 8 by lia]
 rfl
theorem IH {b k:Nat}:atI letters.cps.toList (((b:Int)+7*(0+(k:Int))) % 26)=some (letters.cps.toList.getD ((b+7*k) % 26) 0):=by
 obtain ⟨h0,h1⟩:=mod_lt ((b:Int)+7*(0+(k:Int))) (m:=26) (by decide);have hk:(b+7*k) % 26 < letters.cps.toList.length:=by
  rw [show letters.cps.toList.length=26 by decide +kernel];lia
 have ek:(((b+7*k) % 26:Nat):Int)=((b:Int)+7*(0+(k:Int))) % 26:=(3)
 have e':atI letters.cps.toList ((((b+7*k) % 26:Nat)):Int)=some letters.cps.toList[(b+7*k) % 26]:=fq (by simp [hk]);rw [ek] at e';rw [e',oG hk]
theorem fz (T:Tx K mg ad) {f:Addr} {fd:FuncData} (F:Gn K mg "_law_names" da ["row","many"] f fd):FnOk P w K mg base CX0 2 f fd ["row","many"] (oF K ad):=by
 obtain ⟨_,_,JA⟩:=T.law_digit;have JC:=aF (P:=P) (w:=w) (base:=base) T JA;refine F.F.ok cF (λvs H Q E h=>?_) (λcdv A outer s H vs Q E hr h=>?_)
 ·obtain ⟨r,c,m,rfl,_⟩:=h
  rfl
 obtain ⟨r,c,m,rfl,hr0,hm,q⟩:=h;refine ⟨_,(6,@ps_set _ _ 2 _ _ _ _ cF.nd rfl (Or.inr rfl) (18) (1) (.inl rfl),(6,@ps_set _ _ 3 _ _ _ _ cF.nd rfl (Or.inr rfl) (@pe_ix _ _ _ _ _ _ _ (aG (K:=K) rfl) (@pe_lst _ _ _ _ (@av _ _ _ _ _ pe_str (@pa3 _ _ _ _ _ _ _ pe_str pe_str pe_str (1) (1) (1)) (1))) (18) (λ_ _=>rfl)) (1) (.inl rfl),(6,(21,4,cF.nd,(18)),(6,(11,pt_cmpR op_eq (pv 4) pe_int (nomark _),(5,(8,pe_comp rfl (cs0 (NL:=["k"]) rfl (4) (4)) (bf rfl T.z_range (9,pv 1)) (λ_ _ _ _=>(aj (i:=0) (show List.Nodup (α:=Str) ["k"] by decide +kernel) rfl (Or.inl rfl))) (λ_ _ _ _=>(pe_slice sl_str pe_str cp (po_some (16,aZ,pv 0))))))),(6,(11,pt_cmpR op_eq (pv 4) pe_int (nomark _),(6,@ps_set _ _ 5 _ _ _ _ cF.nd rfl (Or.inr rfl) (@pe_lst _ _ _ _ (@av _ _ _ _ _ pe_str (@av _ _ _ _ _ pe_str (@av _ _ _ _ _ pe_str (@av _ _ _ _ _ pe_str (@av _ _ _ _ _ pe_str (@pa3 _ _ _ _ _ _ _ pe_str pe_str pe_str (1) (1) (1)) (1)) (1)) (1)) (1)) (1))) (1) (.inl rfl),(5,(8,pe_callB (kg (K:=K) rfl) rfl T.z_sorted boot_sorted (9,pe_comp rfl (csR (sc:=ae da) (NL:=["k"]) (N:=["row","many","base","tail","way","words"]) (ρ:=[2,5]) (N':=["k","base","words"]) rfl rfl rfl (4) (4) (4) rfl (4)) (bf rfl T.z_range (9,pv 1)) (λ_ _ _ _=>(aj (i:=0) (show List.Nodup (α:=Str) ["k","base","words"] by decide +kernel) rfl (Or.inl rfl))) (λ_ _ _ _=>(@pe_ix _ _ _ _ _ _ _ (aG (K:=K) rfl) (pv 2) (16,dO,(15,aZ,pv 1,pv 0)) (λ_ _=>rfl)))))))),(5,(8,pe_callB (kg (K:=K) rfl) rfl T.z_sorted boot_sorted (9,pe_comp rfl (csR (sc:=ae da) (NL:=["k"]) (N:=["row","many","base","tail","way","words"]) (ρ:=[2,3]) (N':=["k","base","tail"]) rfl rfl rfl (4) (4) (4) rfl (4)) (bf rfl T.z_range (9,pv 1)) (λ_ _ _ _=>(aj (i:=0) (show List.Nodup (α:=Str) ["k","base","tail"] by decide +kernel) rfl (Or.inl rfl))) (λ_ _ _ _=>(15,op_add_str,@pe_ix _ _ _ _ _ _ _ ix_str pe_str (16,dO,(15,aZ,pv 1,(15,fZ,pe_int,pv 0))) (λ_ _=>rfl),pv 2)))))))))),?_⟩;refine ⟨_,rfl,r,c,26,rfl,hr0,by decide,by decide,?_⟩;obtain ⟨b0,b1⟩:=mod_lt c (m:=26) (by decide);obtain ⟨b,hb⟩:∃ b:Nat,((b:Nat):Int)=c % 26:=⟨(c % 26).toNat,(3)⟩;have b26:b < 26:=(3)
 rw [<- hb];refine ⟨(by show 4<=sizeLine;decide),λpl hpl=>?_⟩;have hrp:r≠pl:=λe=>by rw [<- e,aa] at hpl;cases hpl
 have hplH:H pl=none:=by rw [ac hrp.symm] at hpl;exact hpl
 refine ⟨_,rfl,r,c / 26,4,rfl,by rw [ac hrp];exact aa,by decide,by decide,?_⟩;obtain ⟨t0,t1⟩:=mod_lt (c / 26) (m:=4) (by decide);refine ⟨pl,_,_,_,rfl,rfl,SqL.of (by rw [ac hrp.symm];exact aa),tH V.str tails _ "" t0 t1,?_⟩;have ht:tails.getD (c / 26 % 4).toNat "" ∈tails:=by
  rw [oG (show (c / 26 % 4).toNat < tails.length by show _ < 4;lia)];exact aBM _
 generalize tails.getD (c / 26 % 4).toNat "" = t at ht
 refine ⟨_,rfl,r,c / 26 / 4,5,rfl,aa,by decide,by decide,?_⟩;have B1:=(((But.put (H:=H) (r:=r) (o:=.lst [.int (c / 26)])).trans (But.same (ag hpl (.lst [.str "",.str "a",.str "zz",.str "eachone"])))).trans (But.put (o:=.lst [.int (c / 26 / 4)]))).trans (But.put (o:=.lst [.int (c / 26 / 4 / 5)]));have r1:(upd (upd (upd (upd H r (.lst [.int (c / 26)])) pl (.lst [.str "",.str "a",.str "zz",.str "eachone"])) r (.lst [.int (c / 26 / 4)])) r (.lst [.int (c / 26 / 4 / 5)])) r=some (.lst [.int (c / 26 / 4 / 5)]):=aa;have mN:((m:Nat):Int).toNat=m:=aBf m;have free:∀ {l:Addr} {Hx:Hp},But r H Hx->r≠l->Hx l=none->H l=none:=λ{l Hx} B n e=>by
  cases e':H l with
  | none=>rfl
  | some o=>rw [B l o n.symm e'] at e;cases e
 refine ⟨_,rfl,rfl,_,rfl,bi (λc1=>?_) (λc1=>?_)⟩
 ·refine ⟨_,rfl,(m:Int),rfl,(3),(3),λl hln=>?_⟩;rw [mN];have lr:r≠l:=ah r1 hln;have lH:H l=none:=free B1 lr hln;refine be (λi ys σ H'=>i<=8/\ys=((List.range i).map f1).map V.str/\But r H H'/\H' r=some (.lst [.int (c / 26 / 4 / 5)])/\H' l=some (.lst ys)/\σ.length=1) ⟨aAE _,rfl,B1.trans (But.same (ag hln _)),(by rw [ac lr];exact r1),aa,rfl⟩ ?_ ?_
  ·rintro i ys σ H' N hi ⟨h8,rfl,B2,r2,l2,hσ⟩ next
   match σ,hσ with
   | [_],_ =>
    exact ⟨_,rfl,_,_,rfl,rfl,_,rfl,_,rfl,(by decide),l2,jJ f1 (3),next _ _ _ ⟨by lia,iq f1 i,bB B2 lH,(by rw [ac lr];exact r2),aa,rfl⟩⟩
  ·rintro ys σ H' ⟨h8,rfl,B2,r2,l2,hσ⟩;obtain ⟨u1,u2⟩:=ID m (3);exact q l _ _ _ B2 lH r2 l2 ⟨by rw [aAa,aBg],u1,u2⟩
 refine ⟨_,rfl,rfl,_,rfl,bi (λc2=>?_) (λc2=>?_)⟩
 ·refine ⟨(by show 8<=sizeLine;decide),λpw hpw=>?_⟩;have wr:r≠pw:=ah r1 hpw;have wH:H pw=none:=free B1 wr hpw;refine ⟨_,rfl,(m:Int),rfl,(3),(3),λl hln=>?_⟩;rw [mN];have r2:=(ag hpw (.lst (words8.map V.str))) _ _ r1;have lr:r≠l:=ah r2 hln;have lw:pw≠l:=ah (aa (o:=.lst (words8.map V.str))) hln;have lH:H l=none:=free (B1.trans (But.same (ag hpw _))) lr hln;refine be (λi ys σ H'=>i<=8/\ys=((List.range i).map (f2 b)).map V.str/\But r H H'/\H' r=some (.lst [.int (c / 26 / 4 / 5)])/\H' l=some (.lst ys)/\H' pw=some (.lst (words8.map V.str))/\∃ v,σ=[v,some (.int b),some (.ref pw)]) ⟨aAE _,rfl,(B1.trans (But.same (ag hpw _))).trans (But.same (ag hln _)),(by rw [ac lr];exact r2),aa,(by rw [ac lw];exact aa),_,rfl⟩ ?_ ?_
  ·rintro i ys σ H' N hi ⟨h8,rfl,B2,r2,l2,w2,v,rfl⟩ next;exact ⟨_,rfl,_,rfl,_,rfl,_,_,rfl,rfl,_,_,rfl,rfl,(show (0:Int) < 8 by decide),pw,_,_,_,rfl,rfl,SqL.of w2,IG,l2,jJ (f2 b) (3),next _ _ _ ⟨by lia,iq (f2 b) i,bB B2 lH,(by rw [ac lr];exact r2),aa,(by rw [ac lw];exact w2),_,rfl⟩⟩
  ·rintro ys σ H' ⟨h8,rfl,B2,r2,l2,w2,v,rfl⟩;obtain ⟨u1,u2⟩:=yU hm (IE b b26);refine ⟨l,_,rfl,SqL.of l2,by rw [aAa,aBg];lia,λa ss' ha hp hs=>?_⟩;have ar:r≠a:=ah r2 ha;have n:=lM hp hs u1 u2;rw [aAa,aBg] at n;exact q a ss' _ _ (B2.trans (But.same (ag ha _))) (free B2 ar ha) (by rw [ac ar];exact r2) aa n
 ·refine ⟨_,rfl,(m:Int),rfl,(3),(3),λl hln=>?_⟩;rw [mN];have lr:r≠l:=ah r1 hln;have lH:H l=none:=free B1 lr hln;refine be (λi ys σ H'=>i<=8/\ys=((List.range i).map (f3 b t)).map V.str/\But r H H'/\H' r=some (.lst [.int (c / 26 / 4 / 5)])/\H' l=some (.lst ys)/\∃ v,σ=[v,some (.int b),some (.str t)]) ⟨aAE _,rfl,B1.trans (But.same (ag hln _)),(by rw [ac lr];exact r1),aa,_,rfl⟩ ?_ ?_
  ·rintro i ys σ H' N hi ⟨h8,rfl,B2,r2,l2,v,rfl⟩ next;have tl:t.length<=10:=(show ∀ t∈tails,t.length<=10 by decide +kernel) t ht;exact ⟨_,rfl,_,rfl,_,_,rfl,rfl,.inl ⟨by decide,by decide⟩,_,_,rfl,rfl,_,_,rfl,rfl,(show (0:Int) < 26 by decide),_,_,_,rfl,rfl,(by decide),IH,_,rfl,_,_,rfl,rfl,IC (by show 1+t.length<=1000;lia),l2,jJ (f3 b t) (3),next _ _ _ ⟨by lia,iq (f3 b t) i,bB B2 lH,(by rw [ac lr];exact r2),aa,_,rfl⟩⟩
  ·rintro ys σ H' ⟨h8,rfl,B2,r2,l2,v,rfl⟩;obtain ⟨u1,u2⟩:=yU hm (IF b b26 t ht);refine ⟨l,_,rfl,SqL.of l2,by rw [aAa,aBg];lia,λa ss' ha hp hs=>?_⟩;have ar:r≠a:=ah r2 ha;have n:=lM hp hs u1 u2;rw [aAa,aBg] at n;exact q a ss' _ _ (B2.trans (But.same (ag ha _))) (free B2 ar ha) (by rw [ac ar];exact r2) aa n
def Js (K:W.Frag) (r:Addr) (H:Hp) (Q:VK):Prop:=∀ v (i j n':Int) H',But r H H'->H' r=some (.lst [.int n'])->IsP K H' (.tup [.str "number",.int i,.int j]) v->FK 1 1 (.tup [.str "number",.int i,.int j])->Q v H'
def ir (K:W.Frag) (_:Ads):Sp:=λvs H Q _=>∃ (r:Addr) (c:Int),vs=[.ref r]/\H r=some (.lst [.int c])/\Js K r H Q
theorem p30:(10:Int) ^ (30:Int).toNat=1000000000000000000000000000000:=(4)
theorem p29:(10:Int) ^ (29:Int).toNat=100000000000000000000000000000:=(4)
theorem yV {ns:List Int} {d:Int} (h0:0<=d) (h1:d < (ns.length:Int)):∃ i:Int,i∈ns/\atI (ns.map V.int) d=some (.int i):=by
 obtain ⟨v,hv,e⟩:=lK (xs:=ns.map V.int) h0 (by rw [aAa];exact h1);obtain ⟨i,hi,rfl⟩:=aAm.mp hv;exact ⟨i,hi,e⟩
theorem II (a b:Int) (k:Bool):∃ i:Int,(i=a\/i=b)/\atI [V.int a,V.int b] (if k=true then 1 else 0)=some (.int i):=by
 cases k with
 | true=>exact ⟨b,.inr rfl,rfl⟩
 | false=>exact ⟨a,.inl rfl,rfl⟩
theorem dQ (T:Tx K mg ad) {f:Addr} {fd:FuncData} (F:Gn K mg "_law_number_kind" cC ["row"] f fd):FnOk P w K mg base CX0 2 f fd ["row"] (ir K ad):=by
 obtain ⟨_,_,JA⟩:=T.law_digit;have JC:=aF (P:=P) (w:=w) (base:=base) T JA;refine F.F.ok cu (λvs H Q E h=>?_) (λcdv A outer s H vs Q E hr h=>?_)
 ·obtain ⟨r,c,rfl,_⟩:=h
  rfl
 obtain ⟨r,c,rfl,hr0,q⟩:=h;refine ⟨_,(6,(20,cu.nd,@pe_ix _ _ _ _ _ _ _ (aG (K:=K) rfl) (@pe_lst _ _ _ _ (12,(16,cc,(18)),(15,cc,pcl JA JC (7) rfl (@pa2 _ _ _ _ _ (pv 0) (16,aZ,(15,oq,pe_int,(16,eK,pe_int))) (1) (1)),(16,eK,pe_int)))) (pe_callTy jz rfl T.z_int boot_int (9,fj op_eq (18) pe_int (nomark _))) (λ_ _=>rfl)),(6,(23,cu.nd,pe_callB (mZ rfl) rfl T.z_min boot_min (12,(16,eK,pe_int),(15,aZ,pv 1,@pe_ix _ _ _ _ _ _ _ (aG (K:=K) rfl) (@pe_lst _ _ _ _ (@pa3 _ _ _ _ _ _ _ (18) (16,eK,pe_int) (18) (1) (1) (1))) (18) (λ_ _=>rfl)))),(5,(8,@pe_tupPK _ K _ _ _ _ rfl (@pa3 _ _ _ _ _ _ _ pe_str (pv 1) (pv 2) (1) (1) (1)))))),?_⟩;refine ⟨_,rfl,r,c,12,rfl,hr0,by decide,by decide,_,_,rfl,rfl,?_⟩;obtain ⟨a0,a1⟩:=mod_lt c (m:=12) (by decide);refine ⟨_,rfl,_,_,rfl,rfl,⟨by decide,by decide,by decide⟩,?_⟩;have m30:(0:Int) < 2*10 ^ (30:Int).toNat+1:=by rw [p30];decide
 refine ⟨_,_,rfl,rfl,mulOk_of_bits (m:=2) (n:=100) (4) (4) (by decide),_,_,rfl,rfl,r,c / 12,2*10 ^ (30:Int).toNat+1,rfl,aa,m30,by rw [p30];decide,?_⟩;obtain ⟨d0,d1⟩:=mod_lt (c / 12) m30;refine ⟨_,_,rfl,rfl,⟨by decide,by decide,by decide⟩,_,_,rfl,rfl,sz2,λp hp=>?_⟩;have hrp:r≠p:=λe=>by rw [<- e,aa] at hp;cases hp
 obtain ⟨low,hlow,elow⟩:=II (c % 12 - 6) (c / 12 % (2*10 ^ (30:Int).toNat+1) - 10 ^ (30:Int).toNat) (decide (V.int (c / 12 / (2*10 ^ (30:Int).toNat+1) % 4)=V.int 1));have l0:-1000000000000000000000000000000<=low:=by
  rw [p30] at hlow d0 d1;rcases hlow with h | h <;> lia
 have l1:low<=1000000000000000000000000000000:=by
  rw [p30] at hlow d0 d1;rcases hlow with h | h <;> lia
 refine ⟨_,rfl,r,c / 12 / (2*10 ^ (30:Int).toNat+1),4,rfl,(by rw [ac hrp];exact aa),by decide,by decide,rfl,.inr ⟨_,rfl,p,_,_,_,rfl,rfl,SqL.of (by rw [ac hrp.symm];exact aa),elow,?_⟩⟩;have B1:=(((But.put (H:=H) (r:=r) (o:=.lst [.int (c / 12)])).trans (But.put (o:=.lst [.int (c / 12 / (2*10 ^ (30:Int).toNat+1))]))).trans (But.same (ag hp (.lst [.int (c % 12 - 6),.int (c / 12 % (2*10 ^ (30:Int).toNat+1) - 10 ^ (30:Int).toNat)])))).trans (But.put (o:=.lst [.int (c / 12 / (2*10 ^ (30:Int).toNat+1) / 4)]))
 generalize hc2:c / 12 / (2*10 ^ (30:Int).toNat+1) / 4=c2 at B1
 refine ⟨_,_,rfl,rfl,⟨by decide,by decide,by decide⟩,_,rfl,_,rfl,r,c2,9,rfl,hc2 ▸ aa,by decide,by decide,_,_,rfl,rfl,⟨by decide,by decide,by decide⟩,_,rfl,r,c2 / 9,2,rfl,aa,by decide,by decide,sz3,λp2 hp2=>?_⟩;have hrp2:r≠p2:=λe=>by rw [<- e,aa] at hp2;cases hp2
 obtain ⟨e0,e1⟩:=mod_lt (c2 / 9 / 2) (m:=3) (by decide);obtain ⟨x,hx,ex⟩:=yV (ns:=[c2 % 9,10 ^ (29:Int).toNat,c2 / 9 % 2]) e0 e1;have x0:0<=x:=by
  have h1:=(mod_lt c2 (m:=9) (by decide)).1;have h2:=(mod_lt (c2 / 9) (m:=2) (by decide)).1;simp only [p29,aAn,aAR,or_false] at hx;lia
 refine ⟨_,rfl,r,c2 / 9 / 2,3,rfl,(by rw [ac hrp2];exact aa),by decide,by decide,p2,_,_,_,rfl,rfl,SqL.of (by rw [ac hrp2.symm];exact aa),ex,_,_,rfl,rfl,_,_,rfl,?_⟩;refine ⟨_,rfl,_,rfl,[.str "number",.int low,.int _],.cons .str (.cons .int (.cons .int .nil)),sz3,λv H4 g4 hv=>?_⟩;refine q v low _ (c2 / 9 / 2 / 3) H4 ?_ (g4 _ _ aa) hv (.number _ _ l0 ?_ ?_)
 ·exact ((((B1.trans But.put).trans But.put).trans (But.same (ag hp2 _))).trans But.put).trans (But.same g4)
 ·rw [p30]
  split <;> lia
 ·rw [p30]
  split <;> lia
def Jt (K:W.Frag) (r:Addr) (H:Hp) (Q:VK):Prop:=∀ v d (n':Int) H',But r H H'->H' r=some (.lst [.int n'])->IsP K H' d v->FK 1 1 d->Q v H'
def jK (K:W.Frag) (_:Ads):Sp:=λvs H Q _=>∃ (r:Addr) (c:Int),vs=[.ref r]/\H r=some (.lst [.int c])/\Jt K r H Q
theorem Nam.words {m:Nat} {ss:List Str} (h:Nam m ss) (h1:1<=m) (h8:m<=8):jH ss=true/\jH ss.reverse=true:=by
 have l:=h.len;have nd:=wE h.asc;have al:ss.all eY=true:=aAP.mpr λz hz=>(h.ok z hz).1
 constructor
 ·simp only [jH,aAB,decide_eq_true_eq];exact ⟨⟨⟨by lia,(3)⟩,al⟩,nd⟩
 ·simp only [jH,aAB,decide_eq_true_eq,List.length_reverse,List.all_reverse];exact ⟨⟨⟨by lia,(3)⟩,al⟩,List.pairwise_reverse.mpr (nd.imp λn e=>n e.symm)⟩
theorem iX {K:W.Frag} {H:Hp}:∀ ss:List Str,IsPs K H (ss.map Dt.str) (ss.map V.str)
 | []=>.nil
 | z :: ss=>.cons .str (iX ss)
theorem jL (T:Tx K mg ad) {f:Addr} {fd:FuncData} (F:Gn K mg "_law_leaf_kind" dj ["row"] f fd):FnOk P w K mg base CX0 3 f fd ["row"] (jK K ad):=by
 obtain ⟨_,_,JA⟩:=T.law_digit;have JC:=aF (P:=P) (w:=w) (base:=base) T JA;obtain ⟨_,_,J0⟩:=T.law_number_kind;have Kn:=dQ (P:=P) (w:=w) (base:=base) T J0;obtain ⟨_,_,J5⟩:=T.law_names;have Kr:=fz (P:=P) (w:=w) (base:=base) T J5;refine F.F.ok cO (λvs H Q E h=>?_) (λcdv A outer s H vs Q E hr h=>?_)
 ·obtain ⟨r,c,rfl,_⟩:=h
  rfl
 obtain ⟨r,c,rfl,hr0,q⟩:=h;refine ⟨_,(6,(20,cO.nd,(18)),(6,(11,pt_cmpR op_eq (pv 1) pe_int (nomark _),(5,(8,(10,J0,Kn,@pa1 _ _ _ (pv 0) (1))))),(6,(11,pt_cmpR op_eq (pv 1) pe_int (nomark _),(5,(8,@pe_tupPK _ K _ _ _ _ rfl (12,pe_str,@pe_ix _ _ _ _ _ _ _ (aG (K:=K) rfl) (@pe_lst _ _ _ _ (12,(18),(18))) (18) (λ_ _=>rfl))))),(6,(23,cO.nd,(10,J5,Kr,@pa2 _ _ _ _ _ (pv 0) (15,aZ,pe_int,(18)) (1) (1))),(6,(11,pt_cmpR op_eq (18) pe_int (nomark _),(5,@ps_expr _ _ _ _ (BL PySem.F.plainAttrs_list PySem.F.slot_list_reverse PySem.F.type_list_reverse rD (pv 2)) (1))),(5,(8,@pe_tupPK _ K _ _ _ _ rfl (12,pe_str,pe_callTy (aU (K:=K) rfl) rfl T.z_tuple boot_tuple (9,pv 2))))))))),?_⟩;refine ⟨_,rfl,r,c,3,rfl,hr0,by decide,by decide,?_⟩;have B1:=But.put (H:=H) (r:=r) (o:=.lst [.int (c / 3)]);refine ⟨_,rfl,rfl,_,rfl,bi (λc1=>?_) (λc1=>?_)⟩
 ·exact ⟨_,rfl,r,c / 3,rfl,aa,λv i j n' H' b e hv fk=>q v _ n' H' (B1.trans b) e hv fk⟩
 refine ⟨_,rfl,rfl,_,rfl,bi (λc2=>?_) (λc2=>?_)⟩
 ·refine ⟨_,rfl,r,c / 3,4,rfl,aa,by decide,by decide,_,rfl,r,c / 3 / 4,61,rfl,aa,by decide,by decide,sz2,λp hp=>?_⟩;have hrp:r≠p:=λe=>by rw [<- e,aa] at hp;cases hp
  obtain ⟨e0,e1⟩:=mod_lt (c / 3 / 4 / 61) (m:=2) (by decide);obtain ⟨x,hx,ex⟩:=yV (ns:=[c / 3 % 4,c / 3 / 4 % 61]) e0 e1;have xb:0<=x/\x<=60:=by
   have h1:=mod_lt (c / 3) (m:=4) (by decide);have h2:=mod_lt (c / 3 / 4) (m:=61) (by decide);simp only [aAn,aAR,or_false] at hx;lia
  refine ⟨_,rfl,r,c / 3 / 4 / 61,2,rfl,(by rw [ac hrp];exact aa),by decide,by decide,p,_,_,_,rfl,rfl,SqL.of (by rw [ac hrp.symm];exact aa),ex,?_⟩;refine ⟨[.str "text",.int x],.cons .str (.cons .int .nil),sz2,λv H4 g4 hv=>?_⟩;exact q v _ (c / 3 / 4 / 61 / 2) H4 (((((B1.trans But.put).trans But.put).trans (But.same (ag hp _))).trans But.put).trans (But.same g4)) (g4 _ _ aa) hv (.text x xb.1 xb.2)
 ·obtain ⟨m0,m1⟩:=mod_lt (c / 3) (m:=8) (by decide);obtain ⟨m,hm⟩:∃ m:Nat,((m:Nat):Int)=1+c / 3 % 8:=⟨(1+c / 3 % 8).toNat,(3)⟩;refine ⟨_,rfl,_,rfl,r,c / 3,8,rfl,aa,by decide,by decide,_,_,rfl,rfl,?_⟩;refine ⟨r,c / 3 / 8,m,(by show [V.ref r,V.int (1+c / 3 % 8)]=_;rw [hm]),aa,(3),λp ss c' H2 b2 hp r2 p2 nam=>?_⟩;have B2:=(B1.trans But.put).trans b2;have hpH:H p=none:=by
   cases e:H p with
   | none=>rfl
   | some o =>
    have:r≠p:=λh=>by rw [<- h,aa] at hp;cases hp
    rw [ac this.symm,ac this.symm,e] at hp
    cases hp
  have hrp:r≠p:=λh=>by rw [<- h,hr0] at hpH;cases hpH
  obtain ⟨w1,w2⟩:=nam.words (3) (3);refine ⟨_,rfl,r,c',2,rfl,r2,by decide,by decide,rfl,_,rfl,bi (λc3=>?_) (λc3=>?_)⟩
  ·have p3:(upd H2 r (.lst [.int (c' / 2)])) p=some (.lst (ss.map V.str)):=by rw [ac hrp.symm];exact p2
   refine ⟨_,rfl,.inl ⟨rfl,_,SqL.of p3⟩,p,_,rfl,rfl,p3,?_⟩;refine ⟨_,rfl,p,_,_,rfl,SqL.of aa,(by rw [<- List.map_reverse];exact iX ss.reverse),λv H4 g4 hv=>?_⟩;refine ⟨[.str "choice",.tup (ss.reverse.map Dt.str)],.cons .str (.cons hv .nil),sz2,λv5 H5 g5 hv5=>?_⟩;exact q v5 _ (c' / 2) H5 (((bB (B2.trans But.put) hpH).trans (But.same g4)).trans (But.same g5)) (g5 _ _ (g4 _ _ (by rw [ac hrp];exact aa))) hv5 (.choice _ w2)
  ·refine ⟨_,rfl,p,_,_,rfl,SqL.of (by rw [ac hrp.symm];exact p2),iX ss,λv H4 g4 hv=>?_⟩;refine ⟨[.str "choice",.tup (ss.map Dt.str)],.cons .str (.cons hv .nil),sz2,λv5 H5 g5 hv5=>?_⟩;exact q v5 _ (c' / 2) H5 (((B2.trans But.put).trans (But.same g4)).trans (But.same g5)) (g5 _ _ (g4 _ _ aa)) hv5 (.choice ss w1)
def But2 (r p:Addr) (H H':Hp):Prop:=∀ x o,x≠r->x≠p->H x=some o->H' x=some o
theorem But2.refl (r p:Addr) (H:Hp):But2 r p H H:=λ_ _ _ _ e=>e
theorem But2.trans {r p:Addr} {H H' H'':Hp} (a:But2 r p H H') (b:But2 r p H' H''):But2 r p H H'':=λx o h1 h2 e=>b x o h1 h2 (a x o h1 h2 e)
theorem But2.one {r p:Addr} {H H':Hp} (b:But r H H'):But2 r p H H':=λx o h1 _ e=>b x o h1 e
theorem But2.two {r p:Addr} {H H':Hp} (b:But p H H'):But2 r p H H':=λx o _ h2 e=>b x o h2 e
theorem But2.same {r p:Addr} {H H':Hp} (b:Same H H'):But2 r p H H':=λx o _ _ e=>b x o e
theorem But2.upd {r p l:Addr} {o:HO} {H H':Hp} (b:But2 r p H H') (hl:H l=none):But2 r p H (upd H' l o):=λx u h1 h2 e=>by rw [ac (ah e hl)];exact b x u h1 h2 e
theorem But2.mid {r p:Addr} {H H':Hp} (b:But2 r p H H'):∃ M:Hp,But r H M/\But p M H'/\M p=H p:=by
 refine ⟨λx=>if x=p then H p else H' x,λx o n e=>?_,λx o n e=>?_,by simp⟩
 ·by_cases h:x=p
  ·subst h;simpa using e
  ·simp only [if_neg h];exact b x o n h e
 ·simpa only [if_neg n] using e
theorem qt {K:W.Frag} {r p:Addr} {H H':Hp} {d:List Dt} {v:List V} {xs ys:List V} (hr:H r=some (.lst xs)) (hp:H p=some (.lst ys)) (b:But2 r p H H') (h:IsPs K H d v):IsPs K H' d v:=by
 obtain ⟨M,b1,b2,e⟩:=b.mid;exact (h.but hr b1).but (e.trans hp) b2
def bud (x:Int):Nat:=(x / 5).toNat
theorem wI (x:Int):bud (x - 5)<=bud x:=by unfold bud;lia
theorem wJ {x:Int} (h:0<=x - 5):bud x=bud (x - 5)+1:=by unfold bud;lia
def Cf (K:W.Frag) (r p:Addr) (H:Hp) (D u:Nat) (x:Int) (Q:VK):Prop:=∀ v d a c (n' x':Int) H',But2 r p H H'->H' r=some (.lst [.int n'])->H' p=some (.lst [.int x'])->IsP K H' d v->FK a c d->a<=D->c+4*bud x'<=u+4*bud x->Q v H'
def qu (K:W.Frag) (n:Nat):Sp:=λvs H Q _=>∃ (r p:Addr) (c x:Int) (m:Nat),1<=m/\m<=n/\vs=[.ref r,.int m,.ref p]/\r≠p/\H r=some (.lst [.int c])/\H p=some (.lst [.int x])/\Cf K r p H m 1 x Q
def tI (K:W.Frag) (n:Nat):Sp:=λvs H Q _=>∃ (r p:Addr) (c x:Int) (m:Nat),1<=m/\m<=n/\vs=[.ref r,.int (m+1:Nat),.ref p]/\r≠p/\H r=some (.lst [.int c])/\H p=some (.lst [.int x])/\Cf K r p H (m+1) 4 x Q
def yW (K:W.Frag) (n:Nat):Sp:=λvs H Q _=>∃ (r p:Addr) (c x:Int) (m:Nat),1<=m/\m<=n/\vs=[.ref r,.int (m+2:Nat),.ref p]/\r≠p/\H r=some (.lst [.int c])/\H p=some (.lst [.int x])/\Cf K r p H (m+2) 5 x Q
theorem lN:∀ (l:List Nat) (n:Nat),jI (l++[n])=jI l+n
 | [],n=>by show n+0=0+n;lia
 | m :: l,n=>by
  show m+jI (l++[n])=m+jI l+n;rw [lN l n];lia
theorem wK {ss:List Str} {gs:List G4} {m D:Nat} (nam:Nam m ss) (h8:m<=8) (e:gs.map (·.1)=ss) (fk:∀ g∈gs,FK g.2.2.1 g.2.2.2 g.2.1) (hd:∀ g∈gs,g.2.2.1<=D) :
  FK (qr (gs.map (·.2.2.1))+1) (jI (gs.map (·.2.2.2))+1) (.tup [.str "record",.tup (gs.map prG)])/\qr (gs.map (·.2.2.1))+1<=D+1:=by
 refine ⟨.rcd fk (by rw [e];exact nam.asc) (λg hg=>?_) ?_,?_⟩
 ·exact nam.ok g.1 (by rw [<- e];exact aAm.mpr ⟨g,hg,rfl⟩)
 ·have:=congrArg List.length e;rw [aAa,nam.len] at this;lia
 ·exact aBP (max_le λn hn=>by
   obtain ⟨g,hg,rfl⟩:=aAm.mp hn;exact hd g hg)
theorem iu (T:Tx K mg ad) {f fk:Addr} {fd fdk:FuncData} (n:Nat) (F:Gn K mg "_law_record_kind" bz ["row","deep","room"] f fd) (J3:Gn K mg "_law_kind" cK ["row","deep","room"] fk fdk)
  (Kk:FnOk P w K mg base CX0 (3*n+6) fk fdk ["row","deep","room"] (qu K n)):FnOk P w K mg base CX0 (3*n+6+1) f fd ["row","deep","room"] (tI K n):=by
 obtain ⟨_,_,JA⟩:=T.law_digit;have JC:=aF (P:=P) (w:=w) (base:=base) T JA;obtain ⟨_,_,J5⟩:=T.law_names;have Kr:=fz (P:=P) (w:=w) (base:=base) T J5;refine F.F.ok bI (λvs H Q E h=>?_) (λcdv A outer s H vs Q E hr h=>?_)
 ·obtain ⟨r,p,c,x,m,_,_,rfl,_⟩:=h
  rfl
 obtain ⟨r,p,c,x,m,hm1,hmn,rfl,nrp,hr0,hp0,q⟩:=h;refine ⟨_,(@pss_cons _ _ _ _ _ (21,3,bI.nd,(18)) (@pss_cons _ _ _ _ _ (21,4,bI.nd,@pe_lst _ _ _ _ pa_nil) (@pss_cons _ _ _ _ _ (ps_for PassesOwn.never rfl (gi (K:=K) rfl (10,J5,Kr,@pa2 _ _ _ _ _ (pv 0) (pv 3) (1) (1))) (aj (i:=5) bI.nd rfl (Or.inl rfl))
    (5,@ps_expr _ _ _ _ (pe_bm PySem.F.plainAttrs_list PySem.F.slot_list_append PySem.F.type_list_append bL (pv 4) (9,@pe_tupPK _ K _ _ _ _ rfl (12,pv 5,(10,J3,Kk,@pa3 _ _ _ _ _ _ _ (pv 0) (16,cc,pv 1) (pv 2) (1) (1) (1))))) (1))) (5,(8,@pe_tupPK _ K _ _ _ _ rfl (12,pe_str,pe_callTy (aU (K:=K) rfl) rfl T.z_tuple boot_tuple (9,pv 4))))))),?_⟩
 refine ⟨_,rfl,r,c,4,rfl,hr0,by decide,by decide,?_⟩;obtain ⟨k0,k1⟩:=mod_lt c (m:=4) (by decide);obtain ⟨k,hk⟩:∃ k:Nat,((k:Nat):Int)=c % 4:=⟨(c % 4).toNat,(3)⟩;have B1:But2 r p H (upd H r (.lst [.int (c / 4)])):=.one But.put;refine ⟨(by show 0<=sizeLine;decide),λpf hpf=>?_⟩;have nrf:r≠pf:=λe=>by rw [<- e,aa] at hpf;cases hpf
 have hfH:H pf=none:=by rw [ac nrf.symm] at hpf;exact hpf
 have npf:p≠pf:=ah hp0 hfH;refine ⟨_,rfl,_,rfl,r,c / 4,k,(by show [V.ref r,V.int (c % 4)]=_;rw [hk]),(by rw [ac nrf];exact aa),(3),λpn ss c2 H2 b2 hpn r2 n2 nam=>?_⟩;have nfn:pf≠pn:=ah (aa (o:=.lst [])) hpn;have p1:(upd (upd H r (.lst [.int (c / 4)])) pf (.lst [])) p=some (.lst [.int x]):=by rw [ac npf,ac nrp.symm];exact hp0
 have npn:p≠pn:=ah p1 hpn;have nrn:r≠pn:=ah (by rw [ac nrf];exact aa) hpn;have hnH:H pn=none:=by
  have:=hpn;rw [ac nfn.symm,ac nrn.symm] at this;exact this
 have B2:But2 r p H H2:=(B1.trans (.same (ag hpf _))).trans (.one b2);have p2:H2 p=some (.lst [.int x]):=b2 _ _ nrp.symm p1;have f2:H2 pf=some (.lst []):=b2 _ _ nrf.symm aa;refine ⟨pn,rfl,⟨_,SqL.of n2⟩,kX (xs:=ss.map V.str) (λi σ H'=>∃ (gs:List G4) (ys:List V) (c' x':Int) (v6:Option V),But2 r p H H'/\H' r=some (.lst [.int c'])/\H' p=some (.lst [.int x'])/\H' pn=some (.lst (ss.map V.str))/\H' pf=some (.lst ys)/\IsPs K H' (gs.map prG) ys/\gs.map (·.1)=ss.take i/\(∀ g∈gs,FK g.2.2.1 g.2.2.2 g.2.1)/\(∀ g∈gs,g.2.2.1<=m)/\jI (gs.map (·.2.2.2))+4*bud x'<=i+4*bud x/\σ=[some (.ref r),some (.int (m+1:Nat)),some (.ref p),some (.int (c % 4)),some (.ref pf),v6])
  ⟨[],[],c2,x,_,B2,r2,p2,n2,f2,.nil,rfl,(λg hg=>by cases hg),(λg hg=>by cases hg),(by show 0+4*bud x<=0+4*bud x;lia),rfl⟩ (λi σ H' _ h=>by obtain ⟨_,_,_,_,_,_,_,_,h,_⟩:=h;exact SqL.of h) ?_ ?_⟩
 ·rintro i u σ H3 hu ⟨gs,ys,c3,x3,v6,B3,r3,p3,n3,f3,hys,nms,fk,hd,hsum,rfl⟩;rw [aAg] at hu;obtain ⟨z,hz,rfl⟩:=aAi.mp hu;have li:=(aAj.mp hz).1;have lss:=nam.len;have lgs:gs.length=i:=by
   have:=congrArg List.length nms;rw [aAa,aAF] at this;lia
  have lys:=hys.length;rw [aAa] at lys;have e1:(((m+1:Nat):Int)) - 1=((m:Nat):Int):=(3)
  refine ⟨_,rfl,.inl ⟨rfl,_,SqL.of f3⟩,_,rfl,_,rfl,_,rfl,_,_,rfl,rfl,_,rfl,r,p,c3,x3,m,hm1,hmn,(by show [V.ref r,V.int (((m+1:Nat):Int) - 1),V.ref p]=_;rw [e1]),nrp,r3,p3,λv d a c4 n4 x4 H4 b4 r4 p4 hv fk4 ha hc4=>?_⟩;refine ⟨[.str z,d],.cons .str (.cons hv .nil),sz2,λv5 H5 g5 hv5=>?_⟩;have f5:H5 pf=some (.lst ys):=g5 _ _ (b4 _ _ nrf.symm npf.symm f3);refine ⟨pf,ys,v5,rfl,rfl,f5,ay (3),?_⟩;refine ⟨gs++[(z,d,a,c4)],ys++[v5],n4,x4,_,((B3.trans b4).trans (.same g5)).upd hfH,(by rw [ac nrf];exact g5 _ _ r4),(by rw [ac npf];exact g5 _ _ p4),(by rw [ac nfn.symm];exact g5 _ _ (b4 _ _ nrn.symm npn.symm n3)),aa,?_,?_,?_,?_,?_,rfl⟩
  ·rw [aAr];exact (((qt r3 p3 b4 hys).same g5).append (.cons hv5 .nil)).but f5 But.put
  ·rw [aAr,nms,aAC,hz]
   rfl
  ·intro g hg;rcases aAG.mp hg with h | h
   ·exact fk g h
   ·obtain rfl:=aAp.mp h;exact fk4
  ·intro g hg;rcases aAG.mp hg with h | h
   ·exact hd g h
   ·obtain rfl:=aAp.mp h;exact ha
  ·rw [aAr];show jI (gs.map (·.2.2.2)++[c4])+_<=_;rw [lN];lia
 ·rintro σ H3 ⟨gs,ys,c3,x3,v6,B3,r3,p3,n3,f3,hys,nms,fk,hd,hsum,rfl⟩;have lss:=nam.len;rw [aAa,aBs] at nms;rw [aAa] at hsum;obtain ⟨F1,F2⟩:=wK (D:=m) nam (3) nms fk hd;refine ⟨_,rfl,pf,_,_,rfl,SqL.of f3,hys,λv4 H4 g4 hv4=>?_⟩;refine ⟨[.str "record",.tup (gs.map prG)],.cons .str (.cons hv4 .nil),sz2,λv5 H5 g5 hv5=>?_⟩;exact q v5 _ _ _ c3 x3 H5 ((B3.trans (.same g4)).trans (.same g5)) (g5 _ _ (g4 _ _ r3)) (g5 _ _ (g4 _ _ p3)) hv5 F1 F2 (3)
theorem qv (T:Tx K mg ad) {f fr fw:Addr} {fd fdr fdw:FuncData} (n:Nat) (J3:Gn K mg "_law_kind" cK ["row","deep","room"] f fd) (K4:Gn K mg "_law_record_kind" bz ["row","deep","room"] fr fdr) (Lf:Gn K mg "_law_rows_kind" bK ["row","deep","room"] fw fdw)
  (Kk:FnOk P w K mg base CX0 (3*n+6) f fd ["row","deep","room"] (qu K n)) (K3:FnOk P w K mg base CX0 (3*n+7) fr fdr ["row","deep","room"] (tI K n)) (Lg:FnOk P w K mg base CX0 (3*n+7) fw fdw ["row","deep","room"] (yW K (n - 1))) :
  FnOk P w K mg base CX0 (3*n+8+1) f fd ["row","deep","room"] (qu K (n+1)):=by
 obtain ⟨_,_,JA⟩:=T.law_digit;have JC:=aF (P:=P) (w:=w) (base:=base) T JA;obtain ⟨_,_,KM⟩:=T.law_leaf_kind;have Ld:=jL (P:=P) (w:=w) (base:=base) T KM;refine J3.F.ok kq (λvs H Q E h=>?_) (λcdv A outer s H vs Q E hr h=>?_)
 ·obtain ⟨r,p,c,x,m,_,_,rfl,_⟩:=h
  rfl
 obtain ⟨r,p,c,x,m,hm1,hmn,rfl,nrp,hr0,hp0,q⟩:=h;refine ⟨_,(6,(21,3,kq.nd,(18)),(6,nU (16,cc,@pe_ix _ _ _ _ _ _ _ (aG (K:=K) rfl) (pv 2) pe_int (λ_ _=>rfl)) (rf (pv 2) pe_int k8),(6,(11,PW.pt (@j6 _ _ _ _ _ _ _ (pt_cmpR fQ (pv 3) pe_int (nomark _)) (@j6 _ _ _ _ _ _ _ (pt_cmpR fQ (pv 1) pe_int (nomark _)) (@ii _ _ _ _ (pt_cmpR fQ (@pe_ix _ _ _ _ _ _ _ (aG (K:=K) rfl) (pv 2) pe_int (λ_ _=>rfl)) pe_int (nomark _))))),(5,(8,(10,KM,Ld,@pa1 _ _ _ (pv 0) (1))))),(6,(11,pt_cmpR op_eq (pv 3) pe_int (nomark _),(5,(8,@pe_tupPK _ K _ _ _ _ rfl (@pa3 _ _ _ _ _ _ _ pe_str (10,J3,Kk,@pa3 _ _ _ _ _ _ _ (pv 0) (16,cc,pv 1) (pv 2) (1) (1) (1)) (18) (1) (1) (1))))),(6,(11,PW.pt (@pw_and _ _ _ _ _ _ _ (pt_cmpR op_eq (pv 3) pe_int (nomark _)) (@pw_and1 _ _ _ _ (pt_cmpR mW (pv 1) pe_int (nomark _)))),(5,(8,(10,Lf,Lg,@pa3 _ _ _ _ _ _ _ (pv 0) (pv 1) (pv 2) (1) (1) (1))))),(5,(8,(10,K4,K3,@pa3 _ _ _ _ _ _ _ (pv 0) (pv 1) (pv 2) (1) (1) (1))))))))),?_⟩;refine ⟨_,rfl,r,c,6,rfl,hr0,by decide,by decide,?_⟩;have p1:(upd H r (.lst [.int (c / 6)])) p=some (.lst [.int x]):=by rw [ac nrp.symm];exact hp0
 have e0:∀ y:Int,atI [V.int y] 0=some (.int y):=λ_=>rfl;refine ⟨_,rfl,p,_,_,_,rfl,rfl,SqL.of p1,e0 x,_,_,rfl,rfl,_,rfl,p,_,_,_,rfl,rfl,p1,rfl,_,rfl,?_⟩;have B2:But2 r p H (upd (upd H r (.lst [.int (c / 6)])) p (.lst [.int (x - 5)])):=(But2.one But.put).trans (.two But.put);have r2:(upd (upd H r (.lst [.int (c / 6)])) p (.lst [.int (x - 5)])) r=some (.lst [.int (c / 6)]):=by rw [ac nrp];exact aa
 have p2:(upd (upd H r (.lst [.int (c / 6)])) p (.lst [.int (x - 5)])) p=some (.lst [.int (x - 5)]):=aa;have bl:=wI x;refine ⟨_,_,rfl,rfl,_,rfl,bi (λc1=>df ?leaf) (λc1=>?_)⟩
 case leaf=>exact ⟨_,rfl,r,c / 6,rfl,r2,λv d n' H' b e hv fk=>q v d 1 1 n' (x - 5) H' (B2.trans (.one b)) e (b _ _ nrp.symm p2) hv fk hm1 (3)⟩
 refine ⟨_,rfl,_,_,rfl,rfl,_,rfl,bi (λc2=>df ?leaf) (λc2=>?_)⟩
 case leaf=>exact ⟨_,rfl,r,c / 6,rfl,r2,λv d n' H' b e hv fk=>q v d 1 1 n' (x - 5) H' (B2.trans (.one b)) e (b _ _ nrp.symm p2) hv fk hm1 (3)⟩
 refine ⟨_,rfl,p,_,_,_,rfl,rfl,SqL.of p2,e0 (x - 5),_,_,rfl,rfl,_,rfl,bi (λc3=>?leaf) (λc3=>?_)⟩
 case leaf=>exact ⟨_,rfl,r,c / 6,rfl,r2,λv d n' H' b e hv fk=>q v d 1 1 n' (x - 5) H' (B2.trans (.one b)) e (b _ _ nrp.symm p2) hv fk hm1 (3)⟩
 have m2:2<=m:=by
  have:¬ ((m:Nat):Int) < 2:=λh=>c2 (decide_eq_true h);lia
 have x5:0<=x - 5:=by
  have:¬ x - 5 < 0:=λh=>c3 (decide_eq_true h);lia
 have bs:=wJ x5;obtain ⟨m,rfl⟩:∃ k,m=k+1:=⟨m - 1,(3)⟩;have e1:(((m+1:Nat):Int)) - 1=((m:Nat):Int):=(3)
 refine ⟨_,rfl,rfl,_,rfl,bi (λc4=>?_) (λc4=>?_)⟩
 ·refine ⟨_,rfl,_,rfl,_,_,rfl,rfl,_,rfl,r,p,c / 6,x - 5,m,(3),(3),(by show [V.ref r,V.int (((m+1:Nat):Int) - 1),V.ref p]=_;rw [e1]),nrp,r2,p2,λv d a c4 n4 x4 H4 b4 r4 p4 hv fk4 ha hc4=>?_⟩;obtain ⟨k0,k1⟩:=mod_lt n4 (m:=9) (by decide);refine ⟨_,rfl,r,n4,9,rfl,r4,by decide,by decide,[.str "list",d,.int _],.cons .str (.cons (hv.but r4 But.put) (.cons .int .nil)),sz3,λv5 H5 g5 hv5=>?_⟩;exact q v5 _ (a+1) (c4+1) (n4 / 9) x4 H5 (((B2.trans b4).trans (.one But.put)).trans (.same g5)) (g5 _ _ aa) (g5 _ _ (by rw [ac nrp.symm];exact p4)) hv5 (.list fk4 k0 (3)) (3) (3)
 refine ⟨_,rfl,rfl,_,rfl,bi (λc5=>?_) (λc5=>ce ?_)⟩
 ·refine ⟨_,rfl,_,_,rfl,rfl,_,rfl,bi (λc6=>?_) (λc6=>?_)⟩
  ·have m3:3<=m+1:=by
    have:(2:Int) < ((m+1:Nat):Int):=of_decide_eq_true c6;lia
   obtain ⟨m,rfl⟩:∃ k,m=k+1:=⟨m - 1,(3)⟩;exact ⟨_,rfl,_,rfl,_,rfl,r,p,c / 6,x - 5,m,(3),(3),rfl,nrp,r2,p2,λv d a c4 n4 x4 H4 b4 r4 p4 hv fk4 ha hc4=>q v d a c4 n4 x4 H4 (B2.trans b4) r4 p4 hv fk4 ha (3)⟩
  ·exact ⟨_,rfl,_,rfl,_,rfl,r,p,c / 6,x - 5,m,(3),(3),rfl,nrp,r2,p2,λv d a c4 n4 x4 H4 b4 r4 p4 hv fk4 ha hc4=>q v d a c4 n4 x4 H4 (B2.trans b4) r4 p4 hv fk4 ha (3)⟩
 ·exact ⟨_,rfl,_,rfl,_,rfl,r,p,c / 6,x - 5,m,(3),(3),rfl,nrp,r2,p2,λv d a c4 n4 x4 H4 b4 r4 p4 hv fk4 ha hc4=>q v d a c4 n4 x4 H4 (B2.trans b4) r4 p4 hv fk4 ha (3)⟩
def IJ (d:Dt):Prop:=∃ w r,d=.tup (.str w :: r)/\(w= "number" \/w= "text")
structure RkI (K:W.Frag) (r p pn pf:Addr) (ss:List Str) (key:Str) (m:Nat) (x:Int) (H:Hp) (i:Nat) (gs:List G4) (ys:List V) (c' x':Int) (H':Hp):Prop where
 B:But2 r p H H'
 hr:H' r=some (.lst [.int c'])
 hp:H' p=some (.lst [.int x'])
 hn:H' pn=some (.lst (ss.map V.str))
 hf:H' pf=some (.lst ys)
 hys:IsPs K H' (gs.map prG) ys
 nms:gs.map (·.1)=ss.take i
 fk:∀ g∈gs,FK g.2.2.1 g.2.2.2 g.2.1
 hd:∀ g∈gs,g.2.2.1<=m
 ky:∀ g∈gs,g.1=key->IJ g.2.1
 sum:jI (gs.map (·.2.2.2))+4*bud x'<=i+4*bud x
theorem RkI.next {K:W.Frag} {r p pn pf:Addr} {ss:List Str} {key z:Str} {m i a c4:Nat} {x c3 x3 n4 x4:Int} {H H3 H4 H5:Hp} {gs:List G4} {ys:List V} {d:Dt} {v5:V} (I:RkI K r p pn pf ss key m x H i gs ys c3 x3 H3) (hz:ss[i]?=some z)
  (nrf:r≠pf) (npf:p≠pf) (nrn:r≠pn) (npn:p≠pn) (nfn:pf≠pn) (hfH:H pf=none) (b4:But2 r p H3 H4) (r4:H4 r=some (.lst [.int n4])) (p4:H4 p=some (.lst [.int x4])) (fk4:FK a c4 d) (ha:a<=m) (hc4:c4+4*bud x4<=1+4*bud x3) (hk:z=key->IJ d)
  (g5:Same H4 H5) (hv5:IsP K H5 (.tup [.str z,d]) v5):RkI K r p pn pf ss key m x H (i+1) (gs++[(z,d,a,c4)]) (ys++[v5]) n4 x4 (upd H5 pf (.lst (ys++[v5]))):=by
 obtain ⟨B3,r3,p3,n3,f3,hys,nms,fk,hd,ky,hsum⟩:=I;have f5:H5 pf=some (.lst ys):=g5 _ _ (b4 _ _ nrf.symm npf.symm f3);refine ⟨((B3.trans b4).trans (.same g5)).upd hfH,(by rw [ac nrf];exact g5 _ _ r4),(by rw [ac npf];exact g5 _ _ p4),(by rw [ac nfn.symm];exact g5 _ _ (b4 _ _ nrn.symm npn.symm n3)),aa,?_,?_,?_,?_,?_,?_⟩
 ·rw [aAr];exact (((qt r3 p3 b4 hys).same g5).append (.cons hv5 .nil)).but f5 But.put
 ·rw [aAr,nms,aAC,hz]
  rfl
 ·intro g hg;rcases aAG.mp hg with h | h
  ·exact fk g h
  ·obtain rfl:=aAp.mp h;exact fk4
 ·intro g hg;rcases aAG.mp hg with h | h
  ·exact hd g h
  ·obtain rfl:=aAp.mp h;exact ha
 ·intro g hg;rcases aAG.mp hg with h | h
  ·exact ky g h
  ·obtain rfl:=aAp.mp h;exact hk
 ·rw [aAr];show jI (gs.map (·.2.2.2)++[c4])+_<=_;rw [lN];lia
theorem RkI.few {K:W.Frag} {r p pn pf:Addr} {ss:List Str} {key:Str} {m i:Nat} {x c3 x3:Int} {H H3:Hp} {gs:List G4} {ys:List V} (I:RkI K r p pn pf ss key m x H i gs ys c3 x3 H3):ys.length<=ss.length:=by
 have lys:=I.hys.length;have:=congrArg List.length I.nms;rw [aAa,aAF] at this;rw [aAa] at lys;lia
theorem jM (T:Tx K mg ad) {f fk:Addr} {fd fdk:FuncData} (n:Nat) (F:Gn K mg "_law_rows_kind" bK ["row","deep","room"] f fd) (J3:Gn K mg "_law_kind" cK ["row","deep","room"] fk fdk)
  (Kk:FnOk P w K mg base CX0 (3*n+6) fk fdk ["row","deep","room"] (qu K n)):FnOk P w K mg base CX0 (3*n+6+1) f fd ["row","deep","room"] (yW K n):=by
 obtain ⟨_,_,JA⟩:=T.law_digit;have JC:=aF (P:=P) (w:=w) (base:=base) T JA;obtain ⟨_,_,J5⟩:=T.law_names;have Kr:=fz (P:=P) (w:=w) (base:=base) T J5;obtain ⟨_,_,J0⟩:=T.law_number_kind;have Kn:=dQ (P:=P) (w:=w) (base:=base) T J0;refine F.F.ok aT (λvs H Q E h=>?_) (λcdv A outer s H vs Q E hr h=>?_)
 ·obtain ⟨r,p,c,x,m,_,_,rfl,_⟩:=h
  rfl
 obtain ⟨r,p,c,x,m,hm1,hmn,rfl,nrp,hr0,hp0,q⟩:=h;refine ⟨_,(@pss_cons _ _ _ _ _ (21,3,aT.nd,(10,J5,Kr,@pa2 _ _ _ _ _ (pv 0) (15,aZ,pe_int,(18)) (1) (1))) (@pss_cons _ _ _ _ _ (21,4,aT.nd,@pe_ix _ _ _ _ _ _ _ (aG (K:=K) rfl) (pv 3) (pcl JA JC (7) rfl (@pa2 _ _ _ _ _ (pv 0) (pe_callB (bA (K:=K) rfl) rfl T.z_len PySem.boot_len (9,pv 3)) (1) (1))) (λ_ _=>rfl)) (@pss_cons _ _ _ _ _ (21,5,aT.nd,@pe_lst _ _ _ _ pa_nil) (@pss_cons _ _ _ _ _ (ps_for PassesOwn.never rfl (gi (K:=K) rfl (pv 3)) (aj (i:=6) aT.nd rfl (Or.inl rfl))
    (6,(21,7,aT.nd,(10,J0,Kn,@pa1 _ _ _ (pv 0) (1))),(6,(11,pt_cmpR op_eq (18) pe_int (nomark _),(5,(21,7,aT.nd,@pe_tupPK _ K _ _ _ _ rfl (12,pe_str,(18))))),(6,(11,pt_cmpR op_ne (pv 6) (pv 4) (nomark _),(5,(21,7,aT.nd,(10,J3,Kk,@pa3 _ _ _ _ _ _ _ (pv 0) (16,cc,pv 1) (pv 2) (1) (1) (1))))),(5,@ps_expr _ _ _ _ (pe_bm PySem.F.plainAttrs_list PySem.F.slot_list_append PySem.F.type_list_append bL (pv 5) (9,@pe_tupPK _ K _ _ _ _ rfl (12,pv 6,pv 7))) (1)))))) (5,(8,@pe_tupPK _ K _ _ _ _ rfl (@av _ _ _ _ _ pe_str (@pa3 _ _ _ _ _ _ _ (pv 4) (@pe_tupPK _ K _ _ _ _ rfl (12,pe_str,pe_callTy (aU (K:=K) rfl) rfl T.z_tuple boot_tuple (9,pv 5))) (18) (1) (1) (1)) (1)))))))),?_⟩
 obtain ⟨k0,k1⟩:=mod_lt c (m:=3) (by decide);obtain ⟨k,hk⟩:∃ k:Nat,((k:Nat):Int)=1+c % 3:=⟨(1+c % 3).toNat,(3)⟩;refine ⟨_,rfl,_,rfl,r,c,3,rfl,hr0,by decide,by decide,_,_,rfl,rfl,r,c / 3,k,(by show [V.ref r,V.int (1+c % 3)]=_;rw [hk]),aa,(3),λpn ss c2 H2 b2 hpn r2 n2 nam=>?_⟩;have p1:(upd H r (.lst [.int (c / 3)])) p=some (.lst [.int x]):=by rw [ac nrp.symm];exact hp0
 have npn:p≠pn:=ah p1 hpn;have nrn:r≠pn:=ah aa hpn;have hnH:H pn=none:=by rw [ac nrn.symm] at hpn;exact hpn
 have B2:But2 r p H H2:=(But2.one But.put).trans (.one b2);have p2:H2 p=some (.lst [.int x]):=b2 _ _ nrp.symm p1;have lss:=nam.len;have ln:(0:Int) < (((ss.map V.str).length:Nat):Int):=by rw [aAa];lia
 obtain ⟨d0,d1⟩:=mod_lt c2 ln;obtain ⟨vk,hvk,ek⟩:=lK (xs:=ss.map V.str) d0 d1;obtain ⟨key,hkey,rfl⟩:=aAm.mp hvk;refine ⟨_,rfl,_,rfl,_,rfl,pn,_,rfl,.inl (SqL.of n2),r,c2,_,rfl,r2,ln,(by rw [aAa];lia),pn,_,_,_,rfl,rfl,SqL.of (by rw [ac nrn.symm];exact n2),ek,?_⟩
 generalize hL:(((ss.map V.str).length:Nat):Int)=L at *
 have n3:(upd H2 r (.lst [.int (c2 / L)])) pn=some (.lst (ss.map V.str)):=by rw [ac nrn.symm];exact n2
 have r3:(upd H2 r (.lst [.int (c2 / L)])) r=some (.lst [.int (c2 / L)]):=aa;have p3:(upd H2 r (.lst [.int (c2 / L)])) p=some (.lst [.int x]):=by rw [ac nrp.symm];exact p2
 have B3:But2 r p H (upd H2 r (.lst [.int (c2 / L)])):=B2.trans (.one But.put)
 generalize upd H2 r (.lst [.int (c2 / L)])=H3 at *
 refine ⟨(by show 0<=sizeLine;decide),λpf hpf=>?_⟩;have nrf:r≠pf:=ah r3 hpf;have npf:p≠pf:=ah p3 hpf;have nfn:pf≠pn:=(ah n3 hpf).symm;have hfH:H pf=none:=by
  cases e:H pf with
  | none=>rfl
  | some o=>rw [B3 _ _ nrf.symm npf.symm e] at hpf;cases hpf
 refine ⟨_,rfl,pn,rfl,⟨_,SqL.of (by rw [ac nfn.symm];exact n3)⟩,kX (xs:=ss.map V.str) (λi σ H'=>∃ gs ys c' x' v6 v7,RkI K r p pn pf ss key m x H i gs ys c' x' H'/\σ=[some (.ref r),some (.int (m+2:Nat)),some (.ref p),some (.ref pn),some (.str key),some (.ref pf),v6,v7])
  ⟨[],[],c2 / L,x,none,none,⟨B3.upd hfH,(by rw [ac nrf];exact r3),(by rw [ac npf];exact p3),(by rw [ac nfn.symm];exact n3),aa,.nil,rfl,(λg hg=>by cases hg),(λg hg=>by cases hg),(λg hg=>by cases hg),(by show 0+4*bud x<=0+4*bud x;lia)⟩,rfl⟩ (λi σ H' _ h=>by obtain ⟨_,_,_,_,_,_,h,_⟩:=h;exact SqL.of h.hn) ?_ ?_⟩
 ·rintro i u σ H4 hu ⟨gs,ys,c4,x4,v6,v7,I,rfl⟩;rw [aAg] at hu;obtain ⟨z,hz,rfl⟩:=aAi.mp hu;have li:=(aAj.mp hz).1;have few:=I.few;refine ⟨_,rfl,r,c4,rfl,I.hr,λv5 lo hi n5 H5 b5 r5 hv5 fk5=>?_⟩;have p5:H5 p=some (.lst [.int x4]):=b5 _ _ nrp.symm I.hp;have e2:(((m+2:Nat):Int)) - 2=((m:Nat):Int):=(3)
  refine ⟨_,rfl,r,n5,2,rfl,r5,by decide,by decide,rfl,_,rfl,bi (λc1=>?_) (λc1=>?_)⟩
  ·obtain ⟨k4,k5⟩:=mod_lt (n5 / 2) (m:=4) (by decide);refine ⟨_,rfl,r,n5 / 2,4,rfl,aa,by decide,by decide,[.str "text",.int _],.cons .str (.cons .int .nil),sz2,λv6 H6 g6 hv6=>?_⟩;have B6:But2 r p H4 H6:=(((But2.one b5).trans (.one But.put)).trans (.one But.put)).trans (.same g6);have r6:H6 r=some (.lst [.int (n5 / 2 / 4)]):=g6 _ _ aa;have p6:H6 p=some (.lst [.int x4]):=g6 _ _ (by rw [ac nrp.symm,ac nrp.symm];exact p5);refine ⟨_,rfl,_,rfl,rfl,_,rfl,bi (λc2=>?_) (λc2=>?_)⟩
   ·refine ⟨_,rfl,_,rfl,_,_,rfl,rfl,_,rfl,r,p,n5 / 2 / 4,x4,m,hm1,hmn,(by show [V.ref r,V.int (((m+2:Nat):Int) - 2),V.ref p]=_;rw [e2]),nrp,r6,p6,λv d a c7 n7 x7 H7 b7 r7 p7 hv fk7 ha hc7=>?_⟩;refine ⟨_,rfl,.inl ⟨rfl,_,SqL.of (b7 _ _ nrf.symm npf.symm (B6 _ _ nrf.symm npf.symm I.hf))⟩,_,rfl,_,rfl,[.str z,d],.cons .str (.cons hv .nil),sz2,λv8 H8 g8 hv8=>?_⟩;exact ⟨pf,ys,v8,rfl,rfl,g8 _ _ (b7 _ _ nrf.symm npf.symm (B6 _ _ nrf.symm npf.symm I.hf)),ay (3),_,_,_,_,_,_,I.next hz nrf npf nrn npn nfn hfH (B6.trans b7) r7 p7 fk7 ha hc7 (λe=>by rw [e] at c2;simp at c2) g8 hv8,rfl⟩
   ·refine ⟨_,rfl,.inl ⟨rfl,_,SqL.of (B6 _ _ nrf.symm npf.symm I.hf)⟩,_,rfl,_,rfl,[.str z,_],.cons .str (.cons hv6 .nil),sz2,λv8 H8 g8 hv8=>?_⟩;exact ⟨pf,ys,v8,rfl,rfl,g8 _ _ (B6 _ _ nrf.symm npf.symm I.hf),ay (3),_,_,_,_,_,_,I.next hz nrf npf nrn npn nfn hfH B6 r6 p6 (.text _ k4 (3)) hm1 (3) (λ_=>⟨_,_,rfl,.inr rfl⟩) g8 hv8,rfl⟩
  ·have B6:But2 r p H4 (upd H5 r (.lst [.int (n5 / 2)])):=(But2.one b5).trans (.one But.put);have r6:(upd H5 r (.lst [.int (n5 / 2)])) r=some (.lst [.int (n5 / 2)]):=aa;have p6:(upd H5 r (.lst [.int (n5 / 2)])) p=some (.lst [.int x4]):=by rw [ac nrp.symm];exact p5
   have hv6:=hv5.but r5 (But.put (o:=.lst [.int (n5 / 2)]));refine ⟨_,rfl,_,rfl,rfl,_,rfl,bi (λc2=>?_) (λc2=>?_)⟩
   ·refine ⟨_,rfl,_,rfl,_,_,rfl,rfl,_,rfl,r,p,n5 / 2,x4,m,hm1,hmn,(by show [V.ref r,V.int (((m+2:Nat):Int) - 2),V.ref p]=_;rw [e2]),nrp,r6,p6,λv d a c7 n7 x7 H7 b7 r7 p7 hv fk7 ha hc7=>?_⟩;refine ⟨_,rfl,.inl ⟨rfl,_,SqL.of (b7 _ _ nrf.symm npf.symm (B6 _ _ nrf.symm npf.symm I.hf))⟩,_,rfl,_,rfl,[.str z,d],.cons .str (.cons hv .nil),sz2,λv8 H8 g8 hv8=>?_⟩;exact ⟨pf,ys,v8,rfl,rfl,g8 _ _ (b7 _ _ nrf.symm npf.symm (B6 _ _ nrf.symm npf.symm I.hf)),ay (3),_,_,_,_,_,_,I.next hz nrf npf nrn npn nfn hfH (B6.trans b7) r7 p7 fk7 ha hc7 (λe=>by rw [e] at c2;simp at c2) g8 hv8,rfl⟩
   ·refine ⟨_,rfl,.inl ⟨rfl,_,SqL.of (B6 _ _ nrf.symm npf.symm I.hf)⟩,_,rfl,_,rfl,[.str z,_],.cons .str (.cons hv6 .nil),sz2,λv8 H8 g8 hv8=>?_⟩;exact ⟨pf,ys,v8,rfl,rfl,g8 _ _ (B6 _ _ nrf.symm npf.symm I.hf),ay (3),_,_,_,_,_,_,I.next hz nrf npf nrn npn nfn hfH B6 r6 p6 fk5 hm1 (3) (λ_=>⟨_,_,rfl,.inl rfl⟩) g8 hv8,rfl⟩
 ·rintro σ H4 ⟨gs,ys,c4,x4,v6,v7,I,rfl⟩;obtain ⟨B4,r4,p4,n4,f4,hys,nms,fk,hd,ky,hsum⟩:=I;rw [aAa,aBs] at nms;rw [aAa] at hsum;obtain ⟨F1,F2⟩:=wK (D:=m) nam (3) nms fk hd;have hK:IB (gs.map prG) key:=by
   obtain ⟨g,hg,rfl⟩:=aAm.mp (nms ▸ hkey:key∈gs.map (·.1));obtain ⟨w,l,e,h⟩:=ky g hg rfl;exact ⟨w,l,aAm.mpr ⟨g,hg,by show Dt.tup [.str g.1,g.2.1]=_;rw [e]⟩,h⟩
  obtain ⟨k4,k5⟩:=mod_lt c4 (m:=9) (by decide);refine ⟨_,rfl,_,rfl,pf,_,_,rfl,SqL.of f4,hys,λv5 H5 g5 hv5=>?_⟩;refine ⟨[.str "record",.tup (gs.map prG)],.cons .str (.cons hv5 .nil),sz2,λv6 H6 g6 hv6=>?_⟩;have r6:=g6 _ _ (g5 _ _ r4);refine ⟨_,rfl,r,c4,9,rfl,r6,by decide,by decide,[.str "rows",.str key,.tup [.str "record",.tup (gs.map prG)],.int _],.cons .str (.cons .str (.cons (hv6.but r6 But.put) (.cons .int .nil))),(by show 4<=sizeLine;decide),λv7 H7 g7 hv7=>?_⟩;exact q v7 _ _ _ (c4 / 9) x4 H7 ((((B4.trans (.same g5)).trans (.same g6)).trans (.one But.put)).trans (.same g7)) (g7 _ _ aa) (g7 _ _ (by rw [ac nrp.symm];exact g6 _ _ (g5 _ _ p4))) hv7 (.rows F1 hK k4 (3)) (3) (3)
theorem nA (T:Tx K mg ad) {f fr fw:Addr} {fd fdr fdw:FuncData} (D:Gn K mg "_law_kind" cK ["row","deep","room"] f fd) (Dr:Gn K mg "_law_record_kind" bz ["row","deep","room"] fr fdr) (Dw:Gn K mg "_law_rows_kind" bK ["row","deep","room"] fw fdw) :
  ∀ n,FnOk P w K mg base CX0 (3*n+6) f fd ["row","deep","room"] (qu K n)
 | 0=>fn_none λvs H Q E z=>by obtain ⟨_,_,_,_,m,h1,h2,_⟩:=z;lia
 | n+1=>by
  have ih:=nA T D Dr Dw n;refine (qv T n D Dr Dw ih (iu T n Dr D ih) ((jM T n Dw D ih).imp ?_)).mono (3);rintro vs H Q E ⟨r,p,c,x,m,h1,h2,z⟩;exact ⟨r,p,c,x,m,h1,(3),z⟩
def aR (L:Str) (c:Nat):Bool:=decide (c∈L.cps.toList)
def cj (L:Str) (cs:List Nat):Nat:=(cs.takeWhile (aR L)).length
theorem oH (L:Str):∀ cs:List Nat,cj L cs<=cs.length
 | []=>aAo _
 | c :: cs=>by
  unfold cj;rw [aA0]
  split
  ·exact aBP (oH L cs)
  ·exact aAE _
theorem wL {L:Str}:∀ {cs:List Nat} {k:Nat},k < cj L cs->∃ c,cs[k]?=some c/\aR L c=true
 | [],k,h=>by simp [cj] at h
 | c :: cs,k,h=>by
  unfold cj at h;rw [aA0] at h
  split at h
  ·rename_i e
   cases k with
   | zero=>exact ⟨c,rfl,e⟩
   | succ k=>exact wL (cs:=cs) (by unfold cj;simpa using h)
  ·simp at h
theorem run_end {L:Str}:∀ {cs:List Nat} {c:Nat},cs[cj L cs]?=some c->aR L c=false
 | [],c,h=>by simp at h
 | d :: cs,c,h=>by
  unfold cj at h;rw [aA0] at h
  split at h
  ·exact run_end (cs:=cs) (by unfold cj;simpa using h)
  ·rename_i e
   simp at h;subst h
   simpa using e
def sk (_:W.Frag) (_:Ads):Sp:=λvs H Q _=>∃ (z L:Str) (n:Nat),vs=[.str z,.int n,.str L]/\n<=z.length/\z.length<=100000/\Q (.int (n+cj L (z.cps.toList.drop n):Nat)) H
theorem sq (T:Tx K mg ad) {f:Addr} {fd:FuncData} (F:Gn K mg "run_end" j3 ["text","at","letters"] f fd):FnOk P w K mg base CX0 1 f fd ["text","at","letters"] (sk K ad):=by
 refine F.F.ok iG (λvs H Q E h=>?_) (λcdv A outer s H vs Q E hr h=>?_)
 ·obtain ⟨z,L,n,rfl,_⟩:=h
  rfl
 obtain ⟨z,L,n,rfl,hn,hz,q⟩:=h;refine ⟨_,(@pss_cons _ _ _ _ _ (21,3,iG.nd,pv 1) (@pss_cons _ _ _ _ _ (iJ PassesOwn.never (PW.pt (@pw_and _ _ _ _ _ _ _ (pt_cmpR fQ (pv 3) (pe_callB cy rfl T.z_len PySem.boot_len (@pa1 _ _ _ (pv 0) (1))) (nomark _)) (@pw_and1 _ _ _ _ (pt_cmpR op_in_str (@pe_ix _ _ _ _ _ _ _ ix_str (pv 0) (pv 3) (λ_ _=>rfl)) (pv 2) rfl))))
    (5,rg (i:=3) iG.nd rfl (Or.inl rfl) pe_int ip_add)) (5,(8,pv 3)))),?_⟩
 have rl:=oH L (z.cps.toList.drop n);rw [aAK,am] at rl;refine ⟨_,rfl,λm σ H'=>H'=H/\∃ k:Nat,k<=cj L (z.cps.toList.drop n)/\m=cj L (z.cps.toList.drop n) - k/\σ=[some (.str z),some (.int n),some (.str L),some (.int (n+k:Nat))],⟨_,rfl,0,aAE _,rfl,rfl⟩,?_⟩;rintro m σ H' ⟨rfl,k,hk,rfl,rfl⟩;refine ⟨_,rfl,_,rfl,z,rfl,cf hz,_,_,rfl,rfl,_,rfl,bi (λc=>?_) (λc=>?_)⟩
 ·have hlt:n+k < z.length:=by have:=of_decide_eq_true c;lia
  obtain ⟨ch,hch⟩:∃ ch,z.cps.toList[n+k]?=some ch:=⟨_,aAv (by rw [am];exact hlt)⟩;have hd:(z.cps.toList.drop n)[k]?=some ch:=by rw [List.getElem?_drop];exact hch
  refine ⟨_,rfl,_,rfl,z,_,ch,rfl,rfl,cf hz,qq hch,_,rfl,_,_,rfl,rfl,_,rfl,?_⟩;rw [PySem.StrLaws.found_one]
  by_cases hlt':k < cj L (z.cps.toList.drop n)
  ·obtain ⟨c',h1,h2⟩:=wL hlt';rw [hd] at h1;obtain rfl:=Option.some.inj h1;rw [show decide (ch∈L.cps.toList)=true from h2];refine df ⟨λσ' H2=>H2=H'/\σ'=[some (.str z),some (.int n),some (.str L),some (.int (n+(k+1):Nat))],λσ' H2 p=>⟨_,(by lia:cj L (z.cps.toList.drop n) - (k+1) < _),p.1,k+1,hlt',rfl,p.2⟩,_,rfl,_,_,rfl,rfl,rfl,?_⟩;simp only [List.set_cons_succ,List.set_cons_zero];rw [show ((n+k:Nat):Int)+1=((n+(k+1):Nat):Int) by lia]
  ·have e:k=cj L (z.cps.toList.drop n):=(3)
   subst e;rw [show decide (ch∈L.cps.toList)=false from run_end hd];exact ce ⟨_,rfl,q⟩
 ·have e:k=cj L (z.cps.toList.drop n):=by
   have c':¬ (((n+k:Nat):Int) < (z.length:Int)):=λh=>c (decide_eq_true h);lia
  subst e;exact ⟨_,rfl,q⟩
abbrev letS:Str:= "abcdefghijklmnopqrstuvwxyz"
abbrev figS:Str:= "0123456789"
def dE:List Nat->Option Nat
 | []=>none
 | c :: r=>if c=34 then (r.findIdx? (· == 34)).map (· + 2) else if aR letS c=true then some (cj letS (c :: r)) else if c=45\/aR figS c=true then some (1+cj figS r) else some 1
theorem iY (c d:Nat):decide (V.str ⟨#[c]⟩=V.str ⟨#[d]⟩)=decide (c=d):=by
 rw [decide_eq_decide];exact ⟨λh=>by injection h with h;injection h with h;simpa using h,λh=>by rw [h]⟩
theorem wM:(Str.ofString "\"")=⟨#[34]⟩:=(4)
theorem wN:(Str.ofString "-")=⟨#[45]⟩:=(4)
theorem yX:(Str.ofString " ")=⟨#[32]⟩:=(4)
def qx (_:W.Frag) (ad:Ads):Sp:=λvs H Q E=>∃ (z:Str) (n:Nat),vs=[.str z,.int n]/\n < z.length/\z.length<=100000 /\
 (∀ k,dE (z.cps.toList.drop n)=some k->Q (.int (n+k:Nat)) H)/\(dE (z.cps.toList.drop n)=none->∀ H',Same H H'->E (.ref ad.BadText) none H')
theorem Cg (z:Str) (n:Nat):wx z ⟨#[34]⟩ ((n:Int)+1)=match (z.cps.toList.drop (n+1)).findIdx? (· == 34) with | some i=>((n+1+i:Nat):Int) | none=>-1:=by
 unfold wx;have e:PySem.fromIndex z.length ((n:Int)+1)=n+1:=by
  unfold PySem.fromIndex;rw [if_neg (3)];lia
 rw [e,PySem.StrLaws.occ_one]
 cases (z.cps.toList.drop (n+1)).findIdx? (· == 34) <;> rfl
theorem qy (T:Tx K mg ad) {f:Addr} {fd:FuncData} (F:Gn K mg "word_end" iE ["text","at"] f fd):FnOk P w K mg base (CXE P w) 2 f fd ["text","at"] (qx K ad):=by
 obtain ⟨_,_,K0⟩:=T.run_end;have Lj:=sq (P:=P) (w:=w) (base:=base) T K0;obtain ⟨t_QUOTE,c_QUOTE⟩:=T.QUOTE;obtain ⟨t_LETTERS,c_LETTERS⟩:=T.LETTERS;obtain ⟨t_MINUS,c_MINUS⟩:=T.MINUS;obtain ⟨t_FIGURES,c_FIGURES⟩:=T.FIGURES;refine F.F.okW ko (λvs H Q E h=>?_) (λcdv A outer s H vs Q E hr h=>?_)
 ·obtain ⟨z,n,rfl,_⟩:=h
  rfl
 obtain ⟨z,n,rfl,hn,hz,q1,q2⟩:=h;refine ⟨_,(6,(11,pt_cmpR op_eq (@pe_ix _ _ _ _ _ _ _ ix_str (pv 0) (pv 1) (λ_ _=>rfl)) (bF rfl c_QUOTE) (nomark _),(6,(23,ko.nd,pe_bm PySem.F.plainAttrs_str PySem.F.slot_str_find PySem.F.type_str_find wA (pv 0) (12,bF rfl c_QUOTE,(16,aZ,pv 1))),(6,(11,pt_cmpR fQ (pv 2) pe_int (nomark _),(5,ps_raiseW rfl rfl rfl rfl T.x_BadText rfl (@pa1 _ _ _ pe_str (1)))),(5,(8,(16,aZ,pv 2)))))),(6,(11,pt_cmpR op_in_str (@pe_ix _ _ _ _ _ _ _ ix_str (pv 0) (pv 1) (λ_ _=>rfl)) (bF rfl c_LETTERS) rfl,(5,(8,(10,K0,Lj,@pa3 _ _ _ _ _ _ _ (pv 0) (pv 1) (bF rfl c_LETTERS) (1) (1) (1))))),(6,(11,PW.pt (@j6 _ _ _ _ _ _ _ (pt_cmpR op_eq (@pe_ix _ _ _ _ _ _ _ ix_str (pv 0) (pv 1) (λ_ _=>rfl)) (bF rfl c_MINUS) (nomark _)) (@ii _ _ _ _ (pt_cmpR op_in_str (@pe_ix _ _ _ _ _ _ _ ix_str (pv 0) (pv 1) (λ_ _=>rfl)) (bF rfl c_FIGURES) rfl))),(5,(8,(10,K0,Lj,@pa3 _ _ _ _ _ _ _ (pv 0) (16,aZ,pv 1) (bF rfl c_FIGURES) (1) (1) (1))))),(5,(8,(16,aZ,pv 1)))))),?_⟩;obtain ⟨ch,hch⟩:∃ ch,z.cps.toList[n]?=some ch:=⟨_,aAv (by rw [am];exact hn)⟩;have hd:z.cps.toList.drop n=ch :: z.cps.toList.drop (n+1):=by
  obtain ⟨h1,h2⟩:=aAj.mp hch;rw [aA7 h1,h2]
 rw [hd] at q1 q2;simp only [dE] at q1 q2;refine ⟨_,rfl,_,rfl,z,_,ch,rfl,rfl,cf hz,qq hch,?_⟩;refine ⟨rfl,_,rfl,?_⟩;rw [wM,iY];refine bi (λc=>?_) (λc=>?_)
 ·have c':=of_decide_eq_true c;rw [if_pos c'] at q1 q2;refine ⟨_,rfl,rfl,_,rfl,_,_,rfl,rfl,_,_,_,rfl,rfl,?_⟩;rw [Cg]
  cases hf:(z.cps.toList.drop (n+1)).findIdx? (· == 34) with
  | none =>
   rw [hf] at q2;dsimp only;refine ⟨_,rfl,_,_,rfl,rfl,_,rfl,bi (λ_=>?_) (λc=>absurd (show decide ((-1:Int) < 0)=true by decide) c)⟩;exact ⟨sz1,q2 rfl H (Same.refl H)⟩
  | some i =>
   rw [hf] at q1;dsimp only;refine ⟨_,rfl,_,_,rfl,rfl,_,rfl,bi (λc=>absurd (of_decide_eq_true c) (Int.not_lt.mpr (Int.natCast_nonneg _))) (λ_=>?_)⟩;refine ⟨_,rfl,_,_,rfl,rfl,?_⟩;have:=q1 (i+2) rfl;rw [show ((n+1+i:Nat):Int)+1=((n+(i+2):Nat):Int) by lia];exact this
 have c':¬ ch=34:=λh=>c (decide_eq_true h);rw [if_neg c'] at q1 q2;refine ⟨_,rfl,_,rfl,z,_,ch,rfl,rfl,cf hz,qq hch,_,_,rfl,rfl,_,rfl,?_⟩;rw [PySem.StrLaws.found_one];refine bi (λc=>?_) (λc=>?_)
 ·have c2:aR letS ch=true:=c;rw [if_pos c2] at q1;have:=q1 _ rfl;rw [<- hd] at this;exact ⟨_,rfl,_,rfl,z,letS,n,rfl,(3),hz,this⟩
 have c2:¬ aR letS ch=true:=c;rw [if_neg c2] at q1 q2;refine ⟨_,rfl,_,rfl,z,_,ch,rfl,rfl,cf hz,qq hch,rfl,_,rfl,?_⟩;rw [wN,iY];have run:(ch=45\/aR figS ch=true)->Q (.int (n+(1+cj figS (z.cps.toList.drop (n+1))):Nat)) H:=λh=>by
  rw [if_pos h] at q1;exact q1 _ rfl
 have call:∀ {Q':Prop},((Q (.int (n+1+cj figS (z.cps.toList.drop (n+1)):Nat)) H)->Q')->(ch=45\/aR figS ch=true)->Q':=λf h=>f (by
  rw [show n+1+cj figS (z.cps.toList.drop (n+1))=n+(1+cj figS (z.cps.toList.drop (n+1))) by lia];exact run h)
 refine bi (λc3=>?_) (λc3=>?_)
 ·refine df ⟨_,rfl,_,rfl,_,_,rfl,rfl,z,figS,n+1,(by rw [aBV];rfl),(3),hz,call id (.inl (of_decide_eq_true c3))⟩
 ·refine ⟨_,rfl,_,rfl,z,_,ch,rfl,rfl,cf hz,qq hch,_,_,rfl,rfl,_,rfl,?_⟩;rw [PySem.StrLaws.found_one];refine bi (λc4=>?_) (λc4=>?_)
  ·exact ⟨_,rfl,_,rfl,_,_,rfl,rfl,z,figS,n+1,(by rw [aBV];rfl),(3),hz,call id (.inr c4)⟩
  ·rw [if_neg (λh=>h.elim (λh=>c3 (decide_eq_true h)) (λh=>c4 h))] at q1;refine ⟨_,rfl,_,_,rfl,rfl,?_⟩;exact q1 1 rfl
abbrev figs:Str:= "0123456789"
def inF (c:Nat):Bool:=!(Builtin.Str.occurrences figs ⟨#[c]⟩ 0 figs.length 1).isEmpty
def gp (c:Nat):Bool:=decide (48<=c/\c<=57)
theorem tK (c:Nat):inF c=gp c:=by
 unfold inF gp;rw [PySem.StrLaws.found_one,show figs.cps.toList=[48,49,50,51,52,53,54,55,56,57] by decide +kernel,decide_eq_decide];refine ⟨λh=>?_,λh=>?_⟩
 ·revert c
  decide
 ·obtain ⟨k,rfl⟩:=Nat.exists_eq_add_of_le h.1;have h2:k < 10:=(3)
  clear h
  revert k
  decide
def aV (cs:List Nat):List Nat:=if cs.head?=some 45 then cs.drop 1 else cs
def dR (cs:List Nat):Option Int :=
 if aV cs=[] then none else if (aV cs).all gp=false then none
 else if (aV cs).head?=some 48/\cs≠[48] then none
 else some (if cs.head?=some 45 then -(NumText.digitsVal (aV cs):Int) else (NumText.digitsVal (aV cs):Int))
def Ju:Option Int->V
 | none=>.non
 | some i=>.int i
def aK (m:Int):Str:=Str.ofString (toString m)
def oI (_:W.Frag) (_:Ads):Sp:=λvs H Q _=>∃ z:Str,vs=[.str z]/\z.length<=100/\∀ H',Same H H'->Q (Ju (dR z.cps.toList)) H'
theorem sr {n:Nat} (h:n<=1000):n<=sizeLine:=aBa (ay h)
theorem wO:("-" : Str)=⟨#[45]⟩:=(4)
theorem nB:("0" : Str)=⟨#[48]⟩:=(4)
theorem Ch:("" : Str)=⟨#[]⟩:=(4)
theorem wP (z:Str):decide (V.str z=V.str "")=decide (z.cps.toList=[]):=by
 rw [Ch,decide_eq_decide];exact ⟨λh=>by injection h with h;rw [h],λh=>congrArg V.str (bG h)⟩
theorem nD (z:Str):decide (V.str z=V.str "0")=decide (z.cps.toList=[48]):=by
 rw [nB,decide_eq_decide];exact ⟨λh=>by injection h with h;rw [h],λh=>congrArg V.str (bG h)⟩
theorem oJ (z:Str):Txt.startswith z "-" = decide (z.cps.toList.head?=some 45):=by rw [wO];exact ls z 45
theorem ib (z:Str):Txt.startswith z "0" = decide (z.cps.toList.head?=some 48):=by rw [nB];exact ls z 48
theorem wQ {z:Str} {c:Nat} (h:z.cps.toList.head?=some c):1<=z.length:=by
 rw [<- am]
 cases e:z.cps.toList with
 | nil=>rw [e] at h;cases h
 | cons a l=>simp
theorem uX {z:Str} (h:z.cps.toList.head?=some 45):(Txt.slice z (some 1) none).cps.toList=aV z.cps.toList:=by
 rw [rR (wQ h)];unfold aV;rw [if_pos h]
theorem qz (cs:List Nat):cs.all inF=cs.all gp:=by rw [show inF=gp from funext tK]
theorem tL (cs:List Nat):(aV cs).length<=cs.length:=by
 unfold aV
 split
 ·rw [aAK];lia
 ·exact aAo _
theorem uY {cs:List Nat} (h:cs.all gp=true):NumText.AllDigits cs:=λc hc=>of_decide_eq_true (aAP.mp h c hc)
theorem qA {z:Str} (hz:z.length<=100) (h1:aV z.cps.toList≠[]) (h2:(aV z.cps.toList).all gp=true) (h3:¬ ((aV z.cps.toList).head?=some 48/\z.cps.toList≠[48])):∃ n,PySem.intText? z=some n/\dR z.cps.toList=some n:=by
 unfold dR;rw [if_neg h1,if_neg (by rw [h2];exact Bool.noConfusion),if_neg h3];have hd:=uY h2
 by_cases hm:z.cps.toList.head?=some 45
 ·rw [if_pos hm];have ef:aV z.cps.toList=z.cps.toList.drop 1:=by unfold aV;rw [if_pos hm]
  have e:z.cps.toList=45 :: aV z.cps.toList:=by
   rw [ef]
   cases e:z.cps.toList with
   | nil=>rw [e] at hm;cases hm
   | cons a l=>rw [e] at hm;injection hm with hm;subst hm;rfl
  exact ⟨_,PySem.intText_neg e hd h1 (3),rfl⟩
 ·rw [if_neg hm];have ef:aV z.cps.toList=z.cps.toList:=by unfold aV;rw [if_neg hm]
  rw [ef] at hd h1 ⊢;exact ⟨_,PySem.intText_digits hd h1 (3),rfl⟩
theorem gq (m:Int):(aK m).cps.toList=eU m:=str_int m
theorem ym (m:Int):dR (eU m)=some m:=by
 have hd:(dg m.natAbs).all gp=true:=aAP.mpr λc hc=>decide_eq_true (eT _ c hc)
 by_cases h:m < 0
 ·have e:eU m=45 :: dg m.natAbs:=by unfold eU;rw [if_pos h]
  have ef:aV (eU m)=dg m.natAbs:=by rw [e];rfl
  obtain ⟨c,r,eh,hc⟩:=tj m.natAbs (3);unfold dR;rw [ef,if_neg (wc _),if_neg (by rw [hd];exact Bool.noConfusion),if_neg (by
   rintro ⟨a,_⟩;rw [eh] at a;injection a with a
   lia),wf,e]
  show some (if (45 :: dg m.natAbs).head?=some 45 then -(m.natAbs:Int) else (m.natAbs:Int))=some m;rw [if_pos (show (45 :: dg m.natAbs).head?=some 45 from rfl)]
  congr 1
  lia
 ·have e:eU m=dg m.natAbs:=by unfold eU;rw [if_neg h]
  have hh:(dg m.natAbs).head?≠some 45:=by
   intro z;have:45∈dg m.natAbs:=List.mem_of_head? z;have:=eT _ _ this;lia
  have ef:aV (eU m)=dg m.natAbs:=by rw [e];unfold aV;rw [if_neg hh]
  unfold dR;rw [ef,if_neg (wc _),if_neg (by rw [hd];exact Bool.noConfusion),if_neg (by
   rintro ⟨a,b⟩
   by_cases h0:m.natAbs=0
   ·rw [e,h0] at b;exact b (gh (by decide))
   ·obtain ⟨c,r,eh,hc⟩:=tj m.natAbs (3);rw [eh] at a;injection a with a
    lia),wf,e,if_neg hh]
  congr 1
  lia
theorem tM {K:W.Frag} {H:Hp} {l:Addr} {z:Str} {R:Hp->Prop} {nm:L2.St} (hl:H l=none) (hz:z.length<=sizeLine) (q:∀ H',Same H H'->SqL K H' l (bls (z.cps.toList.map inF))->R H')
  (hn:nm=[none]):∃ W:Nat->Nat->List V->L2.St->Hp->Prop,(∃ m,W 0 m [] nm (upd H l (.lst [])))/\∀ i m ys σ' H',W i m ys σ' H'->((Its z).stop i H'/\R H') \/
   ((Its z).go i H'/\∀ x H'',(Its z).yld i H' x H''->cR 0 x σ' H'' λσ2 H2=>cEl (tOp (λx y H Q=>∃ i j,x=.str i/\y=.str j/\Q (.bl (!(Builtin.Str.occurrences j i 0 j.length 1).isEmpty)) H) (iH 0) (tC (.str figs))) ys l σ2 H2 λys' σ3 H3=>∃ m',m' < m/\W (i+1) m' ys' σ3 H3):=by
 subst hn;refine p9 (Q:=λ_ H'=>R H') (λi ys σ H'=>ys=bls ((z.cps.toList.take i).map inF)/\H'=upd H l (.lst ys)/\σ.length=1) ⟨rfl,rfl,rfl⟩ ?_ ?_
 ·rintro i c ys σ H1 N hc ⟨rfl,rfl,hσ⟩ next;have hc':z.cps.toList[i]?=some c:=by rw [aB1];exact hc
  have hi:i < z.cps.toList.length:=(aAj.mp hc').1;have hlen:(bls ((z.cps.toList.take i).map inF)).length < sizeLine:=by
   have:z.length=z.cps.toList.length:=by simp [Str.length]
   simp only [bls,aAa,aAF];lia
  match σ,hσ with
  | [_],_ =>
   refine ⟨.str ⟨#[c]⟩,rfl,_,_,rfl,rfl,aa,hlen,next _ _ _ ⟨?_,xF,rfl⟩⟩;show bls ((z.cps.toList.take i).map inF)++[V.bl (inF c)]=bls ((z.cps.toList.take (i+1)).map inF);unfold bls;rw [aAQ,aAQ];exact nv (V.bl ∘ inF) hc'
 ·rintro ys σ H1 ⟨rfl,rfl,hσ⟩;refine q _ (ag hl _) (SqL.of ?_);rw [aa];have:z.cps.toList.take z.cps.size=z.cps.toList:=aAx (by simp);rw [this]
theorem lO {c:Prop} [Decidable c] (h:(!decide c)=true):¬ c:=by simpa using h
theorem lP {c:Prop} [Decidable c] (h:¬ (!decide c)=true):c:=by simpa using h
theorem oK (T:Tx K mg ad) {f:Addr} {fd:FuncData} (F:Gn K mg "number_of" gC ["text"] f fd):FnOk P w K mg base CX0 1 f fd ["text"] (oI K ad):=by
 obtain ⟨t_FIGURES,c_FIGURES⟩:=T.FIGURES;refine F.F.ok jj (λvs H Q E h=>?_) (λcdv A outer s H vs Q E hr h=>?_)
 ·obtain ⟨z,rfl,_⟩:=h
  rfl
 obtain ⟨z,rfl,hz,q⟩:=h;refine ⟨_,(6,(20,jj.nd,kW (@pt_val _ _ _ (pe_bm PySem.F.plainAttrs_str PySem.F.slot_str_startswith PySem.F.type_str_startswith mt_starts (pv 0) (@pa1 _ _ _ pe_str (1))) (by intro _;rfl)) (pe_slice sl_str (pv 0) (po_some pe_int) cp) (pv 0)),(6,(11,PW.pt (@j6 _ _ _ _ _ _ _ (pt_cmpR op_eq (pv 1) pe_str (nomark _)) (@ii _ _ _ _ (@re _ _ _ _ (@pt_val _ _ _ (pe_callB (nk (K:=K) rfl rfl) rfl T.z_all boot_all (9,pe_comp rfl (cs0 (NL:=["figure"]) rfl (4) (4)) (vQ (pv 1)) (λ_ _ _ _=>(aj (i:=0) (show List.Nodup (α:=Str) ["figure"] by decide +kernel) rfl (Or.inl rfl))) (λ_ _ _ _=>(fj op_in_str (pv 0) (bF rfl c_FIGURES) rfl)))) (by intro _;rfl))))),(5,(8,pe_non))),(6,(11,PW.pt (@pw_and _ _ _ _ _ _ _ (@pt_val _ _ _ (pe_bm PySem.F.plainAttrs_str PySem.F.slot_str_startswith PySem.F.type_str_startswith mt_starts (pv 1) (@pa1 _ _ _ pe_str (1))) (by intro _;rfl)) (@pw_and1 _ _ _ _ (pt_cmpR op_ne (pv 0) pe_str (nomark _)))),(5,(8,pe_non))),(5,(8,pe_callTy call_int_text rfl T.z_int boot_int (@pa1 _ _ _ (pv 0) (1))))))),?_⟩;refine ⟨_,rfl,rfl,_,_,rfl,rfl,_,rfl,?_⟩;rw [oJ];refine bi (λc1=>?_) (λc1=>?_)
 ·have eF:=uX (of_decide_eq_true c1);refine ⟨_,rfl,_,rfl,z,rfl,sr (3),?_⟩;have lF:=am (Txt.slice z (some 1) none);rw [eF] at lF;refine ⟨_,rfl,rfl,_,rfl,?_⟩;rw [wP];have fl:=tL z.cps.toList;rw [am] at fl;refine bi (λc2=>?_) (λc2=>?_)
  ·have e:dR z.cps.toList=none:=by unfold dR;rw [if_pos (eF.symm.trans (of_decide_eq_true c2))]
   refine df ?_;rw [e] at q;exact q H (Same.refl H)
  have n2:aV z.cps.toList≠[]:=λy=>c2 (decide_eq_true (eF.trans y));refine ⟨_,rfl,_,rfl,λl hl=>tM (K:=K) hl (sr (3)) (λH1 g1 s1=>⟨l,_,rfl,rfl,s1,_,rfl,?_⟩) rfl⟩;rw [aBN,show (id ∘ inF)=inF from rfl,eF,qz]
  cases hall:(aV z.cps.toList).all gp with
  | false =>
   have e:dR z.cps.toList=none:=by unfold dR;rw [if_neg n2,if_pos hall]
   refine df ?_;rw [e] at q;exact q H1 g1
  | true =>
  refine ce ?_;refine ⟨_,rfl,rfl,_,_,rfl,rfl,_,rfl,?_⟩;rw [ib];have due:¬ ((aV z.cps.toList).head?=some 48/\z.cps.toList≠[48])->∃ n,PySem.intText? z=some n/\dR z.cps.toList=some n:=qA hz n2 hall;refine bi (λc3=>?_) (λc3=>?_)
  ·have c3':=(congrArg List.head? eF).symm.trans (of_decide_eq_true c3);refine ⟨_,rfl,rfl,_,rfl,?_⟩;rw [nD];refine bi (λc4=>?_) (λc4=>?_)
   ·have e:dR z.cps.toList=none:=by unfold dR;rw [if_neg n2,if_neg (by rw [hall];exact Bool.noConfusion),if_pos ⟨c3',lO c4⟩]
    rw [e] at q;exact q H1 g1
   ·obtain ⟨n,e1,e2⟩:=due (λy=>y.2 (lP c4));rw [e2] at q;exact ⟨_,rfl,z,n,rfl,e1,(3),q H1 g1⟩
  ·obtain ⟨n,e1,e2⟩:=due (λy=>c3 (decide_eq_true ((congrArg List.head? eF).trans y.1)));rw [e2] at q;exact ⟨_,rfl,z,n,rfl,e1,(3),q H1 g1⟩
 ·have eF:z.cps.toList=aV z.cps.toList:=by
   unfold aV;rw [if_neg (λy=>c1 (decide_eq_true y))]
  have lF:=am z;have lF:(aV z.cps.toList).length=z.length:=eF ▸ lF;refine ⟨_,rfl,?_⟩;refine ⟨_,rfl,rfl,_,rfl,?_⟩;rw [wP];have fl:=tL z.cps.toList;rw [am] at fl;refine bi (λc2=>?_) (λc2=>?_)
  ·have e:dR z.cps.toList=none:=by unfold dR;rw [if_pos (eF.symm.trans (of_decide_eq_true c2))]
   refine df ?_;rw [e] at q;exact q H (Same.refl H)
  have n2:aV z.cps.toList≠[]:=λy=>c2 (decide_eq_true (eF.trans y));refine ⟨_,rfl,_,rfl,λl hl=>tM (K:=K) hl (sr (3)) (λH1 g1 s1=>⟨l,_,rfl,rfl,s1,_,rfl,?_⟩) rfl⟩;rw [aBN,show (id ∘ inF)=inF from rfl,eF,qz]
  cases hall:(aV z.cps.toList).all gp with
  | false =>
   have e:dR z.cps.toList=none:=by unfold dR;rw [if_neg n2,if_pos hall]
   refine df ?_;rw [e] at q;exact q H1 g1
  | true =>
  refine ce ?_;refine ⟨_,rfl,rfl,_,_,rfl,rfl,_,rfl,?_⟩;rw [ib];have due:¬ ((aV z.cps.toList).head?=some 48/\z.cps.toList≠[48])->∃ n,PySem.intText? z=some n/\dR z.cps.toList=some n:=qA hz n2 hall;refine bi (λc3=>?_) (λc3=>?_)
  ·have c3':=(congrArg List.head? eF).symm.trans (of_decide_eq_true c3);refine ⟨_,rfl,rfl,_,rfl,?_⟩;rw [nD];refine bi (λc4=>?_) (λc4=>?_)
   ·have e:dR z.cps.toList=none:=by unfold dR;rw [if_neg n2,if_neg (by rw [hall];exact Bool.noConfusion),if_pos ⟨c3',lO c4⟩]
    rw [e] at q;exact q H1 g1
   ·obtain ⟨n,e1,e2⟩:=due (λy=>y.2 (lP c4));rw [e2] at q;exact ⟨_,rfl,z,n,rfl,e1,(3),q H1 g1⟩
  ·obtain ⟨n,e1,e2⟩:=due (λy=>c3 (decide_eq_true ((congrArg List.head? eF).trans y.1)));rw [e2] at q;exact ⟨_,rfl,z,n,rfl,e1,(3),q H1 g1⟩
def okC (c:Nat):Bool:=decide (32<=c) && decide (c<=126) && !decide (c=34) && !decide (c=37)
def su (_:W.Frag) (_:Ads):Sp:=λvs H Q _=>∃ c:Nat,vs=[.str ⟨#[c]⟩]/\Q (.bl (okC c)) H
theorem wR (a b:Nat):decide (([a]:List Nat) < [b])=decide (a < b):=by
 rw [decide_eq_decide,List.cons_lt_cons_iff];exact ⟨λh=>h.elim id (λh=>absurd h.2 (List.lt_irrefl _)),.inl⟩
theorem IK:(Str.ofString "~")=⟨#[126]⟩:=(4)
theorem sv (T:Tx K mg ad) {f:Addr} {fd:FuncData} (F:Gn K mg "is_sign" j0 ["letter"] f fd):FnOk P w K mg base CX0 1 f fd ["letter"] (su K ad):=by
 obtain ⟨t_PERCENT,c_PERCENT⟩:=T.PERCENT;refine F.F.ok sK (λvs H Q E h=>?_) (λcdv A outer s H vs Q E hr h=>?_)
 ·obtain ⟨c,rfl,_⟩:=h
  rfl
 obtain ⟨c,rfl,q⟩:=h;refine ⟨_,(5,(8,vv (vz nj nj pe_str (pv 0) pe_str) (vv (fj op_ne (pv 0) pe_str (nomark _)) (By (fj op_ne (pe_callB vA rfl T.z_ord boot_ord (@pa1 _ _ _ (pv 0) (1))) (kN rfl c_PERCENT) (nomark _)))))),?_⟩;refine ⟨_,rfl,_,_,rfl,rfl,_,rfl,?_⟩;rw [yX,show (!decide ((⟨#[c]⟩:Str).cps.toList < (⟨#[32]⟩:Str).cps.toList))=decide (32<=c) from by
  rw [show decide ((⟨#[c]⟩:Str).cps.toList < (⟨#[32]⟩:Str).cps.toList)=decide (c < 32) from wR c 32]
  by_cases h:c < 32 <;> simp [h] <;> lia]
 unfold okC at q;refine bi (λc1=>?_) (λc1=>?_)
 ·rw [c1] at q;refine ⟨_,_,rfl,rfl,?_⟩;rw [IK,show (!decide ((⟨#[126]⟩:Str).cps.toList < (⟨#[c]⟩:Str).cps.toList))=decide (c<=126) from by
   rw [show decide ((⟨#[126]⟩:Str).cps.toList < (⟨#[c]⟩:Str).cps.toList)=decide (126 < c) from wR 126 c]
   by_cases h:c<=126 <;> simp [h] <;> lia]
  refine ⟨_,rfl,bi (λc2=>?_) (λc2=>?_)⟩
  ·rw [c2] at q;refine ⟨_,rfl,rfl,_,rfl,?_⟩;rw [wM,iY];refine bi (λc3=>?_) (λc3=>?_)
   ·rw [c3] at q;refine ⟨_,rfl,_,rfl,rfl,rfl,?_⟩;rw [show decide (V.int ((⟨#[c]⟩:Str).cps.getD 0 0:Nat)=V.int 37)=decide (c=37) from by
     rw [decide_eq_decide];exact ⟨λh=>by injection h with h;exact Int.ofNat.inj h,λh=>by rw [h];rfl⟩]
    exact q
   ·rw [show (!decide (c=34))=false from by simpa using c3] at q;exact q
  ·rw [show decide (c<=126)=false from by simpa using c2] at q;exact q
 ·rw [show decide (32<=c)=false from by simpa using c1] at q;exact ⟨_,rfl,ce q⟩
abbrev marksS:Str:= "()[]{},:;/"
def mk2 (w:Str) (d:Dt):Dt:=.tup [.str w,d]
def cG (cs:List Nat):Str:=⟨cs.toArray⟩
theorem gW (z:Str):cG z.cps.toList=z:=by
 unfold cG;rw [Array.toArray_toList]
def mkW (cs:List Nat):Option Dt :=
 if (!(Builtin.Str.occurrences marksS (cG cs) 0 marksS.length 1).isEmpty)=true then some (mk2 "mark" (.str (cG cs)))
 else if cs.head?=some 34/\((cs.drop 1).dropLast).all okC=true then some (mk2 "text" (.str (cG ((cs.drop 1).dropLast))))
 else if (∃ c,cs.head?=some c/\aR letS c=true)/\cs.length<=8 then some (mk2 "word" (.str (cG cs)))
 else if (cs.dropWhile (· == 45)).length<=60 then (dR cs).map λn=>mk2 "number" (.int n) else none
open PySem.Builtin.Str in
theorem qB (z:Str) (h:1<=z.length):(Txt.slice z (some 1) (some (-1))).cps.toList=(z.cps.toList.drop 1).dropLast:=by
 have hl:=am z
 by_cases h2:z.length=1
 ·obtain ⟨⟨l⟩⟩:=z
  match l,hl,h2 with
  | [c],_,_=>rfl
  | [],a,b=>cases b
  | c :: d :: l,a,b=>simp [Str.length] at b
 ·have e:Txt.slice z (some 1) (some (-1))=Txt.slice z (some 1) (some ((z.length:Int) - 1)):=by
   have e0:strSliceIndices (some 1) (some (-1)) 1 z.length=strSliceIndices (some 1) (some ((z.length:Int) - 1)) 1 z.length:=by
    simp only [strSliceIndices];rw [if_neg (show ¬ ((z.length:Int) - 1 < 0) by lia),if_pos (show (-1:Int) < 0 by decide),show (-1:Int)+(z.length:Int)=(z.length:Int) - 1 by lia]
   unfold Txt.slice;rw [e0]
  rw [e,eq_of_beq (slice_closesL (x:=z) (i:=1) (j:=(z.length:Int) - 1) (by decide) (3) (3))];show List.take _ _=_;rw [List.dropLast_eq_take,aAK,hl]
  congr 1
  lia
theorem lQ (z:Str):(Txt.lstripChars z ⟨#[45]⟩).length=(z.cps.toList.dropWhile (· == 45)).length:=by
 unfold Txt.lstripChars;rw [PyProof.Rows.stripBy_eq];have e:(#[45]:Array Nat).contains=(λc:Nat=>c == 45):=by
  funext c
  rw [aA1];simp
 have h:=congrArg List.length (List.takeWhile_append_dropWhile (p:=λc:Nat=>c == 45) (l:=z.cps.toList));rw [aAc,am] at h;show (z.cps.extract _ _).size=_;rw [Array.size_extract];unfold PySem.stripHi PySem.stripLo;simp only [if_true,aAH,if_false];have hs:z.cps.size=z.length:=rfl;show min (z.length) z.cps.size - (List.takeWhile (#[45]:Array Nat).contains z.cps.toList).length=_;rw [e,hs,aBQ];lia
def oM (K:W.Frag) (ad:Ads):Sp:=λvs H Q E=>∃ z:Str,vs=[.str z]/\1<=z.length/\z.length<=100000/\z.length<=(z.cps.toList.dropWhile (· == 45)).length+1 /\
 (∀ d,mkW z.cps.toList=some d->∀ v H',Same H H'->IsP K H' d v->Q v H')/\(mkW z.cps.toList=none->∀ H',Same H H'->E (.ref ad.BadText) none H')
theorem oN (z:Str) (h:1<=z.length):(Txt.slice z (some 1) (some (-1))).length<=z.length:=by
 rw [<- am,qB z h,List.length_dropLast,aAK,am];lia
theorem oO (T:Tx K mg ad) {f:Addr} {fd:FuncData} (F:Gn K mg "made_word" gH ["text"] f fd):FnOk P w K mg base (CXE P w) 2 f fd ["text"] (oM K ad):=by
 obtain ⟨_,_,Ll⟩:=T.is_sign;have LG:=sv (P:=P) (w:=w) (base:=base) T Ll;obtain ⟨_,_,K6⟩:=T.number_of;have LB:=oK (P:=P) (w:=w) (base:=base) T K6;obtain ⟨t_MARKS,c_MARKS⟩:=T.MARKS;obtain ⟨t_QUOTE,c_QUOTE⟩:=T.QUOTE;obtain ⟨t_LETTERS,c_LETTERS⟩:=T.LETTERS;obtain ⟨t_LONGEST_NAME,c_LONGEST_NAME⟩:=T.LONGEST_NAME;obtain ⟨t_MOST_FIGURES,c_MOST_FIGURES⟩:=T.MOST_FIGURES;obtain ⟨t_MINUS,c_MINUS⟩:=T.MINUS;refine F.F.okW jn (λvs H Q E h=>?_) (λcdv A outer s H vs Q E hr h=>?_)
 ·obtain ⟨z,rfl,_⟩:=h
  rfl
 obtain ⟨z,rfl,h1,hz,hs,q1,q2⟩:=h;refine ⟨_,(6,(11,pt_cmpR op_in_str (pv 0) (bF rfl c_MARKS) rfl,(5,(8,@pe_tupPK _ K _ _ _ _ rfl (12,pe_str,pv 0)))),(6,(11,PW.pt (@pw_and _ _ _ _ _ _ _ (pt_cmpR op_eq (@pe_ix _ _ _ _ _ _ _ ix_str (pv 0) pe_int (λ_ _=>rfl)) (bF rfl c_QUOTE) (nomark _)) (@pw_and1 _ _ _ _ (@pt_val _ _ _ (pe_callB (nk (K:=K) rfl rfl) rfl T.z_all boot_all (9,pe_comp rfl (cs0 (NL:=["letter"]) rfl (4) (4)) (vQ (pe_slice sl_str (pv 0) (po_some pe_int) (po_some (@pe_un _ _ _ _ _ _ un_neg pe_int)))) (λ_ _ _ _=>(aj (i:=0) (show List.Nodup (α:=Str) ["letter"] by decide +kernel) rfl (Or.inl rfl))) (λ_ _ _ _=>(10,Ll,LG,@pa1 _ _ _ (pv 0) (1))))) (by intro _;rfl)))),(5,(8,@pe_tupPK _ K _ _ _ _ rfl (12,pe_str,pe_slice sl_str (pv 0) (po_some pe_int) (po_some (@pe_un _ _ _ _ _ _ un_neg pe_int)))))),(6,(11,PW.pt (@pw_and _ _ _ _ _ _ _ (pt_cmpR op_in_str (@pe_ix _ _ _ _ _ _ _ ix_str (pv 0) pe_int (λ_ _=>rfl)) (bF rfl c_LETTERS) rfl) (@pw_and1 _ _ _ _ (pt_cmpR yL (pe_callB cy rfl T.z_len PySem.boot_len (@pa1 _ _ _ (pv 0) (1))) (kN rfl c_LONGEST_NAME) (nomark _)))),(5,(8,@pe_tupPK _ K _ _ _ _ rfl (12,pe_str,pv 0)))),(6,(20,jn.nd,kW (pt_cmpR yL (pe_callB cy rfl T.z_len PySem.boot_len (9,pe_bm PySem.F.plainAttrs_str PySem.F.slot_str_lstrip PySem.F.type_str_lstrip rX (pv 0) (9,bF rfl c_MINUS))) (kN rfl c_MOST_FIGURES) (nomark _)) (10,K6,LB,@pa1 _ _ _ (pv 0) (1)) pe_non),(6,(11,pt_cmpR vy (pv 1) pe_non (nomark _),(5,ps_raiseW rfl rfl rfl rfl T.x_BadText rfl (@pa1 _ _ _ pe_str (1)))),(5,(8,@pe_tupPK _ K _ _ _ _ rfl (12,pe_str,pv 1)))))))),?_⟩;obtain ⟨ch,hch⟩:∃ ch,z.cps.toList[0]?=some ch:=⟨_,aAv (by rw [am];exact h1)⟩;have hh:z.cps.toList.head?=some ch:=by rw [List.head?_eq_getElem?];exact hch
 have tup:∀ {w:Str} {d:Dt} {x:V} {H1:Hp},mkW z.cps.toList=some (mk2 w d)->Same H H1->IsP K H1 d x->∃ l,IsPs K H1 l [.str w,x]/\([.str w,x]:List V).length<=sizeLine/\∀ v H',Same H1 H'->IsP K H' (.tup l) v->Q v H':=λ{w d x H1} e g hx=>⟨[.str w,d],.cons .str (.cons hx .nil),sz2,λv H' g' hv=>q1 _ e v H' (g.trans g') hv⟩;refine ⟨_,rfl,_,_,rfl,rfl,_,rfl,bi (λc=>?_) (λc=>?_)⟩
 ·have e:mkW z.cps.toList=some (mk2 "mark" (.str z)):=by
   unfold mkW;rw [gW,if_pos c]
  obtain ⟨l,a1,a2,a3⟩:=tup e (Same.refl H) .str;exact ⟨_,rfl,l,a1,a2,a3⟩
 have m0:mkW z.cps.toList=(if z.cps.toList.head?=some 34/\((z.cps.toList.drop 1).dropLast).all okC=true then some (mk2 "text" (.str (cG ((z.cps.toList.drop 1).dropLast))))
   else if (∃ c,z.cps.toList.head?=some c/\aR letS c=true)/\z.cps.toList.length<=8 then some (mk2 "word" (.str (cG z.cps.toList)))
   else if (z.cps.toList.dropWhile (· == 45)).length<=60 then (dR z.cps.toList).map λn=>mk2 "number" (.int n) else none):=by
  show (if _ then _ else _)=_;rw [gW,if_neg c]
 refine ⟨_,rfl,z,_,ch,rfl,rfl,cf hz,qq hch,rfl,_,rfl,?_⟩;rw [wM,iY];have sl:=qB z h1;have sll:=oN z h1;refine bi (λc3=>?A) (λc3=>?B)
 case' A =>
  refine ⟨_,rfl,_,rfl,_,rfl,_,rfl,z,rfl,cf hz,_,rfl,λl hl=>?_⟩;refine uQ (z:=Txt.slice z (some 1) (some (-1))) (λi ys σ H'=>ys=bls (((Txt.slice z (some 1) (some (-1))).cps.toList.take i).map okC)/\Same H H'/\H' l=some (.lst ys)/\σ.length=1) ⟨rfl,ag hl _,aa,rfl⟩ ?_ ?_
  ·rintro i c ys σ H1 N hc ⟨rfl,g1,f1,hσ⟩ next;have hc':(Txt.slice z (some 1) (some (-1))).cps.toList[i]?=some c:=by rw [aB1];exact hc
   have hi:=(aAj.mp hc').1
   match σ,hσ with
   | [_],_ =>
    refine ⟨_,rfl,c,rfl,f1,?_,next _ _ _ ⟨?_,bR hl g1,aa,rfl⟩⟩
    ·simp only [bls,aAa,aAF];rw [am] at hi ⊢;have:=cf hz;lia
    ·show bls _++[V.bl (okC c)]=bls _;unfold bls;rw [aAQ,aAQ];exact nv (V.bl ∘ okC) hc'
  rintro ys σ H1 ⟨rfl,g1,f1,hσ⟩;rw [aAx (by simp)] at f1;refine ⟨l,_,rfl,rfl,SqL.of f1,_,rfl,?_⟩;rw [aBN,show (id ∘ okC)=okC from rfl,sl];refine bi (λc4=>?_) (λc4=>?_)
  ·have e:mkW z.cps.toList=some (mk2 "text" (.str (Txt.slice z (some 1) (some (-1))))):=by
    rw [m0,if_pos ⟨by rw [hh,of_decide_eq_true c3],c4⟩,<- sl,gW]
   obtain ⟨l,a1,a2,a3⟩:=tup e g1 .str;exact ⟨_,rfl,_,rfl,_,rfl,_,rfl,z,rfl,cf hz,l,a1,a2,a3⟩
  have nq:¬ (z.cps.toList.head?=some 34/\((z.cps.toList.drop 1).dropLast).all okC=true):=λh=>c4 h.2
 case' B =>
  have g1:=Same.refl H;have nq:¬ (z.cps.toList.head?=some 34/\((z.cps.toList.drop 1).dropLast).all okC=true):=λh=>c3 (decide_eq_true (Option.some.inj (hh.symm.trans h.1)))
 all_goals
  rw [if_neg nq] at m0;refine ⟨_,rfl,z,_,ch,rfl,rfl,cf hz,qq hch,_,_,rfl,rfl,_,rfl,?_⟩;rw [PySem.StrLaws.found_one];have lw:(∃ c,z.cps.toList.head?=some c/\aR letS c=true)↔aR letS ch=true:=⟨λ⟨c,e1,e2⟩=>by rw [hh] at e1;cases e1;exact e2,λe=>⟨ch,hh,e⟩⟩;refine bi (λc5=>?_) (λc5=>?_);refine ⟨_,rfl,z,rfl,cf hz,_,_,rfl,rfl,_,rfl,bi (λc6=>?_) (λc6=>?_)⟩
  ·have e:mkW z.cps.toList=some (mk2 "word" (.str z)):=by
    rw [m0,if_pos ⟨lw.mpr c5,by rw [am];have:=of_decide_eq_true c6;lia⟩,gW]
   obtain ⟨l,a1,a2,a3⟩:=tup e g1 .str;exact ⟨_,rfl,l,a1,a2,a3⟩
  have nw:¬ ((∃ c,z.cps.toList.head?=some c/\aR letS c=true)/\z.cps.toList.length<=8):=λh=>c6 (decide_eq_true (by have:=h.2;rw [am] at this;lia))
  rotate_left
  have nw:¬ ((∃ c,z.cps.toList.head?=some c/\aR letS c=true)/\z.cps.toList.length<=8):=λh=>c5 (lw.mp h.1)
  all_goals
   rw [if_neg nw] at m0;refine ⟨_,rfl,rfl,z,_,rfl,rfl,cf hz,_,rfl,?_,_,_,rfl,rfl,_,rfl,?_⟩
   ·rw [wN,lQ];have:=(List.dropWhile_sublist (l:=z.cps.toList) (λc:Nat=>c == 45)).length_le;rw [am] at this;exact cf (3)
   rw [wN,lQ];refine bi (λc7=>?_) (λc7=>?_)
   ·have c7':(z.cps.toList.dropWhile (· == 45)).length<=60:=by have:=of_decide_eq_true c7;lia
    rw [if_pos c7'] at m0;refine ⟨_,rfl,z,rfl,(3),λH2 g2=>?_⟩
    cases hn:dR z.cps.toList with
    | none =>
     rw [hn] at m0;exact ⟨_,rfl,rfl,_,rfl,bS ⟨sz1,q2 m0 H2 (g1.trans g2)⟩⟩
    | some n =>
     rw [hn] at m0;obtain ⟨l,a1,a2,a3⟩:=tup m0 (g1.trans g2) .int;exact ⟨_,rfl,rfl,_,rfl,bt (λc=>by cases c) ⟨_,rfl,l,a1,a2,a3⟩⟩
   ·rw [if_neg (λh=>c7 (decide_eq_true (3)))] at m0;exact ⟨_,rfl,rfl,_,rfl,bS ⟨sz1,q2 m0 _ g1⟩⟩
def upB (L:Str):Dt->Bool
 | .tup [.str w,.str s]=>decide (w= "mark") && !(Builtin.Str.occurrences L s 0 L.length 1).isEmpty
 | _=>false
def gr (p:Int×Int) (d:Dt):Int×Int :=
 (if p.2+(if upB "([{" d=true then 1 else 0) - (if upB ")]}" d=true then 1 else 0) > p.1 then p.2+(if upB "([{" d=true then 1 else 0) - (if upB ")]}" d=true then 1 else 0) else p.1,
  p.2+(if upB "([{" d=true then 1 else 0) - (if upB ")]}" d=true then 1 else 0))
def ic (toks:List Dt):Int:=(toks.foldl gr (0,0)).1
def uZ (d:Dt):Prop:=∃ w x,d=mk2 w x/\((∃ s,x=.str s)\/(w≠ "mark" /\∃ n,x=.int n))
theorem tN {cs:List Nat} {d:Dt} (h:mkW cs=some d):uZ d:=by
 unfold mkW at h
 split at h
 ·cases h;exact ⟨_,_,rfl,.inl ⟨_,rfl⟩⟩
 split at h
 ·cases h;exact ⟨_,_,rfl,.inl ⟨_,rfl⟩⟩
 split at h
 ·cases h;exact ⟨_,_,rfl,.inl ⟨_,rfl⟩⟩
 split at h
 ·obtain ⟨n,_,rfl⟩:=aAi.mp h;exact ⟨_,_,rfl,.inr ⟨by decide,n,rfl⟩⟩
 ·cases h
theorem dS {K:W.Frag} {H:Hp} {a b:Dt} {v:V} (h:IsP K H (.tup [a,b]) v):∃ p x y,v=.ref p/\SqT K H p [x,y]/\IsP K H a x/\IsP K H b y:=by
 obtain ⟨p,xs,rfl,hp,_,r⟩:=h.unref
 cases r with
 | cons h1 r =>
  cases r with
  | cons h2 r =>
   cases r
   exact ⟨p,_,_,rfl,hp,h1,h2⟩
def hZ (K:W.Frag) (_:Ads):Sp:=λvs H Q _=>∃ (l:Addr) (ws:List V) (toks:List Dt),vs=[.ref l]/\H l=some (.lst ws)/\IsPs K H toks ws/\(∀ d∈toks,uZ d)/\Q (.int (ic toks)) H
theorem h7 (T:Tx K mg ad) {f:Addr} {fd:FuncData} (F:Gn K mg "deepest_brackets" cr ["words"] f fd):FnOk P w K mg base CX0 1 f fd ["words"] (hZ K ad):=by
 obtain ⟨t_OPENING,c_OPENING⟩:=T.OPENING;obtain ⟨t_CLOSING,c_CLOSING⟩:=T.CLOSING;refine F.F.ok aE (λvs H Q E h=>?_) (λcdv A outer s H vs Q E hr h=>?_)
 ·obtain ⟨l,ws,toks,rfl,_⟩:=h
  rfl
 obtain ⟨l,ws,toks,rfl,hl,hp,ht,q⟩:=h;refine ⟨_,(@pss_cons _ _ _ _ _ (20,aE.nd,pe_int) (@pss_cons _ _ _ _ _ (23,aE.nd,pe_int) (@pss_cons _ _ _ _ _ (ps_for PassesOwn.never rfl (gi (K:=K) rfl (pv 0)) (jx rfl (aJ (aj (i:=3) aE.nd rfl (Or.inl rfl)) (aJ (aj (i:=4) aE.nd rfl (Or.inl rfl)) dD)))
    (6,(11,PW.pt (@pw_and _ _ _ _ _ _ _ (pt_cmpR op_eq (pv 3) pe_str (nomark _)) (@pw_and1 _ _ _ _ (pt_cmpR op_in_str (pv 4) (bF rfl c_OPENING) rfl))),(5,rg (i:=2) aE.nd rfl (Or.inl rfl) pe_int ip_add)),(6,(11,PW.pt (@pw_and _ _ _ _ _ _ _ (pt_cmpR op_eq (pv 3) pe_str (nomark _)) (@pw_and1 _ _ _ _ (pt_cmpR op_in_str (pv 4) (bF rfl c_CLOSING) rfl))),(5,rg (i:=2) aE.nd rfl (Or.inl rfl) pe_int BB)),(5,(20,aE.nd,pe_callB (mY rfl) rfl T.z_max boot_max (12,pv 1,pv 2)))))) (5,(8,pv 1))))),?_⟩
 refine ⟨_,rfl,l,rfl,⟨_,SqL.of hl⟩,kX (K:=K) (xs:=ws) (λi σ H'=>H'=H/\∃ v3 v4,σ=[some (.ref l),some (.int ((toks.take i).foldl gr (0,0)).1),some (.int ((toks.take i).foldl gr (0,0)).2),v3,v4]) ⟨rfl,_,_,rfl⟩ (λi σ H' _ p=>p.1 ▸ SqL.of hl) ?_ ?_⟩
 ·rintro i x σ H' hx ⟨rfl,v3,v4,rfl⟩;obtain ⟨d,hd,hdx⟩:=hp.get' hx;obtain ⟨w,y,rfl,hy⟩:=ht d (aAs hd);obtain ⟨b,x1,y2,rfl,hb,h1,h2⟩:=dS hdx;obtain rfl:=bC h1;have tk:toks.take (i+1)=toks.take i++[mk2 w y]:=by rw [aAC,hd];rfl
  rw [tk,aBh]
  generalize (toks.take i).foldl gr (0,0)=p
  refine ⟨b,_,rfl,hb,rfl,_,_,rfl,_,_,rfl,rfl,?_⟩
  by_cases hw:w= "mark"
  ·subst hw;obtain ⟨s0,rfl⟩:∃ s0,y=.str s0:=by
    rcases hy with h | ⟨h,_⟩
    ·exact h
    ·exact absurd rfl h
   obtain rfl:=bC h2;have u1:upB "([{" (mk2 "mark" (.str s0))=!(Builtin.Str.occurrences "([{" s0 0 (Str.ofString "([{").length 1).isEmpty:=by simp [upB,mk2]
   have u2:upB ")]}" (mk2 "mark" (.str s0))=!(Builtin.Str.occurrences ")]}" s0 0 (Str.ofString ")]}").length 1).isEmpty:=by simp [upB,mk2]
   refine ⟨_,rfl,rfl,_,rfl,bS ⟨_,rfl,_,_,rfl,rfl,_,rfl,?_⟩⟩;rw [<- u1]
   cases e1:upB "([{" (mk2 "mark" (.str s0)) with
   | true =>
    refine df ⟨_,rfl,_,_,rfl,rfl,_,rfl,rfl,_,rfl,bS ⟨_,rfl,_,_,rfl,rfl,_,rfl,?_⟩⟩;rw [<- u2]
    cases e2:upB ")]}" (mk2 "mark" (.str s0)) with
    | true=>exact df ⟨_,rfl,_,_,rfl,rfl,_,rfl,_,rfl,_,_,rfl,rfl,some (.str "mark"),some (.str s0),by simp [gr,e1,e2]⟩
    | false=>exact ce ⟨_,rfl,_,rfl,_,_,rfl,rfl,some (.str "mark"),some (.str s0),by simp [gr,e1,e2]⟩
   | false =>
    refine ce ⟨_,rfl,rfl,_,rfl,bS ⟨_,rfl,_,_,rfl,rfl,_,rfl,?_⟩⟩;rw [<- u2]
    cases e2:upB ")]}" (mk2 "mark" (.str s0)) with
    | true=>exact df ⟨_,rfl,_,_,rfl,rfl,_,rfl,_,rfl,_,_,rfl,rfl,some (.str "mark"),some (.str s0),by simp [gr,e1,e2]⟩
    | false=>exact ce ⟨_,rfl,_,rfl,_,_,rfl,rfl,some (.str "mark"),some (.str s0),by simp [gr,e1,e2]⟩
  ·have u:∀ L,upB L (mk2 w y)=false:=λL=>by
    cases y <;> simp [upB,mk2,hw]
   refine ⟨_,rfl,rfl,_,rfl,bt (aM hw) (ce ⟨_,rfl,rfl,_,rfl,bt (aM hw) (ce ⟨_,rfl,_,rfl,_,_,rfl,rfl,some (.str w),some y2,by simp [gr,u]⟩)⟩)⟩
 ·rintro σ H' ⟨rfl,v3,v4,rfl⟩;rw [aAx (by rw [hp.length];exact aAo _)];exact ⟨_,rfl,q⟩
def kA:Nat->List Nat->Option (List Dt)
 | 0,_=>some []
 | _+1,[]=>some []
 | n+1,c :: r=>match dE (c :: r) with
  | none=>none
  | some k=>if c=32 then kA n ((c :: r).drop k) else match mkW ((c :: r).take k) with
   | none=>none
   | some w=>(kA n ((c :: r).drop k)).map (w :: ·)
theorem gu {cs:List Nat} {k:Nat} (h:dE cs=some k):1<=k/\k<=cs.length:=by
 cases cs with
 | nil=>cases h
 | cons c r =>
  simp only [dE] at h
  split at h
  ·obtain ⟨i,hi,rfl⟩:=aAi.mp h;have:=(List.findIdx?_eq_some_iff_getElem.mp hi).1;simp only [aAb];lia
  split at h
  ·rename_i hc
   cases h
   refine ⟨?_,oH _ _⟩;unfold cj;rw [aA0,if_pos hc];simp
  split at h
  ·cases h
   have:=oH figS r;simp only [aAb];lia
  ·cases h
   simp
theorem u0:∀ (n m:Nat) (cs:List Nat),cs.length<=n->cs.length<=m->kA n cs=kA m cs:=by
 intro n
 induction n with
 | zero =>
  intro m cs h _;obtain rfl:=aAY.mp (Nat.le_zero.mp h)
  cases m <;> rfl
 | succ n ih =>
  intro m cs h1 h2
  cases cs with
  | nil=>cases m <;> rfl
  | cons c r =>
   cases m with
   | zero=>simp at h2
   | succ m =>
    simp only [kA]
    cases hk:dE (c :: r) with
    | none=>rfl
    | some k =>
     obtain ⟨k1,k2⟩:=gu hk;have l1:((c :: r).drop k).length<=n:=by rw [aAK];lia
     have l2:((c :: r).drop k).length<=m:=by rw [aAK];lia
     have e:=ih m ((c :: r).drop k) l1 l2;simp only [e]
def fC (cs:List Nat):Option (List Dt):=kA cs.length cs
theorem lR {c:Nat} {r:List Nat}:fC (c :: r)=match dE (c :: r) with
  | none=>none
  | some k=>if c=32 then fC ((c :: r).drop k) else match mkW ((c :: r).take k) with
   | none=>none
   | some w=>(fC ((c :: r).drop k)).map (w :: ·):=by
 unfold fC;show kA (r.length+1) (c :: r)=_;simp only [kA]
 cases hk:dE (c :: r) with
 | none=>rfl
 | some k =>
  obtain ⟨k1,k2⟩:=gu hk;have e:=u0 r.length ((c :: r).drop k).length ((c :: r).drop k) (by rw [aAK];simp only [aAb];lia) (aAo _);simp only [e]
theorem Ci {c:Nat} (h:aR figS c=true):c≠45:=by
 intro e;subst e
 revert h
 decide +kernel
theorem qC {L:Str}:∀ (cs:List Nat),cs.take (cj L cs)=cs.takeWhile (aR L)
 | []=>rfl
 | c :: cs=>by
  unfold cj;rw [aA0]
  split
  ·have:=qC (L:=L) cs;unfold cj at this;rw [aAb,List.take_succ_cons,this]
  ·rfl
theorem wS {p:Nat->Bool}:∀ {l:List Nat} {x:Nat},x∈l.takeWhile p->p x=true
 | [],x,h=>by simp at h
 | c :: l,x,h=>by
  rw [aA0] at h
  split at h
  ·rename_i hc
   rcases aAn.mp h with rfl | h
   ·exact hc
   ·exact wS h
  ·simp at h
theorem sx {cs:List Nat} {k:Nat} (h:dE cs=some k):(cs.take k).length<=((cs.take k).dropWhile (· == 45)).length+1:=by
 obtain ⟨k1,k2⟩:=gu h
 cases cs with
 | nil=>cases h
 | cons c r =>
  obtain ⟨k,rfl⟩:∃ j,k=j+1:=⟨k - 1,(3)⟩;rw [List.take_succ_cons]
  by_cases hc:c=45
  ·subst hc;have e:r.take k=(r.takeWhile (aR figS))\/k=0:=by
    simp only [dE] at h;rw [if_neg (by decide),if_neg (4),if_pos (.inl trivial)] at h;have:k=cj figS r:=by injection h;lia
    rw [this,qC];exact .inl rfl
   rw [aBk,if_pos (1)];rcases e with e | e
   ·rw [e];have e2:(r.takeWhile (aR figS)).dropWhile (· == 45)=r.takeWhile (aR figS):=by
     cases hr:r.takeWhile (aR figS) with
     | nil=>rfl
     | cons d t =>
      have hd:aR figS d=true:=wS (l:=r) (by rw [hr];exact aAh);rw [aBk,if_neg (by simpa using Ci hd)]
    rw [e2,aAb];exact aAo _
   ·subst e;simp
  ·rw [aBk,if_neg (by simpa using hc)];lia
theorem u3 {z:Str} {a k:Nat} (h:a+k<=z.length):Txt.slice z (some (a:Int)) (some ((a+k:Nat):Int))=cG ((z.cps.toList.drop a).take k):=by
 rw [eq_of_beq (slice_closesL (x:=z) (i:=(a:Int)) (j:=((a+k:Nat):Int)) (3) (3) (3))];unfold cG;rw [aBf,show (((a+k:Nat):Int) - (a:Int)).toNat=k by lia]
def qD (K:W.Frag) (ad:Ads):Sp:=λvs H Q E=>∃ z:Str,vs=[.str z]/\z.length<=100000 /\
 (∀ toks,fC z.cps.toList=some toks->ic toks<=40->∀ l ws H',H l=none->Same H H'->H' l=some (.lst ws)->IsPs K H' toks ws->Q (.ref l) H') /\
 ((∀ toks,fC z.cps.toList=some toks->¬ ic toks<=40)->∀ H',Same H H'->E (.ref ad.BadText) none H')
theorem qE (T:Tx K mg ad) {f:Addr} {fd:FuncData} (F:Gn K mg "words_of" iD ["text"] f fd):FnOk P w K mg base (CXE P w) 3 f fd ["text"] (qD K ad):=by
 obtain ⟨_,_,KJ⟩:=T.word_end;have LE:=qy (P:=P) (w:=w) (base:=base) T KJ;obtain ⟨_,_,KD⟩:=T.made_word;have LA:=oO (P:=P) (w:=w) (base:=base) T KD;obtain ⟨_,_,KF⟩:=T.deepest_brackets;have K2:=h7 (P:=P) (w:=w) (base:=base) T KF;obtain ⟨t_BLANK,c_BLANK⟩:=T.BLANK;obtain ⟨t_MOST_BRACKETS,c_MOST_BRACKETS⟩:=T.MOST_BRACKETS;refine F.F.okW de (λvs H Q E h=>?_) (λcdv A outer s H vs Q E hr h=>?_)
 ·obtain ⟨z,rfl,_⟩:=h
  rfl
 obtain ⟨z,rfl,hz,q1,q2⟩:=h;refine ⟨_,(@pss_cons _ _ _ _ _ (20,de.nd,@pe_lst _ _ _ _ pa_nil) (@pss_cons _ _ _ _ _ (23,de.nd,pe_int) (@pss_cons _ _ _ _ _ (qh λok=>iJ (gf ok.frames rfl ok.frf) (pt_cmpR fQ (pv 2) (pe_callB cy rfl T.z_len PySem.boot_len (@pa1 _ _ _ (pv 0) (1))) (nomark _))
    (6,(21,3,de.nd,(22,LE,KJ.m,KJ.F.kp,KJ.b,@pa2 _ _ _ _ _ (pv 0) (pv 2) (1) (1))),(6,(11,pt_cmpR op_ne (@pe_ix _ _ _ _ _ _ _ ix_str (pv 0) (pv 2) (λ_ _=>rfl)) (bF rfl c_BLANK) (nomark _),(5,@ps_expr _ _ _ _ (pe_bm PySem.F.plainAttrs_list PySem.F.slot_list_append PySem.F.type_list_append bL (pv 1) (9,(22,LA,KD.m,KD.F.kp,KD.b,(9,pe_slice sl_str (pv 0) (po_some (pv 2)) (po_some (pv 3)))))) (1))),(5,(23,de.nd,pv 3))))) (6,(11,pt_cmpR mW (10,KF,K2,(9,pv 1)) (kN rfl c_MOST_BRACKETS) (nomark _),(5,ps_raiseW rfl rfl rfl rfl T.x_BadText rfl (@pa1 _ _ _ pe_str (1)))),(5,(8,pv 1)))))),?_⟩
 refine ⟨(by show 0<=sizeLine;decide),λl hl=>?_⟩;refine ⟨λm σ H'=>∃ (a:Nat) (toks:List Dt) (ws:List V) (v3:Option V),a<=z.length/\m=z.length - a/\Same H H'/\H' l=some (.lst ws)/\IsPs K H' toks ws/\toks.length<=a/\(∀ d∈toks,uZ d)/\(fC (z.cps.toList.drop a)).map (toks++·)=fC z.cps.toList/\σ=[some (.str z),some (.ref l),some (.int a),v3],
  ⟨_,0,[],[],none,aAE _,rfl,ag hl _,aa,.nil,aAo _,(λd hd=>nomatch hd),(by simp),rfl⟩,?_⟩
 rintro m σ H1 ⟨a,toks,ws,v3,ha,rfl,g1,f1,hp,ht,hT,hL,rfl⟩;refine ⟨_,rfl,_,rfl,z,rfl,cf hz,_,_,rfl,rfl,_,rfl,bi (λc=>?_) (λc=>?_)⟩
 ·have hlt:a < z.length:=by have:=of_decide_eq_true c;lia
  obtain ⟨ch,hch⟩:∃ ch,z.cps.toList[a]?=some ch:=⟨_,aAv (by rw [am];exact hlt)⟩;have hd:z.cps.toList.drop a=ch :: z.cps.toList.drop (a+1):=by
   obtain ⟨h1,h2⟩:=aAj.mp hch;rw [aA7 h1,h2]
  have hs:=lR (c:=ch) (r:=z.cps.toList.drop (a+1));rw [<- hd] at hs;refine ⟨λσ' H'=>∃ (a':Nat) (toks:List Dt) (ws:List V) (v3:Option V),a < a'/\a'<=z.length/\Same H H'/\H' l=some (.lst ws)/\IsPs K H' toks ws/\toks.length<=a'/\(∀ d∈toks,uZ d)/\(fC (z.cps.toList.drop a')).map (toks++·)=fC z.cps.toList/\σ'=[some (.str z),some (.ref l),some (.int a'),v3],
   λσ' H' ⟨a',toks',ws',v',h1,h2,r⟩=>⟨z.length - a',(3),a',toks',ws',v',h2,rfl,r⟩,?_⟩
  cases hk:dE (z.cps.toList.drop a) with
  | none =>
   rw [hk] at hs;refine ⟨_,rfl,_,rfl,z,a,rfl,hlt,hz,(λk e=>by rw [hk] at e;cases e),λ_ H2 g2=>q2 (λt h=>?_) H2 (g1.trans g2)⟩;rw [<- hL,hs] at h
   cases h
  | some k =>
   rw [hk] at hs;obtain ⟨k1,k2⟩:=gu hk;rw [aAK,am] at k2;refine ⟨_,rfl,_,rfl,z,a,rfl,hlt,hz,(λk' e=>?_),λe=>by rw [hk] at e;cases e⟩;rw [hk] at e
   cases e
   refine ⟨_,rfl,_,rfl,z,_,ch,rfl,rfl,cf hz,qq hch,rfl,_,rfl,?_⟩;rw [yX,iY];dsimp only at hs;rw [List.drop_drop] at hs
   by_cases h32:ch=32
   ·rw [if_pos h32] at hs;rw [decide_eq_true h32];refine ce ⟨_,rfl,a+k,toks,ws,_,(3),(3),g1,f1,hp,(3),hT,?_,rfl⟩;rw [<- hs];exact hL
   ·rw [if_neg h32] at hs;rw [decide_eq_false h32];have es:=u3 (z:=z) (a:=a) (k:=k) (3);have ec:(cG ((z.cps.toList.drop a).take k)).cps.toList=(z.cps.toList.drop a).take k:=rfl;have el:(cG ((z.cps.toList.drop a).take k)).length=k:=by
     rw [<- am,ec,aAF,aAK,am];lia
    refine df ⟨_,rfl,.inl ⟨rfl,_,SqL.of f1⟩,_,rfl,_,rfl,_,rfl,_,rfl,_,rfl,z,rfl,cf hz,?_⟩;rw [es];refine ⟨_,rfl,(3),(3),(by
     have:=sx hk;rw [<- ec] at this;rw [am] at this;exact this),λd e v H2 g2 hv=>?_,λe H2 g2=>q2 (λt h=>?_) H2 (g1.trans g2)⟩
    ·rw [ec] at e;rw [e] at hs;dsimp only at hs;have lw:=hp.length;refine ⟨l,ws,_,rfl,rfl,g2 _ _ f1,aAk (show ws.length < 100000 by lia) (by decide),?_⟩;refine ⟨_,rfl,a+k,toks++[d],ws++[v],_,(3),(3),?_,aa,?_,by rw [aAc];simp only [aAb,aAl];lia,λd' hd'=>?_,?_,rfl⟩
     ·intro b o eb;rw [ac (ah eb hl)];exact g2 _ _ (g1 _ _ eb)
     ·exact ((hp.same g2).but (g2 _ _ f1) But.put).append (.cons (hv.but (g2 _ _ f1) But.put) .nil)
     ·rcases aAG.mp hd' with h | h
      ·exact hT d' h
      ·obtain rfl:=aAp.mp h;exact tN e
     ·rw [<- hL,hs,Option.map_map]
      congr 1
      funext x
      simp
    ·rw [ec] at e;rw [<- hL,hs,e] at h
     cases h
 ·have e:a=z.length:=by
   have c':¬ ((a:Int) < (z.length:Int)):=λh=>c (decide_eq_true h);lia
  have hN:fC z.cps.toList=some toks:=by
   rw [<- hL,aA6 (by rw [am];lia)];show some (toks++[])=_;rw [aAJ]
  refine ⟨_,rfl,l,ws,toks,rfl,f1,hp,hT,_,_,rfl,rfl,_,rfl,bi (λc2=>?_) (λc2=>?_)⟩
  ·refine ⟨sz1,q2 (λt h=>?_) _ g1⟩;rw [hN] at h
   cases h
   have:=of_decide_eq_true c2;lia
  ·refine ⟨_,rfl,q1 toks hN ?_ l ws _ hl g1 f1 hp⟩;have c':¬ (40 < ic toks):=λh=>c2 (decide_eq_true h);lia
abbrev Tk:=Str×Key
def tkD (t:Tk):Dt:=mk2 t.1 (kDt t.2)
def toTk:Dt->Tk
 | .tup [.str w,.str s]=>(w,.inr s)
 | .tup [.str w,.int n]=>(w,.inl n)
 | _=>("",.inl 0)
theorem qF:∀ {toks:List Dt},(∀ d∈toks,uZ d)->(toks.map toTk).map tkD=toks
 | [],_=>rfl
 | d :: toks,h=>by
  have:=qF (toks:=toks) λd hd=>h d (aAf _ hd);rw [aAq,aAq,this];obtain ⟨w,x,rfl,hx⟩:=h d aAh;rcases hx with ⟨s,rfl⟩ | ⟨_,n,rfl⟩ <;> rfl
abbrev mI:Tk:=(("end" : Str),.inr "")
abbrev aN (m:Str):Tk:=(("mark" : Str),.inr m)
def ak (ts:List Tk) (p:Nat):Tk:=ts[p]?.getD mI
abbrev mJ (l:Addr) (p:Nat):List (Str×V):=[("all_words",.ref l),("place",.int p)]
theorem yY:¬ (("all_words" : Str)= "place"):=(4)
theorem qG (l:Addr) (p:Nat) (y:Int):fm "place" (.int y) (mJ l p)=([("all_words",V.ref l),("place",V.int y)]:List (Str×V)):=by
 show (if ("all_words" : Str)= "place" then _ else (("all_words" : Str),V.ref l) :: (if ("place" : Str)= "place" then [(("place" : Str),V.int y)] else _))=_;rw [if_neg yY,if_pos rfl]
theorem lS (l:Addr) (p:Nat):(mJ l p).lookup ("all_words" : Str)=some (.ref l):=by
 rw [aAO];simp
theorem iw (l:Addr) (p:Nat):(mJ l p).lookup ("place" : Str)=some (.int p):=by
 have:(("place" : Str) == "all_words")=false:=(4)
 rw [aAO,this,aAO];simp
theorem aw (l:Addr) (p:Nat) {m:Str} (h1:(m == "all_words")=false) (h2:(m == "place")=false):(mJ l p).lookup m=none:=by
 rw [aAO,h1,aAO,h2]
 rfl
def RowAt (K:W.Frag) (C:Addr) (H:Hp) (x l:Addr) (ts:List Tk) (p:Nat):Prop:=∃ dx ws,H x=some (.ins C dx (mJ l p))/\H l=some (.lst ws)/\IsPs K H (ts.map tkD) ws/\l≠x/\ts.length<=100000/\∀ t∈ts,t.1= "word" ->∃ s,t.2=Sum.inr s
theorem RowAt.same {K:W.Frag} {C:Addr} {H H':Hp} {x l:Addr} {ts:List Tk} {p:Nat} (h:RowAt K C H x l ts p) (g:Same H H'):RowAt K C H' x l ts p:=by
 obtain ⟨dx,ws,h1,h2,h3,h4⟩:=h;exact ⟨dx,ws,g _ _ h1,g _ _ h2,h3.same g,h4⟩
def kB (K:W.Frag) (ad:Ads):Sp:=λvs H Q E=>∃ (x dx:Addr) (z:Str),vs=[.ref x,.str z]/\H x=some (.ins ad.WordRow dx [])/\z.length<=100000 /\
 (∀ toks,fC z.cps.toList=some toks->ic toks<=40->∀ l H',H l=none->But x H H'->RowAt K ad.WordRow H' x l (toks.map toTk) 0->Q .non H') /\
 ((∀ toks,fC z.cps.toList=some toks->¬ ic toks<=40)->∀ H',Same H H'->E (.ref ad.BadText) none H')
theorem yn:∀ (n:Nat) (cs:List Nat) (toks:List Dt),kA n cs=some toks->(∀ d∈toks,uZ d)/\toks.length<=cs.length:=by
 intro n
 induction n with
 | zero=>intro cs toks h;cases h;exact ⟨λd hd=>(by simp at hd),aAE _⟩
 | succ n ih =>
  intro cs toks h
  cases cs with
  | nil=>cases h;exact ⟨λd hd=>(by simp at hd),aAE _⟩
  | cons c r =>
   simp only [kA] at h
   cases hk:dE (c :: r) with
   | none=>rw [hk] at h;cases h
   | some k =>
    rw [hk] at h;obtain ⟨k1,k2⟩:=gu hk;have ld:((c :: r).drop k).length=(c :: r).length - k:=aAK;dsimp only at h
    split at h
    ·obtain ⟨a,b⟩:=ih _ _ h;exact ⟨a,(3)⟩
    ·cases hm:mkW ((c :: r).take k) with
     | none=>rw [hm] at h;cases h
     | some w =>
      rw [hm] at h;obtain ⟨t,ht,rfl⟩:=aAi.mp h;obtain ⟨a,b⟩:=ih _ _ ht;refine ⟨λd hd=>?_,by rw [aAb];lia⟩;rcases aAn.mp hd with rfl | hd
      ·exact tN hm
      ·exact a d hd
theorem wT {cs:List Nat} {d:Dt} (h:mkW cs=some d) (hw:(toTk d).1= "word"):∃ s,(toTk d).2=Sum.inr s:=by
 unfold mkW at h
 split at h
 ·cases h;exact ⟨_,rfl⟩
 split at h
 ·cases h;exact ⟨_,rfl⟩
 split at h
 ·cases h;exact ⟨_,rfl⟩
 split at h
 ·obtain ⟨n,_,rfl⟩:=aAi.mp h;exact absurd (show (Str.ofString "number")=Str.ofString "word" from hw) (4)
 ·cases h
theorem u4:∀ (n:Nat) (cs:List Nat) (toks:List Dt),kA n cs=some toks->∀ d∈toks,(toTk d).1= "word" ->∃ s,(toTk d).2=Sum.inr s:=by
 intro n
 induction n with
 | zero=>intro cs toks h;cases h;exact λd hd=>(by simp at hd)
 | succ n ih =>
  intro cs toks h
  cases cs with
  | nil=>cases h;exact λd hd=>(by simp at hd)
  | cons c r =>
   simp only [kA] at h
   cases hk:dE (c :: r) with
   | none=>rw [hk] at h;cases h
   | some k =>
    rw [hk] at h;dsimp only at h
    split at h
    ·exact ih _ _ h
    ·cases hm:mkW ((c :: r).take k) with
     | none=>rw [hm] at h;cases h
     | some w =>
      rw [hm] at h;obtain ⟨t,ht,rfl⟩:=aAi.mp h;intro d hd hw;rcases aAn.mp hd with rfl | hd
      ·exact wT hm hw
      ·exact ih _ _ ht d hd hw
theorem kC (T:Tx K mg ad) {f:Addr} {fd:FuncData} (F:Mi K ad.WordRow "__init__" "WordRow.__init__" eA ["self","text"] f fd):FnOk P w K mg base (CXE P w) 4 f fd ["self","text"] (kB K ad):=by
 obtain ⟨_,_,KI⟩:=T.words_of;have LF:=qE (P:=P) (w:=w) (base:=base) T KI;refine F.F.okW kI (λvs H Q E h=>?_) (λcdv A outer s H vs Q E hr h=>?_)
 ·obtain ⟨x,dx,z,rfl,_⟩:=h
  rfl
 obtain ⟨x,dx,z,rfl,hx,hz,q1,q2⟩:=h;refine ⟨_,(6,vD (pv 0) (22,LF,KI.m,KI.F.kp,KI.b,(9,pv 1)) rfl,(5,vD (pv 0) pe_int rfl)),?_⟩;refine ⟨_,rfl,z,rfl,hz,λtoks hL hB l ws H1 hl g1 f1 hp=>?_,λh H1 g1=>q2 h H1 g1⟩;have hlx:l≠x:=λc=>by subst c;rw [hx] at hl;cases hl
 refine ⟨_,rfl,x,ad.WordRow,dx,[],rfl,g1 _ _ hx,T.c_WordRow,T.n_WordRow_all_words,(by show 0 < 1000;decide),_,rfl,x,ad.WordRow,dx,_,rfl,aa,T.c_WordRow,T.n_WordRow_place,(by show 1 < 1000;decide),?_⟩;obtain ⟨t1,t2⟩:=yn _ _ _ hL;refine q1 toks hL hB l _ hl (λb o nb eb=>by rw [ac nb,ac nb];exact g1 _ _ eb) ⟨dx,ws,?_,?_,?_,hlx,by rw [aAa];rw [am] at t2;lia,λt ht hw=>?_⟩
 ·rw [aa];show some (HO.ins _ _ (if ("all_words" : Str)= "place" then _ else (("all_words" : Str),V.ref l) :: fm "place" (V.int 0) []))=_;rw [if_neg yY]
  rfl
 ·rw [ac hlx,ac hlx];exact f1
 ·rw [qF t1];exact bq (p:=x) (by rw [g1 _ _ hx];exact True.intro) (λb o nb eb=>by rw [ac nb,ac nb];exact eb) hp
 ·obtain ⟨d,hd,rfl⟩:=aAm.mp ht;exact u4 _ _ _ hL d hd hw
def iZ (K:W.Frag) (ad:Ads):Sp:=λvs H Q _=>∃ (x l:Addr) (ts:List Tk) (p k:Nat),vs=[.ref x,.int k]/\RowAt K ad.WordRow H x l ts p/\∀ v,IsD K H (tkD (ak ts (p+k))) v->Q v H
theorem bu (T:Tx K mg ad) {f:Addr} {fd:FuncData} (F:Mn K ad.WordRow "coming" "WordRow.coming" cN ["self","ahead"] f fd):FnOk P w K mg base CX0 1 f fd ["self","ahead"] (iZ K ad):=by
 obtain ⟨c_END,s_END⟩:=T.END;refine F.F.ok eJ (λvs H Q E h=>?_) (λcdv A outer s H vs Q E hr h=>?_)
 ·obtain ⟨x,l,ts,p,k,rfl,_⟩:=h
  rfl
 obtain ⟨x,l,ts,p,k,rfl,⟨dx,ws,hx,hl,hp,hlx,h5⟩,q⟩:=h;refine ⟨_,(6,(23,eJ.nd,(15,aZ,rn (pv 0) rfl,pv 1)),(5,(8,kW (pt_cmpR fQ (pv 2) (pe_callB (bA (K:=K) rfl) rfl T.z_len PySem.boot_len (9,rn (pv 0) rfl)) (nomark _)) (@pe_ix _ _ _ _ _ _ _ (aG (K:=K) rfl) (rn (pv 0) rfl) (pv 2) (λ_ _=>rfl)) (iQ rfl c_END)))),?_⟩;have lw:=hp.length;rw [aAa] at lw;refine ⟨_,rfl,x,ad.WordRow,dx,_,_,rfl,hx,T.c_WordRow,T.n_WordRow_place,iw l p,_,rfl,_,_,rfl,rfl,?_⟩;refine ⟨_,rfl,_,rfl,x,ad.WordRow,dx,_,_,rfl,hx,T.c_WordRow,T.n_WordRow_all_words,lS l p,l,_,rfl,.inl (SqL.of hl),_,_,rfl,rfl,_,rfl,bi (λc=>?_) (λc=>?_)⟩
 ·have hlt:p+k < ts.length:=by have:=of_decide_eq_true c;lia
  obtain ⟨v,hv,hd⟩:=hp.get (i:=p+k) (d:=tkD ts[p+k]) (by rw [aAg,aAv hlt];rfl);refine ⟨_,rfl,x,ad.WordRow,dx,_,_,rfl,hx,T.c_WordRow,T.n_WordRow_all_words,lS l p,_,rfl,l,_,_,_,rfl,rfl,SqL.of hl,(by rw [<- aBV];exact fq hv),?_⟩;refine q v ?_;unfold ak;rw [aAv hlt];exact hd.d
 ·have hge:ts.length<=p+k:=by
   have c':¬ ((p:Int)+(k:Int) < (ws.length:Int)):=λh=>c (decide_eq_true h);lia
  refine q _ ?_;unfold ak;rw [aBw hge];exact .tup (s_END _ aAh H) (.cons .str (.cons .str .nil))
def jN (K:W.Frag) (ad:Ads):Sp:=λvs H Q _=>∃ (x l:Addr) (ts:List Tk) (p:Nat) (m:Str),vs=[.ref x,.str m]/\RowAt K ad.WordRow H x l ts p/\∀ H',Same H H'->Q (.bl (decide (ak ts p=aN m))) H'
theorem sy (t:Tk) (w:Str) (k:Key):eqD (tkD t) (mk2 w (kDt k))=decide (t=(w,k)):=by
 obtain ⟨w',k'⟩:=t;rw [aA1]
 cases k <;> cases k' <;> simp [tkD,mk2,kDt,eqD,iR]
theorem sA (t:Tk):(tkD t).dep<=60:=by
 obtain ⟨w,k⟩:=t
 cases k <;> simp [tkD,mk2,kDt,Dt.dep,cz]
theorem bV (T:Tx K mg ad) {f:Addr} {fd:FuncData} (F:Mn K ad.WordRow "comes" "WordRow.comes" dq ["self","mark"] f fd):FnOk P w K mg base CX0 2 f fd ["self","mark"] (jN K ad):=by
 obtain ⟨_,_,JF⟩:=T.m_WordRow_coming;have JM:=bu (P:=P) (w:=w) (base:=base) T JF;refine F.F.ok j5 (λvs H Q E h=>?_) (λcdv A outer s H vs Q E hr h=>?_)
 ·obtain ⟨x,l,ts,p,m,rfl,_⟩:=h
  rfl
 obtain ⟨x,l,ts,p,m,rfl,hR,q⟩:=h;refine ⟨_,(5,(8,fj (tq (K:=K) rfl hr.units) (pe_meth (pv 0) T.c_WordRow JF.meth JM (13) JF.b .nil gd (9,pe_int)) (@pe_tupPK _ K _ _ _ _ rfl (12,pe_str,pv 1)) (nomark _))),?_⟩;obtain ⟨dx,ws,hx,_⟩:=id hR;refine ⟨_,rfl,x,dx,_,rfl,hx,aw l p (4) (4),x,l,ts,p,0,rfl,hR,λv hv=>?_⟩;refine ⟨_,rfl,[.str "mark",.str m],.cons .str (.cons .str .nil),sz2,λv2 H1 g1 hv2=>?_⟩;refine ⟨_,_,hv.same g1,hv2.d,sA _,?_⟩;have:=q H1 g1;rw [<- sy] at this;exact this
def kD (K:W.Frag) (ad:Ads):Sp:=λvs H Q E=>∃ (x l:Addr) (ts:List Tk) (p:Nat) (s:Str),vs=[.ref x,.str s]/\RowAt K ad.WordRow H x l ts p /\
 ((ak ts p).1=s->∀ H',But x H H'->RowAt K ad.WordRow H' x l ts (p+1)->Q (kV (ak ts p).2) H')/\(¬ (ak ts p).1=s->E (.ref ad.BadText) none H)
theorem RowAt.next {K:W.Frag} {C:Addr} {H:Hp} {x dx l:Addr} {ws:List V} {ts:List Tk} {p q:Nat} (hx:H x=some (.ins C dx (mJ l p))) (hl:H l=some (.lst ws)) (hp:IsPs K H (ts.map tkD) ws) (hlx:l≠x) (h5:ts.length<=100000/\∀ t∈ts,t.1= "word" ->∃ s,t.2=Sum.inr s) :
  RowAt K C (upd H x (.ins C dx (mJ l q))) x l ts q :=
 ⟨dx,ws,aa,by rw [ac hlx];exact hl,bq (p:=x) (by rw [hx];exact True.intro) But.put hp,hlx,h5⟩
theorem Cj {K:W.Frag} {H:Hp} {t:Tk} {v:V} (h:IsD K H (tkD t) v):∃ a,v=.ref a/\SqT K H a [.str t.1,kV t.2]:=by
 obtain ⟨a,xs,rfl,ha,r⟩:=IsD.unref h
 cases r with
 | cons h1 r =>
  cases r with
  | cons h2 r =>
   cases r
   cases h1
   refine ⟨a,rfl,?_⟩;obtain ⟨w,k⟩:=t
   cases k <;> (cases h2;exact ha)
theorem bj (T:Tx K mg ad) {f:Addr} {fd:FuncData} (F:Mn K ad.WordRow "take" "WordRow.take" eB ["self","sort"] f fd):FnOk P w K mg base (CXE P w) 2 f fd ["self","sort"] (kD K ad):=by
 obtain ⟨_,_,JF⟩:=T.m_WordRow_coming;have JM:=bu (P:=P) (w:=w) (base:=base) T JF;refine F.F.okW fY (λvs H Q E h=>?_) (λcdv A outer s H vs Q E hr h=>?_)
 ·obtain ⟨x,l,ts,p,s,rfl,_⟩:=h
  rfl
 obtain ⟨x,l,ts,p,s,rfl,hR,q1,q2⟩:=h;refine ⟨_,(6,(23,fY.nd,pe_meth (pv 0) T.c_WordRow JF.meth JM (13) JF.b .nil gd (9,pe_int)),(6,(11,pt_cmpR op_ne (@pe_ix _ _ _ _ _ _ _ (ix_tupDN (K:=K) rfl) (pv 2) pe_int (λ_ _=>rfl)) (pv 1) (nomark _),(5,ps_raiseW rfl rfl rfl rfl T.x_BadText rfl (@pa1 _ _ _ pe_str (1)))),(6,ps_fldaug (pv 0) pe_int ip_add,(5,(8,@pe_ix _ _ _ _ _ _ _ (ix_tupDN (K:=K) rfl) (pv 2) pe_int (λ_ _=>rfl)))))),?_⟩;obtain ⟨dx,ws,hx,hl,hp,hlx,h5⟩:=id hR;refine ⟨_,rfl,x,dx,_,rfl,hx,aw l p (4) (4),x,l,ts,p,0,rfl,hR,λv hv=>?_⟩;rw [aBR] at hv;have hv':IsD K H (.tup [.str (ak ts p).1,kDt (ak ts p).2]) v:=hv;refine ⟨_,rfl,_,_,_,hv',rfl,at0 _ _,λv1 hv1=>?_⟩;obtain rfl:v1=.str (ak ts p).1:=by cases hv1;rfl
 refine ⟨_,rfl,rfl,_,rfl,?_⟩
 by_cases hs:(ak ts p).1=s
 ·rw [hs];refine qp ⟨_,rfl,x,ad.WordRow,dx,_,_,rfl,hx,T.c_WordRow,T.n_WordRow_place,iw l p,_,_,rfl,rfl,dx,_,hx,(by show 2 < 1000;decide),?_⟩;rw [qG,show (λi j:Int=>i+j) (p:Int) 1=((p+1:Nat):Int) from (by show (p:Int)+1=_;lia)];have hn:RowAt K ad.WordRow (upd H x (.ins ad.WordRow dx (mJ l (p+1)))) x l ts (p+1):=.next hx hl hp hlx h5;obtain ⟨a,rfl,ha⟩:=Cj hv;have ha':SqT K (upd H x (.ins ad.WordRow dx (mJ l (p+1)))) a [.str (ak ts p).1,kV (ak ts p).2]:=by
   rcases ha with (ha | ⟨o,ha⟩) | ha
   ·exact .inl (.inl (by rw [ac (mV ha hx (by intro z;cases z))];exact ha))
   ·exact .inl (.inr ⟨o,by rw [ac (mV ha hx (by intro z;cases z))];exact ha⟩)
   ·exact .inr ha
  have hk:IsD K (upd H x (.ins ad.WordRow dx (mJ l (p+1)))) (.tup [.str (ak ts p).1,kDt (ak ts p).2]) (.ref a):=.tup ha' (.cons .str (.cons (by cases (ak ts p).2 <;> constructor) .nil));refine ⟨_,rfl,_,_,_,hk,rfl,rfl,λv2 hv2=>?_⟩;have e2:v2=kV (ak ts p).2:=by
   revert hv2
   generalize (ak ts p).2=k
   intro hv2
   cases k <;> (cases hv2;rfl)
  rw [e2];exact q1 hs _ But.put hn
 ·exact wC (aM hs) ⟨sz1,q2 hs⟩
def gv (K:W.Frag) (ad:Ads):Sp:=λvs H Q E=>∃ (x l:Addr) (ts:List Tk) (p:Nat) (m:Str),vs=[.ref x,.str m]/\RowAt K ad.WordRow H x l ts p /\
 (ak ts p=aN m->∀ H',But x H H'->RowAt K ad.WordRow H' x l ts (p+1)->Q .non H')/\(¬ ak ts p=aN m->∀ H',Same H H'->E (.ref ad.BadText) none H')
theorem aH (T:Tx K mg ad) {f:Addr} {fd:FuncData} (F:Mn K ad.WordRow "take_mark" "WordRow.take_mark" cg ["self","mark"] f fd):FnOk P w K mg base (CXE P w) 3 f fd ["self","mark"] (gv K ad):=by
 obtain ⟨_,_,JI⟩:=T.m_WordRow_comes;have JV:=bV (P:=P) (w:=w) (base:=base) T JI;refine F.F.okW gQ (λvs H Q E h=>?_) (λcdv A outer s H vs Q E hr h=>?_)
 ·obtain ⟨x,l,ts,p,m,rfl,_⟩:=h
  rfl
 obtain ⟨x,l,ts,p,m,rfl,hR,q1,q2⟩:=h;refine ⟨_,(6,(11,@re _ _ _ _ (@pt_val _ _ _ (pe_meth (pv 0) T.c_WordRow JI.meth JV (13) JI.b .nil gd (9,pv 1)) (by intro _;rfl)),(5,ps_raiseW rfl rfl rfl rfl T.x_BadText rfl (@pa1 _ _ _ pe_str (1)))),(5,ps_fldaug (pv 0) pe_int ip_add)),?_⟩;obtain ⟨dx,ws,hx,hl,hp,hlx,h5⟩:=id hR;refine ⟨_,rfl,x,dx,_,rfl,hx,aw l p (4) (4),_,rfl,x,l,ts,p,m,rfl,hR,λH1 g1=>?_⟩
 by_cases hs:ak ts p=aN m
 ·rw [decide_eq_true hs];refine ⟨_,rfl,ce ⟨_,rfl,x,ad.WordRow,dx,_,_,rfl,g1 _ _ hx,T.c_WordRow,T.n_WordRow_place,iw l p,_,_,rfl,rfl,dx,_,g1 _ _ hx,(by show 2 < 1000;decide),?_⟩⟩;rw [qG,show (λi j:Int=>i+j) (p:Int) 1=((p+1:Nat):Int) from (by show (p:Int)+1=_;lia)];exact q1 hs _ (λb o nb eb=>by rw [ac nb];exact g1 _ _ eb) (.next (g1 _ _ hx) (g1 _ _ hl) (hp.same g1) hlx h5)
 ·rw [decide_eq_false hs];exact ⟨_,rfl,df ⟨sz1,q2 hs H1 g1⟩⟩
inductive PR where
 | ok (v:Dt) (p:Nat)
 | err
 | out
def PR.bind (r:PR) (f:Dt->Nat->PR):PR:=match r with
 | .ok v p=>f v p
 | .err=>.err
 | .out=>.out
section
variable (ts:List Tk)
def dv (s:Str) (p:Nat):PR:=if (ak ts p).1=s then .ok (kDt (ak ts p).2) (p+1) else .err
def dU (m:Str) (p:Nat) (f:Nat->PR):PR:=if ak ts p=aN m then f (p+1) else .err
def cT (rd:Nat->PR) (cl:Str):Nat->Nat->List Dt->PR
 | 0,_,_=>.out
 | n+1,p,fs=>if ak ts p=aN cl then .ok (.tup fs) (p+1) else if 0 < fs.length then dU ts "," p λp1=>(rd p1).bind λv q=>cT rd cl n q (fs++[v]) else (rd p).bind λv q=>cT rd cl n q (fs++[v])
def fS (rd:Nat->PR) (cl:Str) (p:Nat):PR:=cT ts rd cl (ts.length+1) p []
def cU (rd:Str->Nat->PR):List Str->Nat->List Dt->PR
 | [],p,fs=>dU ts ")" p λq=>.ok (.tup fs) q
 | s :: r,p,fs=>if 1 < fs.length then dU ts "," p λp1=>(rd s p1).bind λv q=>cU rd r q (fs++[v]) else (rd s p).bind λv q=>cU rd r q (fs++[v])
end
abbrev wU:List (Str×List Str):=[("number",["number","number"]),("text",["number"]),("list",["number","kind"]),("rows",["word","number","kind"])]
abbrev wV:List (Str×List Str):=[("bounds",["number","number"]),("scale",["number"]),("shrink",["number"]),("figures",["number"]),("number",["number","number"]),("cut",["number"]),("first",["number"]),("one",["number"]),("out",[]),("items",["turn"])]
abbrev pieceF:List (Str×List Str):=[("put",["word","kind","value"]),("drop",["word","value"]),("name",["word","word"]),("sink",["word","word"]),("lift",["word","word"]),("turn",["word","turn"]),("split",["word","text","word","word"]),("join",["word","word","text","word"]),("part",["word","number","word","word"]),("whole",["word","word","number","word","number","number"])]
def dz (k:Str):List (Str×List Str)->Option (List Str)
 | []=>none
 | (x,b) :: D=>if k=x then some b else dz k D
def aP (s w:Str):Option (List Str):=if s= "kind" then dz w wU else if s= "turn" then dz w wV else dz w pieceF
theorem qH {k:Str}:∀ {D:List (Str×Addr)} {F:List (Str×List Str)},D.map (·.1)=F.map (·.1)->(gk k D=none/\dz k F=none)\/∃ b fs,gk k D=some b/\dz k F=some fs/\(b,fs)∈(D.map (·.2)).zip (F.map (·.2))
 | [],[],_=>.inl ⟨rfl,rfl⟩
 | (x,b) :: D,(y,fs) :: F,h=>by
  have h':x=y/\D.map (·.1)=F.map (·.1):=by simpa using h
  obtain ⟨rfl,h'⟩:=h'
  by_cases e:k=x
  ·exact .inr ⟨b,fs,by simp [gk,e],by simp [dz,e],by simp⟩
  ·rcases qH (k:=k) h' with ⟨h1,h2⟩ | ⟨b',fs',h1,h2,h3⟩
   ·exact .inl ⟨by simp [gk,e,h1],by simp [dz,e,h2]⟩
   ·exact .inr ⟨b',fs',by simp [gk,e,h1],by simp [dz,e,h2],by
     rw [aAq,aAq,aBc];exact aAf _ h3⟩
def kE (K:W.Frag) (_:Ads):Sp:=λvs H Q _=>∃ s w:Str,vs=[.str s,.str w]/\(match aP s w with
 | none=>Q .non H
 | some fs=>∀ b,(∀ H',SqT K H' b (fs.map V.str))->Q (.ref b) H)
theorem oP {D:List (Str×Addr)} {F:List (Str×List Str)} {S:List (Addr×List Str)} {w:Str} {H:Hp} {Q:VK} (hS:lB K S) (e1:D.map (·.1)=F.map (·.1)) (e2:(D.map (·.2)).zip (F.map (·.2))=S)
  (q:match dz w F with
   | none=>Q .non H
   | some fs=>∀ b,(∀ H',SqT K H' b (fs.map V.str))->Q (.ref b) H):Q (match gk w D with | some b=>.ref b | none=>.non) H:=by
 rcases qH (k:=w) e1 with ⟨h1,h2⟩ | ⟨b,fs,h1,h2,h3⟩
 ·rw [h2] at q;rw [h1];exact q
 ·rw [h2] at q;rw [h1];rw [e2] at h3;exact q b λH'=>hS _ h3 H'
theorem fU (T:Tx K mg ad) {f:Addr} {fd:FuncData} (F:Gn K mg "parts_behind" em ["sort","word"] f fd):FnOk P w K mg base CX0 1 f fd ["sort","word"] (kE K ad):=by
 obtain ⟨c_KIND_PARTS,d_KIND_PARTS,s_KIND_PARTS⟩:=T.KIND_PARTS;obtain ⟨c_TURN_PARTS,d_TURN_PARTS,s_TURN_PARTS⟩:=T.TURN_PARTS;obtain ⟨c_PIECE_PARTS,d_PIECE_PARTS,s_PIECE_PARTS⟩:=T.PIECE_PARTS;refine F.F.ok kJ (λvs H Q E h=>?_) (λcdv A outer s H vs Q E hr h=>?_)
 ·obtain ⟨s,w,rfl,_⟩:=h
  rfl
 obtain ⟨s,w,rfl,q⟩:=h;refine ⟨_,(6,(11,pt_cmpR op_eq (pv 0) pe_str (nomark _),(5,(8,lE d_KIND_PARTS rfl c_KIND_PARTS (9,pv 1)))),(6,(11,pt_cmpR op_eq (pv 0) pe_str (nomark _),(5,(8,lE d_TURN_PARTS rfl c_TURN_PARTS (9,pv 1)))),(5,(8,lE d_PIECE_PARTS rfl c_PIECE_PARTS (9,pv 1))))),?_⟩;unfold aP at q;refine ⟨_,rfl,rfl,_,rfl,?_⟩
 by_cases h1:s= "kind"
 ·rw [if_pos h1] at q;subst h1;exact bS ⟨_,rfl,w,rfl,oP s_KIND_PARTS rfl rfl q⟩
 rw [if_neg h1] at q;refine bt (aM h1) ⟨_,rfl,rfl,_,rfl,?_⟩
 by_cases h2:s= "turn"
 ·rw [if_pos h2] at q;subst h2;exact bS ⟨_,rfl,w,rfl,oP s_TURN_PARTS rfl rfl q⟩
 rw [if_neg h2] at q;exact bt (aM h2) ⟨_,rfl,w,rfl,oP s_PIECE_PARTS rfl rfl q⟩
def Rdd (K:W.Frag) (ad:Ads) (x l:Addr) (ts:List Tk) (H:Hp) (Q:VK) (E:XK) (r:PR):Prop:=match r with
 | .ok v q=>∀ y H',But x H H'->RowAt K ad.WordRow H' x l ts q->IsP K H' v y->Q y H'
 | .err=>∀ H',But x H H'->E (.ref ad.BadText) none H'
 | .out=>False
theorem Rdd.but {K:W.Frag} {ad:Ads} {x l:Addr} {ts:List Tk} {H H1:Hp} {Q:VK} {E:XK} {r:PR} (h:Rdd K ad x l ts H Q E r) (g:But x H H1):Rdd K ad x l ts H1 Q E r:=by
 cases r with
 | ok v q=>exact λy H' g'=>h y H' (g.trans g')
 | err=>exact λH' g'=>h H' (g.trans g')
 | out=>exact h
def kF (K:W.Frag) (ad:Ads):Sp:=λvs H Q E=>∃ (l:List Dt) (y:V),vs=[y]/\IsP K H (.tup l) y/\l.length<=100000/\(l≠[]->Q y H)/\(l=[]->E (.ref ad.BadText) none H)
theorem fV (T:Tx K mg ad) {f:Addr} {fd:FuncData} (F:Gn K mg "at_least_one" eo ["parts"] f fd):FnOk P w K mg base (CXE P w) 1 f fd ["parts"] (kF K ad):=by
 refine F.F.okW kK (λvs H Q E h=>?_) (λcdv A outer s H vs Q E hr h=>?_)
 ·obtain ⟨l,y,rfl,_⟩:=h
  rfl
 obtain ⟨l,y,rfl,hy,hl,q1,q2⟩:=h;refine ⟨_,(6,(11,pt_cmpR op_eq (pe_callB (ik (K:=K) rfl) rfl T.z_len PySem.boot_len (@pa1 _ _ _ (pv 0) (1))) pe_int (nomark _),(5,ps_raiseW rfl rfl rfl rfl T.x_BadText rfl (@pa1 _ _ _ pe_str (1)))),(5,(8,pv 0))),?_⟩;refine ⟨_,rfl,_,_,rfl,hy.d,rfl,_,rfl,?_⟩
 cases l with
 | nil=>exact bS ⟨sz1,q2 rfl⟩
 | cons a l=>exact bt (λc=>by injection c with c;simp at c;lia) ⟨_,rfl,q1 (by simp)⟩
def okT (z:Str):Prop:=∀ c∈z.cps.toList,okC c=true
theorem tO (a b:Str):(a++b).cps.toList=a.cps.toList++b.cps.toList:=aBz
theorem lT {c:Nat}:∀ {zs:List Str},c∈(Str.join (Str.ofString "") zs).cps.toList->∃ z∈zs,c∈z.cps.toList
 | [],h=>by
  have h':c∈([]:List Nat):=h
  cases h'
 | [x],h=>⟨x,aAh,h⟩
 | x :: y :: r,h=>by
  have h':c∈(x++Str.ofString "" ++Str.join (Str.ofString "") (y :: r)).cps.toList:=h;rw [tO,tO] at h';rcases aAG.mp h' with h1 | h1
  ·rcases aAG.mp h1 with h2 | h2
   ·exact ⟨x,aAh,h2⟩
   ·have h3:c∈([]:List Nat):=h2
    cases h3
  ·obtain ⟨z,hz,hc⟩:=lT h1;exact ⟨z,aAf _ hz,hc⟩
theorem wW {zs:List Str} (h:∀ z∈zs,okT z):okT (Txt.join (Str.ofString "") zs):=by
 intro c hc;have hc':c∈(Builtin.Str.glued (Str.ofString "") zs).cps.toList:=hc;rw [StrLaws.glued_eq_join] at hc';obtain ⟨z,hz,h1⟩:=lT hc';exact h z hz c h1
abbrev signsL:Str:= "ab Z09-,.:;/()[]{}'!~"
theorem wX:∀ c∈signsL.cps.toList,okC c=true:=(4)
theorem jO:signsL.length=21:=(4)
theorem yZ {z:Str} {d:Int} (h0:0<=d) (h1:d < (z.length:Int)):∃ c,c∈z.cps.toList/\atI z.cps.toList d=some c:=lK (xs:=z.cps.toList) (d:=d) h0 (by simpa [Str.length] using h1)
inductive I_sp_law_text    (vs:List V) (H:Hp) (Q:VK):Prop
 | mk (r:Addr) (c i:Int):(vs=[.ref r,.int i])->(H r=some (.lst [.int c]))->(0<=i)->(i<=60)->(∀ z c' H',But r H H'->H' r=some (.lst [.int c'])->(z.length:Int)<=i->okT z->Q (.str z) H')->I_sp_law_text  vs H Q
def kh (_:W.Frag) (_:Ads)  : Sp:=λvs H Q _=>I_sp_law_text  vs H Q
theorem ki (T:Tx K mg ad) {f:Addr} {fd:FuncData} (F:Gn K mg "_law_text" fJ ["row","most"] f fd):FnOk P w K mg base CX0 2 f fd ["row","most"] (kh K ad):=by
 obtain ⟨_,_,JA⟩:=T.law_digit;have JC:=aF (P:=P) (w:=w) (base:=base) T JA;refine F.F.ok kr (λvs H Q E h=>?_) (λcdv A outer s H vs Q E hr h=>?_)
 ·obtain ⟨r,c,i,rfl,_⟩:=h
  rfl
 obtain ⟨r,c,i,rfl,hr0,h1,h2,q⟩:=h;refine ⟨_,(6,@ps_set _ _ 2 _ _ _ _ kr.nd rfl (Or.inr rfl) pe_str (1) (.inl rfl),(5,(8,pe_bm PySem.F.plainAttrs_str PySem.F.slot_str_join PySem.F.type_str_join cS pe_str (9,pe_comp rfl (csR (sc:=ae fJ) (NL:=["k"]) (N:=["row","most","signs"]) (ρ:=[0,2]) (N':=["k","row","signs"]) rfl rfl rfl (4) (4) (4) rfl (4)) (bf rfl T.z_range (9,pcl JA JC (7) rfl (@pa2 _ _ _ _ _ (pv 0) (16,aZ,pv 1) (1) (1)))) (λ_ _ _ _=>(aj (i:=0) (show List.Nodup (α:=Str) ["k","row","signs"] by decide +kernel) rfl (Or.inl rfl))) (λ_ _ _ _=>(@pe_ix _ _ _ _ _ _ _ ix_str (pv 2) (pcl JA JC (7) rfl (12,pv 1,pe_callB cy rfl T.z_len PySem.boot_len (9,pv 2))) (λ_ _=>rfl))))))),?_⟩;obtain ⟨d0,d1⟩:=mod_lt c (m:=i+1) (3);refine ⟨rfl,_,rfl,_,rfl,_,_,rfl,rfl,r,c,_,rfl,hr0,(3),(3),_,rfl,(3),(3),λl hln=>?_⟩;have b0:But r H (upd H r (.lst [.int (c / (i+1))])):=But.put;have nlr:r≠l:=ah aa hln;have lH:H l=none:=by rw [ac nlr.symm] at hln;exact hln
 refine be (lo:=0) (n:=(c % (i+1)).toNat) (λj ys σ H'=>∃ (zs:List Str) (c':Int),But r H H'/\H' r=some (.lst [.int c'])/\H' l=some (.lst ys)/\ys=zs.map V.str/\(∀ z∈zs,z.length=1/\okT z)/\zs.length=j/\∃ v1,σ=[v1,some (.ref r),some (.str signsL)])
  ⟨[],_,b0.trans (But.same (ag hln _)),(by rw [ac nlr];exact aa),aa,rfl,(by intro z hz;cases hz),rfl,none,rfl⟩ ?_ ?_
 ·rintro j ys σ H1 N hj ⟨zs,c',b1,e1,e2,rfl,hz,hle,v1,rfl⟩ next;obtain ⟨g0,g1⟩:=mod_lt c' (m:=((signsL.length:Nat):Int)) (by rw [jO];decide);obtain ⟨ch,hm,hc⟩:=yZ (z:=signsL) g0 g1;refine ⟨_,rfl,_,rfl,_,rfl,_,rfl,(4),r,c',_,rfl,e1,by rw [jO];decide,by rw [jO];decide,_,_,_,rfl,rfl,(4),hc,?_⟩;have e3:(upd H1 r (.lst [.int (c' / ((signsL.length:Nat):Int))])) l=some (.lst (zs.map V.str)):=by rw [ac nlr.symm];exact e2
  refine ⟨e3,(by rw [aAa];exact ay (3)),next _ _ _ ⟨zs++[⟨#[ch]⟩],_,λx o nx ex=>?_,(by rw [ac nlr];exact aa),aa,(by rw [aAr];rfl),λz hz'=>?_,(by rw [aAc,hle];rfl),_,rfl⟩⟩
  ·rw [ac (ah ex lH),ac nx];exact b1 x o nx ex
  ·rcases aAG.mp hz' with h3 | h3
   ·exact hz z h3
   ·obtain rfl:=aAp.mp h3;refine ⟨rfl,λc hc'=>?_⟩;obtain rfl:c=ch:=by simpa using hc'
    exact wX c hm
 ·intro ys σ H1 hI9;obtain ⟨zs,c',b1,e1,e2,rfl,hz,hle,v1,rfl⟩:=hI9;have s1:∀ l:List Str,(∀ z∈l,z.length=1)->(l.map (·.length)).sum=l.length:=by
   intro l
   induction l with
   | nil=>intro _;rfl
   | cons z l ih =>
    intro h;rw [aAq,aAV,ih λx hx=>h x (aAf _ hx),h z aAh,aAb];lia
  have s2:=s1 zs λz h=>(hz z h).1;refine ⟨_,l,zs,rfl,rfl,.inl (SqL.of e2),(by rw [show (Str.ofString "").length=0 from rfl];lia),?_⟩;refine q _ c' H1 b1 e1 ?_ (wW λz h=>(hz z h).2);rw [W.KT.join_ones zs λz h=>(hz z h).1];lia
section
variable (ts:List Tk)
def fW (p:Nat) (f:Str->Nat->PR):PR:=match ak ts p with
 | (w,.inr s)=>if w= "word" then f s (p+1) else .err
 | (_,.inl _)=>.err
def ie (rd:Str->Nat->PR) (s w:Str) (p:Nat):PR:=match aP s w with
 | none=>.err
 | some fs=>dU ts "(" p λq=>cU ts rd fs q [.str w]
def dh (rd:Str->Nat->PR) (p:Nat):PR :=
 if ak ts p=aN "[" then (fS ts (rd "value") "]" (p+1)).bind λv q=>.ok (mk2 "list" v) q
 else if ak ts p=aN "{" then (fS ts (rd "entry") "}" (p+1)).bind λv q=>.ok (mk2 "record" v) q
 else if ak ts p=aN "(" then (fS ts (rd "value") ")" (p+1)).bind λv q=>.ok (mk2 "rows" v) q
 else if (ak ts p).1= "number" then dv ts "number" p else dv ts "text" p
def kj (rd:Str->Nat->PR) (s:Str) (p:Nat):PR:=fW ts p λw q=>dU ts ":" q λq=>(rd s q).bind λv r=>.ok (.tup [.str w,v]) r
def ex2:List Dt->List Dt
 | [a,b]=>[b,a]
 | [a,b,c]=>[a,c,b]
 | l=>l
def exL (w:Str) (ds:List Dt):List Dt:=if w= "list" \/w= "rows" then ex2 ds else ds
def exD:Dt->Dt
 | .tup (.str w :: ds)=>.tup (.str w :: exL w ds)
 | d=>d
def nE (rd:Str->Nat->PR) (p:Nat):PR:=fW ts p λw q =>
 if w= "choice" then dU ts "(" q λq=>(fS ts (rd "word") ")" q).bind λv r=>(match v with
  | .tup []=>.err
  | v=>.ok (.tup [.str w,v]) r)
 else if w= "record" then dU ts "(" q λq=>(fS ts (rd "field") ")" q).bind λv r=>.ok (.tup [.str w,v]) r
 else (ie ts rd "kind" w q).bind λv r=>.ok (exD v) r
def nF (rd:Str->Nat->PR) (p:Nat):PR:=fW ts p λw q=>if w= "words" then dU ts "(" q λq=>(fS ts (rd "word") ";" q).bind λv r=>(match v with
  | .tup []=>.err
  | v=>(fS ts (rd "way") ")" r).bind λv2 r2=>(match v2 with
   | .tup []=>.err
   | v2=>.ok (.tup [.str w,v,v2]) r2))
 else ie ts rd "turn" w q
def km:Nat->Nat->List Dt->PR
 | 0,_,_=>.out
 | n+1,p,fs=>if ak ts p=aN "/" then fW ts (p+1) λw q=>km n q (fs++[.str w]) else .ok (.tup fs) p
def i0 (p:Nat):PR:=dU ts "/" p λq=>if ¬ (ak ts q).1= "word" \/ak ts (q+1)=aN "(" then .ok (.tup []) q else fW ts q λw r=>km ts (ts.length+1) r [.str w]
abbrev tP:List (Str×Str):=[("field","kind"),("entry","value"),("way","word")]
def prs:Nat->Str->Nat->PR
 | n+3,s,p=>if s= "value" then dh ts (prs n) p else if s= "kind" then nE ts (prs n) p else if s= "turn" then nF ts (prs n) p
  else if s= "piece" then fW ts p λw q=>ie ts (prs n) "piece" w q else if s= "path" then i0 ts p else if s= "change" then (i0 ts p).bind λv q=>(prs n "piece" q).bind λv2 r=>.ok (.tup [v,v2]) r
  else match gn s tP with
   | some s'=>kj ts (prs (n+1)) s' p
   | none=>dv ts s p
 | _,_,_=>.out
end
def lU (K:W.Frag) (ad:Ads) (n:Nat):Sp:=λvs H Q E=>∃ (x lw:Addr) (ts:List Tk) (p:Nat) (s:Str),vs=[.ref x,.str s]/\RowAt K ad.WordRow H x lw ts p/\Rdd K ad x lw ts H Q E (prs ts n s p)
def tQ (K:W.Frag) (ad:Ads) (n:Nat):Sp:=λvs H Q E=>∃ (x lw:Addr) (ts:List Tk) (p:Nat) (s c:Str),vs=[.ref x,.str s,.str c]/\RowAt K ad.WordRow H x lw ts p/\Rdd K ad x lw ts H Q E (fS ts (prs ts n s) c p)
theorem Rdd.step {K:W.Frag} {ad:Ads} {x lw:Addr} {ts:List Tk} {H H3:Hp} {Q Q':VK} {E:XK} {r:PR} {f:Dt->Nat->PR} (q:Rdd K ad x lw ts H Q E (r.bind f)) (b:But x H H3)
  (k:∀ v p y H4,But x H3 H4->RowAt K ad.WordRow H4 x lw ts p->IsP K H4 v y->Rdd K ad x lw ts H Q E (f v p)->Q' y H4):Rdd K ad x lw ts H3 Q' E r:=by
 cases r with
 | ok v p=>exact λy H4 b4 hR hv=>k v p y H4 b4 hR hv q
 | err=>exact λH4 b4=>q H4 (b.trans b4)
 | out=>exact q
theorem aB {ts:List Tk} {m:Str} {p:Nat} {f:Nat->PR} (h:ak ts p=aN m):dU ts m p f=f (p+1):=if_pos h
theorem cA {ts:List Tk} {m:Str} {p:Nat} {f:Nat->PR} (h:¬ ak ts p=aN m):dU ts m p f=.err:=if_neg h
theorem RowAt.mut {K:W.Frag} {C:Addr} {H:Hp} {x lw:Addr} {ts:List Tk} {p:Nat} (h:RowAt K C H x lw ts p):Mut (H x):=by
 obtain ⟨dx,ws,hx,_⟩:=h;rw [hx];exact True.intro
theorem RowAt.put {K:W.Frag} {C:Addr} {H:Hp} {x lw l:Addr} {ts:List Tk} {p:Nat} {zs:List V} (h:RowAt K C H x lw ts p) (hl:H l=some (.lst zs)) (ys:List V) (no:lw≠l):RowAt K C (upd H l (.lst ys)) x lw ts p:=by
 obtain ⟨dx,ws,hx,h0,hp,hlx,h5⟩:=h;have nx:x≠l:=mV hx hl (by intro c;cases c);exact ⟨dx,ws,by rw [ac nx];exact hx,by rw [ac no];exact h0,hp.but hl But.put,hlx,h5⟩
theorem oQ (T:Tx K mg ad) (n:Nat) {f fp:Addr} {fd fdp:FuncData} (F:Gn K mg "list_read" cx ["row","sort","closing"] f fd) (JG:Gn K mg "part_read" bU ["row","sort"] fp fdp)
  (JS:FnOk P w K mg base (CXE P w) (n+4) fp fdp ["row","sort"] (lU K ad n)):FnOk P w K mg base (CXE P w) (n+4+1) f fd ["row","sort","closing"] (tQ K ad n):=by
 obtain ⟨f1,d1,JI⟩:=T.m_WordRow_comes;have JV:=bV (P:=P) (w:=w) (base:=base) T JI;obtain ⟨f2,d2,JB⟩:=T.m_WordRow_take_mark;have JE:=aH (P:=P) (w:=w) (base:=base) T JB;refine F.F.okW jr (λvs H Q E h=>?_) (λcdv A outer s H vs Q E hr h=>?_)
 ·obtain ⟨x,lw,ts,p,s,c,rfl,_⟩:=h
  rfl
 obtain ⟨x,lw,ts,p,s,c,rfl,hR,q⟩:=h;refine ⟨_,(@pss_cons _ _ _ _ _ (21,3,jr.nd,@pe_lst _ _ _ _ pa_nil) (@pss_cons _ _ _ _ _ (qh λok=>iJ (gf ok.frames rfl ok.frf) (@re _ _ _ _ (@pt_val _ _ _ (pe_meth (pv 0) T.c_WordRow JI.meth JV (13) JI.b .nil gd (9,pv 2)) (by intro _;rfl)))
    (6,(11,pt_cmpR mW (pe_callB (bA (K:=K) rfl) rfl T.z_len PySem.boot_len (9,pv 3)) pe_int (nomark _),(5,(24))),(5,@ps_expr _ _ _ _ (pe_bm PySem.F.plainAttrs_list PySem.F.slot_list_append PySem.F.type_list_append bL (pv 3) (9,(22,JS,JG.m,JG.F.kp,JG.b,@pa2 _ _ _ _ _ (pv 0) (pv 1) (1) (1)))) (1)))) (6,@ps_expr _ _ _ _ (pe_meth (pv 0) T.c_WordRow JB.meth JE (13) JB.b .nil (wing_on rfl rfl rfl) (9,pv 2)) (1),(5,(8,pe_callTy (aU (K:=K) rfl) rfl T.z_tuple boot_tuple (9,pv 3)))))),?_⟩
 refine ⟨(by show 0<=sizeLine;decide),λl hl=>?_⟩;have hxl:l≠x:=by
  obtain ⟨dx,_,hx,_⟩:=hR;exact λc=>by rw [c,hx] at hl;cases hl
 have hwl:lw≠l:=by
  obtain ⟨dx,_,_,h0,_⟩:=hR;exact ah h0 hl
 refine ⟨λm σ H'=>∃ (p':Nat) (fs:List Dt) (ys:List V),But x H H'/\RowAt K ad.WordRow H' x lw ts p'/\H' l=some (.lst ys)/\IsPs K H' fs ys/\fs.length+m<=ts.length+1/\Rdd K ad x lw ts H Q E (cT ts (prs ts n s) c m p' fs)/\σ=[some (.ref x),some (.str s),some (.str c),some (.ref l)],
  ⟨ts.length+1,p,[],[],But.same (ag hl _),hR.same (ag hl _),aa,.nil,aBL (Nat.zero_add _),q,rfl⟩,?_⟩
 rintro m σ H1 ⟨p',fs,ys,b1,hR1,f1',hp,hm,q1,rfl⟩
 cases m with
 | zero=>exact q1.elim
 | succ m =>
 obtain ⟨dx,ws,hx,hl0,hp0,hlx0,h5⟩:=id hR1;have ly:=hp.length;refine ⟨_,rfl,x,dx,_,rfl,hx,aw lw p' (4) (4),_,rfl,x,lw,ts,p',c,rfl,hR1,λH2 g2=>?_⟩;have R2:=hR1.same g2;have f2':=g2 _ _ f1';have hp2:=hp.same g2
 by_cases hc:ak ts p'=aN c
 ·rw [decide_eq_true hc];simp only [cT] at q1;rw [if_pos hc] at q1;refine ⟨_,rfl,ce ⟨_,rfl,x,dx,_,rfl,g2 _ _ hx,aw lw p' (4) (4),_,rfl,x,lw,ts,p',c,rfl,R2,λ_ H3 b3 hR3=>?_,λh=>absurd hc h⟩⟩;refine ⟨_,rfl,l,ys,_,rfl,SqL.of (b3 _ _ hxl f2'),bq R2.mut b3 hp2,λv H4 g4 hv=>?_⟩;exact q1 v H4 (((b1.trans (But.same g2)).trans b3).trans (But.same g4)) (hR3.same g4) hv
 ·rw [decide_eq_false hc];simp only [cT] at q1;rw [if_neg hc] at q1;refine ⟨_,rfl,df ⟨λσ' H'=>∃ (p':Nat) (fs:List Dt) (ys:List V),But x H H'/\RowAt K ad.WordRow H' x lw ts p'/\H' l=some (.lst ys)/\IsPs K H' fs ys/\fs.length+m<=ts.length+1/\Rdd K ad x lw ts H Q E (cT ts (prs ts n s) c m p' fs)/\σ'=[some (.ref x),some (.str s),some (.str c),some (.ref l)],λσ' H' r=>⟨m,(3),r⟩,?_⟩⟩;refine ⟨_,rfl,l,_,rfl,.inl (SqL.of f2'),_,_,rfl,rfl,_,rfl,?_⟩;have b2:But x H H2:=b1.trans (But.same g2);refine bi (λc0=>?_) (λc0=>?_)
  ·have pos:0 < fs.length:=by have:=of_decide_eq_true c0;lia
   rw [if_pos pos] at q1;refine ⟨_,rfl,x,dx,_,rfl,g2 _ _ hx,aw lw p' (4) (4),x,lw,ts,p',",",rfl,R2,λhcm H3 b3 R3=>?_,λhcm H3 g3=>?_⟩
   ·rw [aB hcm] at q1;refine ⟨_,rfl,.inl ⟨rfl,_,SqL.of (b3 _ _ hxl f2')⟩,_,rfl,_,rfl,x,lw,ts,p' + 1,s,rfl,R3,q1.step (b2.trans b3) λv p4 y H4 b4 R4 hv q4=>?_⟩;have f4:=b4 _ _ hxl (b3 _ _ hxl f2');refine ⟨l,ys,y,rfl,rfl,f4,aAk (show ys.length < 100001 by have:=h5.1;lia) (by decide),p4,fs++[v],ys++[y],λb o nb eb=>?_,R4.put f4 _ hwl,aa,((bq R3.mut b4 (bq R2.mut b3 hp2)).but f4 But.put).append (.cons (hv.but f4 But.put) .nil),by rw [aAc];simp only [aAb,aAl];lia,q4,rfl⟩;rw [ac (ah eb hl)];exact b4 _ _ nb ((b2.trans b3) _ _ nb eb)
   ·rw [cA hcm] at q1;exact q1 H3 (b2.trans (But.same g3))
  ·have pos:¬ 0 < fs.length:=λh=>c0 (decide_eq_true (3));rw [if_neg pos] at q1;refine ⟨_,rfl,.inl ⟨rfl,_,SqL.of f2'⟩,_,rfl,_,rfl,x,lw,ts,p',s,rfl,R2,q1.step b2 λv p4 y H4 b4 R4 hv q4=>?_⟩;have f4:=b4 _ _ hxl f2';refine ⟨l,ys,y,rfl,rfl,f4,aAk (show ys.length < 100001 by have:=h5.1;lia) (by decide),p4,fs++[v],ys++[y],λb o nb eb=>?_,R4.put f4 _ hwl,aa,((bq R2.mut b4 hp2).but f4 But.put).append (.cons (hv.but f4 But.put) .nil),by rw [aAc];simp only [aAb,aAl];lia,q4,rfl⟩;rw [ac (ah eb hl)];exact b4 _ _ nb (b2 _ _ nb eb)
def wY (K:W.Frag) (ad:Ads) (n:Nat):Sp:=λvs H Q E=>∃ (x lw:Addr) (ts:List Tk) (p:Nat) (s w:Str),vs=[.ref x,.str s,.str w]/\RowAt K ad.WordRow H x lw ts p/\Rdd K ad x lw ts H Q E (ie ts (prs ts n) s w p)
theorem oR (T:Tx K mg ad) (n:Nat) {f fp:Addr} {fd fdp:FuncData} (F:Gn K mg "form_read" cZ ["row","sort","word"] f fd) (JG:Gn K mg "part_read" bU ["row","sort"] fp fdp)
  (JS:FnOk P w K mg base (CXE P w) (n+4) fp fdp ["row","sort"] (lU K ad n)):FnOk P w K mg base (CXE P w) (n+4+1) f fd ["row","sort","word"] (wY K ad n):=by
 obtain ⟨f1,d1,Kh⟩:=T.parts_behind;have Ky:=fU (P:=P) (w:=w) (base:=base) T Kh;obtain ⟨f2,d2,JB⟩:=T.m_WordRow_take_mark;have JE:=aH (P:=P) (w:=w) (base:=base) T JB;refine F.F.okW dH (λvs H Q E h=>?_) (λcdv A outer s H vs Q E hr h=>?_)
 ·obtain ⟨x,lw,ts,p,s,w,rfl,_⟩:=h
  rfl
 obtain ⟨x,lw,ts,p,s,wd,rfl,hR,q⟩:=h;refine ⟨_,(@pss_cons _ _ _ _ _ (21,3,dH.nd,(10,Kh,Ky,(12,pv 1,pv 2))) (@pss_cons _ _ _ _ _ (11,pt_cmpR vy (pv 3) pe_non (nomark _),(5,ps_raiseW rfl rfl rfl rfl T.x_BadText rfl (@pa1 _ _ _ pe_str (1)))) (@pss_cons _ _ _ _ _ (24) (@pss_cons _ _ _ _ _ (21,4,dH.nd,@pe_lst _ _ _ _ (9,pv 2)) (@pss_cons _ _ _ _ _ (qh λok=>ps_for (gf ok.frames rfl ok.frf) rfl (pi_tupN (K:=K) rfl (pv 3)) (aj (i:=5) dH.nd rfl (Or.inl rfl))
    (6,(11,pt_cmpR mW (pe_callB (bA (K:=K) rfl) rfl T.z_len PySem.boot_len (9,pv 4)) pe_int (nomark _),(5,(24))),(5,@ps_expr _ _ _ _ (pe_bm PySem.F.plainAttrs_list PySem.F.slot_list_append PySem.F.type_list_append bL (pv 4) (9,(22,JS,JG.m,JG.F.kp,JG.b,@pa2 _ _ _ _ _ (pv 0) (pv 5) (1) (1)))) (1)))) (6,(24),(5,(8,pe_callTy (aU (K:=K) rfl) rfl T.z_tuple boot_tuple (9,pv 4))))))))),?_⟩
 obtain ⟨dx,ws,hx,hl0,hp0,hlx0,h5⟩:=id hR;refine ⟨_,rfl,_,rfl,s,wd,rfl,?_⟩;unfold ie at q
 cases hf:aP s wd with
 | none =>
  rw [hf] at q;exact ⟨_,rfl,rfl,_,rfl,bS ⟨sz1,q H (But.refl _ _)⟩⟩
 | some fs =>
  rw [hf] at q;intro b hb;refine ⟨_,rfl,rfl,_,rfl,bt (λc=>by cases c) ?_⟩;dsimp only at q;refine ⟨_,rfl,x,dx,_,rfl,hx,aw lw p (4) (4),x,lw,ts,p,"(",rfl,hR,λhcm H1 b1 R1=>?_,λhcm H1 g1=>?_⟩
  rotate_left
  ·rw [cA hcm] at q;exact q H1 (But.same g1)
  rw [aB hcm] at q;refine ⟨_,rfl,sz1,λl hl=>?_⟩;have hlH:H l=none:=by
   cases c:H l with
   | none=>rfl
   | some o =>
    by_cases e:l=x
    ·subst e;obtain ⟨dx1,_,hx1,_⟩:=R1;rw [hx1] at hl
     cases hl
    ·rw [b1 _ _ e c] at hl
     cases hl
  have hxl:l≠x:=λc=>by rw [c,hx] at hlH;cases hlH
  have hwl:lw≠l:=ah hl0 hlH;refine ⟨_,rfl,b,rfl,⟨_,hb _⟩,cQ (K:=K) (xs:=fs.map V.str) (λi σ H'=>∃ (p':Nat) (gs:List Dt) (ys:List V) (v5:Option V),But x H H'/\RowAt K ad.WordRow H' x lw ts p'/\H' l=some (.lst ys)/\IsPs K H' gs ys/\gs.length=i+1/\Rdd K ad x lw ts H Q E (cU ts (prs ts n) (fs.drop i) p' gs)/\σ=[some (.ref x),some (.str s),some (.str wd),some (.ref b),some (.ref l),v5])
   ⟨p+1,[.str wd],[.str wd],_,b1.trans (But.same (ag hl _)),R1.same (ag hl _),aa,.cons .str .nil,rfl,q,rfl⟩ (λi σ H' _ _=>hb H') ?_ ?_⟩
  ·rintro i y σ H2 hy ⟨p',gs,ys,v5,b2,R2,f2',hp2,hg,q2,rfl⟩;rw [aAg] at hy;obtain ⟨s',hs',rfl⟩:=aAi.mp hy;have hd:fs.drop i=s' :: fs.drop (i+1):=by
    obtain ⟨h1,h2⟩:=aAj.mp hs';rw [aA7 h1,h2]
   rw [hd] at q2;simp only [cU] at q2;have ly:=hp2.length;obtain ⟨dx2,ws2,hx2,_⟩:=id R2;have il:i < fs.length:=(aAj.mp hs').1;have fl:fs.length<=6:=by
    unfold aP at hf;have key:∀ (F:List (Str×List Str)) (w:Str) (l:List Str),(∀ q∈F,q.2.length<=6)->dz w F=some l->l.length<=6:=by
     intro F
     induction F with
     | nil=>intro w l _ h;cases h
     | cons a F ih =>
      intro w l h1 h2;simp only [dz] at h2
      split at h2
      ·cases h2;exact h1 a aAh
      ·exact ih w l (λq hq=>h1 q (aAf _ hq)) h2
    split at hf
    ·exact key wU _ _ (4) hf
    split at hf
    ·exact key wV _ _ (4) hf
    ·exact key pieceF _ _ (4) hf
   refine ⟨_,rfl,l,_,rfl,.inl (SqL.of f2'),_,_,rfl,rfl,_,rfl,bi (λc0=>?_) (λc0=>?_)⟩
   ·have pos:1 < gs.length:=by have:=of_decide_eq_true c0;lia
    rw [if_pos pos] at q2;refine ⟨_,rfl,x,dx2,_,rfl,hx2,aw lw p' (4) (4),x,lw,ts,p',",",rfl,R2,λhcm H3 b3 R3=>?_,λhcm H3 g3=>?_⟩
    ·rw [aB hcm] at q2;refine ⟨_,rfl,.inl ⟨rfl,_,SqL.of (b3 _ _ hxl f2')⟩,_,rfl,_,rfl,x,lw,ts,p' + 1,s',rfl,R3,q2.step (b2.trans b3) λv p4 y H4 b4 R4 hv q4=>?_⟩;have f4:=b4 _ _ hxl (b3 _ _ hxl f2');refine ⟨l,ys,y,rfl,rfl,f4,ay (3),p4,gs++[v],ys++[y],_,λb o nb eb=>?_,R4.put f4 _ hwl,aa,((bq R3.mut b4 (bq R2.mut b3 hp2)).but f4 But.put).append (.cons (hv.but f4 But.put) .nil),by rw [aAc];simp only [aAb,aAl];lia,q4,rfl⟩;rw [ac (ah eb hlH)];exact b4 _ _ nb ((b2.trans b3) _ _ nb eb)
    ·rw [cA hcm] at q2;exact q2 H3 (b2.trans (But.same g3))
   ·have pos:¬ 1 < gs.length:=λh=>c0 (decide_eq_true (3));rw [if_neg pos] at q2;refine ⟨_,rfl,.inl ⟨rfl,_,SqL.of f2'⟩,_,rfl,_,rfl,x,lw,ts,p',s',rfl,R2,q2.step b2 λv p4 y H4 b4 R4 hv q4=>?_⟩;have f4:=b4 _ _ hxl f2';refine ⟨l,ys,y,rfl,rfl,f4,ay (3),p4,gs++[v],ys++[y],_,λb o nb eb=>?_,R4.put f4 _ hwl,aa,((bq R2.mut b4 hp2).but f4 But.put).append (.cons (hv.but f4 But.put) .nil),by rw [aAc];simp only [aAb,aAl];lia,q4,rfl⟩;rw [ac (ah eb hlH)];exact b4 _ _ nb (b2 _ _ nb eb)
  ·rintro σ H2 ⟨p',gs,ys,v5,b2,R2,f2',hp2,hg,q2,rfl⟩;rw [aAa,List.drop_length] at q2;simp only [cU] at q2;obtain ⟨dx2,ws2,hx2,_⟩:=id R2;refine ⟨_,rfl,x,dx2,_,rfl,hx2,aw lw p' (4) (4),x,lw,ts,p',")",rfl,R2,λhcm H3 b3 R3=>?_,λhcm H3 g3=>?_⟩
   ·rw [aB hcm] at q2;refine ⟨_,rfl,l,ys,_,rfl,SqL.of (b3 _ _ hxl f2'),bq R2.mut b3 hp2,λv H4 g4 hv=>?_⟩;exact q2 v H4 ((b2.trans b3).trans (But.same g4)) (R3.same g4) hv
   ·rw [cA hcm] at q2;exact q2 H3 (b2.trans (But.same g3))
def Jv (K:W.Frag) (ad:Ads) (n:Nat):Sp:=λvs H Q E=>∃ (x lw:Addr) (ts:List Tk) (p:Nat),vs=[.ref x]/\RowAt K ad.WordRow H x lw ts p/\Rdd K ad x lw ts H Q E (dh ts (prs ts n) p)
def brL:List (Str×Str×Str×Str):=[("[","list","value","]"),("{","record","entry","}"),("(","rows","value",")")]
theorem wZ {ts:List Tk} {rd:Str->Nat->PR} {p i:Nat} {b:Str×Str×Str×Str} (hb:brL[i]?=some b) (no:∀ j a,j < i->brL[j]?=some a->¬ ak ts p=aN a.1) (h:ak ts p=aN b.1) :
  dh ts rd p=(fS ts (rd b.2.2.1) b.2.2.2 (p+1)).bind λv q=>.ok (mk2 b.2.1 v) q:=by
 unfold dh
 match i,hb with
 | 0,hb=>cases hb;rw [if_pos h]
 | 1,hb=>cases hb;rw [if_neg (no 0 _ (3) rfl),if_pos h]
 | 2,hb=>cases hb;rw [if_neg (no 0 _ (3) rfl),if_neg (no 1 _ (3) rfl),if_pos h]
 | n+3,hb=>simp [brL] at hb
theorem w5 {ts:List Tk} {rd:Str->Nat->PR} {p:Nat} (no:∀ j a,j < 3->brL[j]?=some a->¬ ak ts p=aN a.1):dh ts rd p=if (ak ts p).1= "number" then dv ts "number" p else dv ts "text" p:=by
 unfold dh;rw [if_neg (no 0 _ (3) rfl),if_neg (no 1 _ (3) rfl),if_neg (no 2 _ (3) rfl)]
theorem w6 {K:W.Frag} {H:Hp} (k:Key):IsP K H (kDt k) (kV k):=by
 cases k with
 | inl i=>exact .int
 | inr z=>exact .str
theorem mK (T:Tx K mg ad) (n:Nat) {f fl:Addr} {fd fdl:FuncData} (F:Gn K mg "value_read" fI ["row"] f fd) (JH:Gn K mg "list_read" cx ["row","sort","closing"] fl fdl)
  (JR:FnOk P w K mg base (CXE P w) (n+4+1) fl fdl ["row","sort","closing"] (tQ K ad n)):FnOk P w K mg base (CXE P w) (n+4+2) f fd ["row"] (Jv K ad n):=by
 obtain ⟨f1,d1,JI⟩:=T.m_WordRow_comes;have JV:=bV (P:=P) (w:=w) (base:=base) T JI;obtain ⟨f2,d2,JB⟩:=T.m_WordRow_take_mark;have JE:=aH (P:=P) (w:=w) (base:=base) T JB;obtain ⟨f3,d3,JD⟩:=T.m_WordRow_take;have JJ:=bj (P:=P) (w:=w) (base:=base) T JD;obtain ⟨f4,d4,JF⟩:=T.m_WordRow_coming;have JM:=bu (P:=P) (w:=w) (base:=base) T JF;obtain ⟨c_BRACKETED,tr,tt⟩:=T.BRACKETED;refine F.F.okW cm (λvs H Q E h=>?_) (λcdv A outer s H vs Q E hr h=>?_)
 ·obtain ⟨x,lw,ts,p,rfl,_⟩:=h
  rfl
 obtain ⟨x,lw,ts,p,rfl,hR,q⟩:=h;refine ⟨_,(@pss_cons _ _ _ _ _ (qh λok=>ps_for (gf ok.frames rfl ok.frf) rfl (pi_tupN (K:=K) rfl (iQ rfl c_BRACKETED)) (jx rfl (aJ (aj (i:=1) cm.nd rfl (Or.inl rfl)) (aJ (aj (i:=2) cm.nd rfl (Or.inl rfl)) (aJ (aj (i:=3) cm.nd rfl (Or.inl rfl)) (aJ (aj (i:=4) cm.nd rfl (Or.inl rfl)) dD)))))
    (5,(11,@pt_val _ _ _ (pe_meth (pv 0) T.c_WordRow JI.meth JV (13) JI.b .nil gd (9,pv 1)) (by intro _;rfl),(6,@ps_expr _ _ _ _ (pe_meth (pv 0) T.c_WordRow JB.meth JE (13) JB.b .nil (wing_on rfl rfl rfl) (9,pv 1)) (1),(5,(8,@pe_tupPK _ K _ _ _ _ rfl (12,pv 2,(22,JR,JH.m,JH.F.kp,JH.b,@pa3 _ _ _ _ _ _ _ (pv 0) (pv 3) (pv 4) (1) (1) (1))))))))) (6,(11,pt_cmpR op_eq (@pe_ix _ _ _ _ _ _ _ (ix_tupDN (K:=K) rfl) (pe_meth (pv 0) T.c_WordRow JF.meth JM (13) JF.b .nil gd (9,pe_int)) pe_int (λ_ _=>rfl)) pe_str (nomark _),(5,(8,pe_meth (pv 0) T.c_WordRow JD.meth JJ (13) JD.b .nil (wing_on rfl rfl rfl) (@pa1 _ _ _ pe_str (1))))),(5,(8,pe_meth (pv 0) T.c_WordRow JD.meth JJ (13) JD.b .nil (wing_on rfl rfl rfl) (@pa1 _ _ _ pe_str (1)))))),?_⟩
 obtain ⟨dx,ws,hx,hl0,hp0,hlx0,h5⟩:=id hR;have tt':∀ (i:Nat) (b:Str×Str×Str×Str),brL[i]?=some b->∀ H',SqT K H' (260+i) [.str b.1,.str b.2.1,.str b.2.2.1,.str b.2.2.2]:=by
  intro i b hb H'
  match i,hb with
  | 0,hb=>cases hb;exact tt (260,["[","list","value","]"]) (by simp) H'
  | 1,hb=>cases hb;exact tt (261,["{","record","entry","}"]) (by simp) H'
  | 2,hb=>cases hb;exact tt (262,["(","rows","value",")"]) (by simp) H'
  | n+3,hb=>simp [brL] at hb
 refine ⟨263,rfl,⟨_,tr _⟩,cQ (K:=K) (xs:=([260,261,262]:List Addr).map V.ref) (λi σ H'=>Same H H'/\(∀ j a,j < i->brL[j]?=some a->¬ ak ts p=aN a.1)/\∃ v1 v2 v3 v4,σ=[some (.ref x),v1,v2,v3,v4]) ⟨Same.refl H,λj a h=>absurd h (aBx _),_,_,_,_,rfl⟩ (λi σ H' _ _=>tr H') ?_ ?_⟩
 ·rintro i y σ H1 hy ⟨g1,no,v1,v2,v3,v4,rfl⟩;obtain ⟨b,hb,rfl⟩:∃ b,brL[i]?=some b/\y=.ref (260+i):=by
   match i,hy with
   | 0,hy=>cases hy;exact ⟨_,rfl,rfl⟩
   | 1,hy=>cases hy;exact ⟨_,rfl,rfl⟩
   | 2,hy=>cases hy;exact ⟨_,rfl,rfl⟩
   | n+3,hy=>simp at hy
  refine ⟨_,_,rfl,tt' i b hb H1,rfl,_,_,rfl,_,_,rfl,_,_,rfl,_,_,rfl,rfl,?_⟩;refine ⟨_,rfl,x,dx,_,rfl,g1 _ _ hx,aw lw p (4) (4),_,rfl,x,lw,ts,p,b.1,rfl,hR.same g1,λH2 g2=>?_⟩;have g12:=g1.trans g2
  by_cases hc:ak ts p=aN b.1
  ·rw [decide_eq_true hc];rw [wZ hb no hc] at q;refine ⟨_,rfl,df ⟨_,rfl,x,dx,_,rfl,g12 _ _ hx,aw lw p (4) (4),_,rfl,x,lw,ts,p,b.1,rfl,hR.same g12,λ_ H3 b3 R3=>?_,λh=>absurd hc h⟩⟩;refine ⟨_,rfl,_,rfl,_,rfl,_,rfl,x,lw,ts,p+1,b.2.2.1,b.2.2.2,rfl,R3,q.step ((But.same g12).trans b3) λv p4 y H4 b4 R4 hv q4=>?_⟩;exact ⟨[.str b.2.1,v],.cons .str (.cons hv .nil),sz2,λy5 H5 g5 hv5=>q4 y5 H5 ((((But.same g12).trans b3).trans b4).trans (But.same g5)) (R4.same g5) hv5⟩
  ·rw [decide_eq_false hc];refine ⟨_,rfl,ce ⟨g12,λj a hj ha=>?_,_,_,_,_,rfl⟩⟩;rcases Nat.lt_succ_iff_lt_or_eq.mp hj with h | h
   ·exact no j a h ha
   ·subst h;rw [hb] at ha
    cases ha
    exact hc
 ·rintro σ H1 ⟨g1,no,v1,v2,v3,v4,rfl⟩;rw [w5 no] at q;refine ⟨_,rfl,x,dx,_,rfl,g1 _ _ hx,aw lw p (4) (4),x,lw,ts,p,0,rfl,hR.same g1,λv hv=>?_⟩;rw [aBR] at hv;have hv':IsD K H1 (.tup [.str (ak ts p).1,kDt (ak ts p).2]) v:=hv;refine ⟨_,_,_,hv',rfl,at0 _ _,λv1 hv1=>?_⟩;obtain rfl:v1=.str (ak ts p).1:=by cases hv1;rfl
  have tk:∀ {s0:Str} {Q':VK},Rdd K ad x lw ts H Q E (dv ts s0 p)->(∀ y H',Q y H'->Q' y H')->((ak ts p).1=s0->∀ H',But x H1 H'->RowAt K ad.WordRow H' x lw ts (p+1)->Q' (kV (ak ts p).2) H')/\(¬ (ak ts p).1=s0->E (.ref ad.BadText) none H1):=λ{s0 Q'} q hQ=>by
   unfold dv at q;refine ⟨λe H' b' R'=>?_,λe=>?_⟩
   ·rw [if_pos e] at q;exact hQ _ _ (q _ H' ((But.same g1).trans b') R' (w6 _))
   ·rw [if_neg e] at q;exact q H1 (But.same g1)
  refine ⟨rfl,_,rfl,?_⟩
  by_cases hn:(ak ts p).1= "number"
  ·rw [if_pos hn] at q;rw [hn];obtain ⟨a1,a2⟩:=tk (Q':=Q) q (λ_ _ h=>h);exact bS ⟨_,rfl,x,dx,_,rfl,g1 _ _ hx,aw lw p (4) (4),x,lw,ts,p,"number",rfl,hR.same g1,a1,a2⟩
  ·rw [if_neg hn] at q;obtain ⟨a1,a2⟩:=tk (Q':=Q) q (λ_ _ h=>h);exact bt (aM hn) ⟨_,rfl,x,dx,_,rfl,g1 _ _ hx,aw lw p (4) (4),x,lw,ts,p,"text",rfl,hR.same g1,a1,a2⟩
theorem w8 {ts:List Tk} {p:Nat} (h:∀ t∈ts,t.1= "word" ->∃ s,t.2=Sum.inr s) (e:(ak ts p).1= "word"):∃ s:Str,(ak ts p).2=Sum.inr s:=by
 unfold ak at e ⊢
 cases hp:ts[p]? with
 | none =>
  rw [hp] at e;exact absurd (show (Str.ofString "end")=Str.ofString "word" from e) (4)
 | some t =>
  rw [hp] at e;exact h t (aAs hp) e
theorem Rdd.word {K:W.Frag} {ad:Ads} {x lw:Addr} {ts:List Tk} {H H1:Hp} {Q:VK} {E:XK} {p:Nat} {f:Str->Nat->PR} (q:Rdd K ad x lw ts H Q E (fW ts p f)) (b:But x H H1) (h:∀ t∈ts,t.1= "word" ->∃ s,t.2=Sum.inr s) :
  (∃ s,(ak ts p).1= "word" /\kV (ak ts p).2=.str s/\Rdd K ad x lw ts H Q E (f s (p+1)))\/(¬ (ak ts p).1= "word" /\E (.ref ad.BadText) none H1):=by
 by_cases e:(ak ts p).1= "word"
 ·obtain ⟨s,hs⟩:=w8 h e;refine .inl ⟨s,e,by rw [hs];rfl,?_⟩;unfold fW at q
  generalize ak ts p=t at q e hs
  obtain ⟨w,kk⟩:=t;obtain rfl:kk=Sum.inr s:=hs;obtain rfl:w= "word" :=e;dsimp only at q;rw [if_pos rfl] at q;exact q
 ·refine .inr ⟨e,?_⟩;unfold fW at q
  generalize ak ts p=t at q e
  obtain ⟨w,kk⟩:=t
  cases kk with
  | inl i=>exact q H1 b
  | inr s =>
   dsimp only at q;rw [if_neg e] at q;exact q H1 b
def IL (K:W.Frag) (ad:Ads) (n:Nat):Sp:=λvs H Q E=>∃ (x lw:Addr) (ts:List Tk) (p:Nat) (s:Str),vs=[.ref x,.str s]/\RowAt K ad.WordRow H x lw ts p/\Rdd K ad x lw ts H Q E (kj ts (prs ts n) s p)
theorem oS (T:Tx K mg ad) (n:Nat) {f fp:Addr} {fd fdp:FuncData} (F:Gn K mg "pair_read" gJ ["row","sort"] f fd) (JG:Gn K mg "part_read" bU ["row","sort"] fp fdp)
  (JS:FnOk P w K mg base (CXE P w) (n+4) fp fdp ["row","sort"] (lU K ad n)):FnOk P w K mg base (CXE P w) (n+4+1) f fd ["row","sort"] (IL K ad n):=by
 obtain ⟨f2,d2,JB⟩:=T.m_WordRow_take_mark;have JE:=aH (P:=P) (w:=w) (base:=base) T JB;obtain ⟨f3,d3,JD⟩:=T.m_WordRow_take;have JJ:=bj (P:=P) (w:=w) (base:=base) T JD;refine F.F.okW jp (λvs H Q E h=>?_) (λcdv A outer s H vs Q E hr h=>?_)
 ·obtain ⟨x,lw,ts,p,s,rfl,_⟩:=h
  rfl
 obtain ⟨x,lw,ts,p,s,rfl,hR,q⟩:=h;refine ⟨_,(6,(23,jp.nd,pe_meth (pv 0) T.c_WordRow JD.meth JJ (13) JD.b .nil (wing_on rfl rfl rfl) (@pa1 _ _ _ pe_str (1))),(6,(24),(5,(8,@pe_tupPK _ K _ _ _ _ rfl (12,pv 2,(22,JS,JG.m,JG.F.kp,JG.b,@pa2 _ _ _ _ _ (pv 0) (pv 1) (1) (1))))))),?_⟩;obtain ⟨dx,ws,hx,hl0,hp0,hlx0,h5⟩:=id hR;rcases q.word (But.refl _ _) h5.2 with ⟨wd,ht,e2,q1⟩ | ⟨hn,he⟩
 rotate_left
 ·exact ⟨_,rfl,x,dx,_,rfl,hx,aw lw p (4) (4),x,lw,ts,p,"word",rfl,hR,λh=>absurd h hn,λ_=>he⟩
 refine ⟨_,rfl,x,dx,_,rfl,hx,aw lw p (4) (4),x,lw,ts,p,"word",rfl,hR,λ_ H1 b1 R1=>?_,λh=>absurd ht h⟩;rw [e2];obtain ⟨dx1,ws1,hx1,_⟩:=id R1;refine ⟨_,rfl,x,dx1,_,rfl,hx1,aw lw _ (4) (4),x,lw,ts,p+1,":",rfl,R1,λhcm H2 b2 R2=>?_,λhcm H2 g2=>?_⟩
 ·rw [aB hcm] at q1;refine ⟨_,rfl,_,rfl,_,rfl,x,lw,ts,p+1+1,s,rfl,R2,q1.step (b1.trans b2) λv p4 y H4 b4 R4 hv q4=>?_⟩;exact ⟨[.str wd,v],.cons .str (.cons hv .nil),sz2,λy5 H5 g5 hv5=>q4 y5 H5 (((b1.trans b2).trans b4).trans (But.same g5)) (R4.same g5) hv5⟩
 ·rw [cA hcm] at q1;exact q1 H2 (b1.trans (But.same g2))
theorem bT {K:W.Frag} {H:Hp}:∀ {ws:List Str} {xs:List V},IsPs K H (ws.map Dt.str) xs->xs=ws.map V.str
 | [],xs,h=>by cases h;rfl
 | w :: ws,xs,h=>by
  cases h with
  | cons h1 h2=>rw [bC h1,bT h2];rfl
theorem jP {s w:Str} {fs:List Str} (hf:aP s w=some fs):fs.length<=6:=by
 unfold aP at hf;have key:∀ (F:List (Str×List Str)) (w:Str) (l:List Str),(∀ q∈F,q.2.length<=6)->dz w F=some l->l.length<=6:=by
  intro F
  induction F with
  | nil=>intro w l _ h;cases h
  | cons a F ih =>
   intro w l h1 h2;simp only [dz] at h2
   split at h2
   ·cases h2;exact h1 a aAh
   ·exact ih w l (λq hq=>h1 q (aAf _ hq)) h2
 split at hf
 ·exact key wU _ _ (4) hf
 split at hf
 ·exact key wV _ _ (4) hf
 ·exact key pieceF _ _ (4) hf
theorem w9 (a:Dt) (l:List Dt):L2.uJ (a :: l) (some 1) none=l:=by
 unfold L2.uJ HT.sIx;simp
theorem Rdd.steq {K:W.Frag} {ad:Ads} {x lw:Addr} {ts:List Tk} {H H3:Hp} {Q Q':VK} {E:XK} {r:PR} {f:Dt->Nat->PR} (q:Rdd K ad x lw ts H Q E (r.bind f)) (b:But x H H3)
  (k:∀ v p y H4,r=.ok v p->But x H3 H4->RowAt K ad.WordRow H4 x lw ts p->IsP K H4 v y->Rdd K ad x lw ts H Q E (f v p)->Q' y H4):Rdd K ad x lw ts H3 Q' E r:=by
 cases r with
 | ok v p=>exact λy H4 b4 hR hv=>k v p y H4 rfl b4 hR hv q
 | err=>exact λH4 b4=>q H4 (b.trans b4)
 | out=>exact q
theorem gX {ts:List Tk} {rd:Nat->PR} {cl:Str}:∀ (m p:Nat) (fs:List Dt) {v:Dt} {q:Nat},cT ts rd cl m p fs=.ok v q->∃ l,v=.tup l/\l.length+1<=fs.length+m
 | 0,_,_,_,_,h=>by cases h
 | m+1,p,fs,v,q,h=>by
  simp only [cT] at h
  split at h
  ·cases h
   exact ⟨fs,rfl,(3)⟩
  have key:∀ (r:PR),(r.bind λv q=>cT ts rd cl m q (fs++[v]))=.ok v q->∃ l,v=.tup l/\l.length+1<=fs.length+(m+1):=by
   intro r hr
   cases r with
   | ok v' p' =>
    obtain ⟨l,e,hl⟩:=gX m p' (fs++[v']) hr;rw [aAc,aA2] at hl;exact ⟨l,e,(3)⟩
   | err=>cases hr
   | out=>cases hr
  split at h
  ·unfold dU at h
   split at h
   ·exact key _ h
   ·cases h
  ·exact key _ h
theorem nG {ts:List Tk} {rd:Str->Nat->PR}:∀ (fs:List Str) (p:Nat) (gs:List Dt) {v:Dt} {q:Nat},cU ts rd fs p gs=.ok v q->∃ l,v=.tup (gs++l)/\l.length=fs.length
 | [],p,gs,v,q,h=>by
  simp only [cU,dU] at h
  split at h
  ·cases h
   exact ⟨[],by rw [aAJ],rfl⟩
  ·cases h
 | s :: fs,p,gs,v,q,h=>by
  simp only [cU] at h;have key:∀ (r:PR),(r.bind λv q=>cU ts rd fs q (gs++[v]))=.ok v q->∃ l,v=.tup (gs++l)/\l.length=fs.length+1:=by
   intro r hr
   cases r with
   | ok v' p' =>
    obtain ⟨l,e,hl⟩:=nG fs p' (gs++[v']) hr;exact ⟨v' :: l,by rw [e,aAD];rfl,by rw [aAb,hl]⟩
   | err=>cases hr
   | out=>cases hr
  split at h
  ·unfold dU at h
   split at h
   ·exact key _ h
   ·cases h
  ·exact key _ h
theorem u5 {ts:List Tk} {rd:Str->Nat->PR} {s w:Str} {p:Nat} {v:Dt} {q:Nat} (h:ie ts rd s w p=.ok v q):∃ fs l,aP s w=some fs/\v=.tup (.str w :: l)/\l.length=fs.length:=by
 unfold ie at h
 cases hf:aP s w with
 | none=>rw [hf] at h;cases h
 | some fs =>
  rw [hf] at h;dsimp only at h;unfold dU at h
  split at h
  ·obtain ⟨l,e,hl⟩:=nG _ _ _ h;exact ⟨fs,l,rfl,e,hl⟩
  ·cases h
theorem sC:∀ w fs,aP "kind" w=some fs->(w= "list" ->fs.length=2)/\(w= "rows" ->fs.length=3):=by
 intro w fs h
 constructor
 ·rintro rfl;rw [show aP "kind" "list" = some [("number" : Str),"kind"] by decide +kernel] at h
  cases h
  rfl
 ·rintro rfl;rw [show aP "kind" "rows" = some [("word" : Str),"number","kind"] by decide +kernel] at h
  cases h
  rfl
theorem sD (z:Str):∀ ws:List Str,inV (V.str z) (ws.map V.str)=decide (z∈ws)
 | []=>by simp [inV]
 | w :: ws=>by
  have ih:=sD z ws;have e:inV (V.str z) ((w :: ws).map V.str)=(eqV (V.str w) (V.str z) || inV (V.str z) (ws.map V.str)):=rfl;have e2:eqV (V.str w) (V.str z)=decide (w=z):=rfl;rw [e,ih,e2,aA1];simp only [Bool.or_eq_true,decide_eq_true_eq,aAn];exact ⟨λh=>h.imp Eq.symm id,λh=>h.imp Eq.symm id⟩
def i4 (K:W.Frag) (_:Ads):Sp:=λvs H Q _=>∃ (w:Str) (ds:List Dt) (x:V),vs=[.str w,x]/\IsP K H (.tup ds) x/\(w= "list" ->ds.length=2)/\(w= "rows" ->ds.length=3)/\∀ v H',Same H H'->IsP K H' (.tup (exL w ds)) v->Q v H'
theorem eD (T:Tx K mg ad) {f:Addr} {fd:FuncData} (F:Gn K mg "most_exchanged" cJ ["word","parts"] f fd):FnOk P w K mg base CX0 1 f fd ["word","parts"] (i4 K ad):=by
 refine F.F.ok jl (λvs H Q E h=>?_) (λcdv A outer s H vs Q E hr h=>?_)
 ·obtain ⟨w,ds,x,rfl,_⟩:=h
  rfl
 obtain ⟨w,ds,x,rfl,hx,h2,h3,q⟩:=h;refine ⟨_,(6,(11,pt_cmpR (fv (K:=K) rfl) (pv 0) (@pe_tupPK _ K _ _ _ _ rfl (12,pe_str,pe_str)) rfl,(5,(8,(15,lv (K:=K) rfl,pe_slice (eW (K:=K) rfl) (pv 1) cp (po_some (@pe_un _ _ _ _ _ _ un_neg pe_int)),@pe_tupPK _ K _ _ _ _ rfl (12,@pe_ix _ _ _ _ _ _ _ (iT (K:=K) rfl) (pv 1) (@pe_un _ _ _ _ _ _ un_neg pe_int) (λ_ _=>rfl),@pe_ix _ _ _ _ _ _ _ (iT (K:=K) rfl) (pv 1) (@pe_un _ _ _ _ _ _ un_neg pe_int) (λ_ _=>rfl)))))),(5,(8,pv 1))),?_⟩;refine ⟨_,rfl,[.str "list",.str "rows"],.cons .str (.cons .str .nil),sz2,λy H1 g1 hy=>?_⟩;obtain ⟨a,xs,rfl,ha,_,ra⟩:=hy.unref;obtain rfl:=bT (ws:=["list","rows"]) ra;refine ⟨a,_,rfl,.inr ha,rfl,rfl,_,rfl,?_⟩;show if (inV (V.str w) (([("list" : Str),"rows"]).map V.str))=true then _ else _
 rw [sD];have hx1:=hx.same g1
 by_cases hw:w= "list" \/w= "rows"
 rotate_left
 ·rw [decide_eq_false (by simpa using hw)];unfold exL at q;rw [if_neg hw] at q;exact ce ⟨_,rfl,q x H1 g1 hx1⟩
 rw [decide_eq_true (by simpa using hw)];unfold exL at q;rw [if_pos hw] at q;refine df ⟨_,rfl,_,rfl,_,rfl,ds,hx1,λv2 H2 g2 hv2=>?_⟩;have hx2:=hx1.same g2;obtain ⟨pre,y,z,e1,e2,e3,e4,e5⟩:∃ pre y z,atI ds (-1)=some z/\atI ds (-2)=some y/\L2.uJ ds none (some (-2))=pre/\pre.length<=1/\ex2 ds=pre++[z,y]:=by
  rcases hw with e | e
  ·match ds,h2 e with
   | [a,b],_=>exact ⟨[],a,b,rfl,rfl,rfl,by decide,rfl⟩
  ·match ds,h3 e with
   | [a,b,c],_=>exact ⟨[a],b,c,rfl,rfl,rfl,aAo _,rfl⟩
 rw [e5] at q;rw [e3] at hv2;exact ⟨_,rfl,_,rfl,ds,_,z,hx2,rfl,e1,λv3 hv3=>⟨_,rfl,_,rfl,ds,_,y,hx2,rfl,e2,λv4 hv4=>⟨[z,y],.cons hv3 (.cons hv4 .nil),sz2,λv5 H3 g3 hv5=>⟨pre,[z,y],hv2.same g3,hv5,cf (by simp only [aAb,aAl];lia),λv6 H4 g4 hv6=>q v6 H4 (((g1.trans g2).trans g3).trans g4) hv6⟩⟩⟩⟩
def IM (K:W.Frag) (ad:Ads) (n:Nat):Sp:=λvs H Q E=>∃ (x lw:Addr) (ts:List Tk) (p:Nat),vs=[.ref x]/\RowAt K ad.WordRow H x lw ts p/\Rdd K ad x lw ts H Q E (nE ts (prs ts n) p)
theorem oU (T:Tx K mg ad) (n:Nat) {f ff fl:Addr} {fd fdf fdl:FuncData} (F:Gn K mg "kind_read" gK ["row"] f fd) (JN:Gn K mg "form_read" cZ ["row","sort","word"] ff fdf) (JH:Gn K mg "list_read" cx ["row","sort","closing"] fl fdl)
  (Kb:FnOk P w K mg base (CXE P w) (n+4+1) ff fdf ["row","sort","word"] (wY K ad n)) (JR:FnOk P w K mg base (CXE P w) (n+4+1) fl fdl ["row","sort","closing"] (tQ K ad n)):FnOk P w K mg base (CXE P w) (n+4+2) f fd ["row"] (IM K ad n):=by
 obtain ⟨f2,d2,JB⟩:=T.m_WordRow_take_mark;have JE:=aH (P:=P) (w:=w) (base:=base) T JB;obtain ⟨f3,d3,JD⟩:=T.m_WordRow_take;have JJ:=bj (P:=P) (w:=w) (base:=base) T JD;obtain ⟨f4,d4,JL⟩:=T.at_least_one;have Km:=fV (P:=P) (w:=w) (base:=base) T JL;obtain ⟨f5,d5,J7⟩:=T.most_exchanged;have Ku:=eD (P:=P) (w:=w) (base:=base) T J7;refine F.F.okW fM (λvs H Q E h=>?_) (λcdv A outer s H vs Q E hr h=>?_)
 ·obtain ⟨x,lw,ts,p,rfl,_⟩:=h
  rfl
 obtain ⟨x,lw,ts,p,rfl,hR,q⟩:=h;refine ⟨_,(6,(20,fM.nd,pe_meth (pv 0) T.c_WordRow JD.meth JJ (13) JD.b .nil (wing_on rfl rfl rfl) (@pa1 _ _ _ pe_str (1))),(6,(11,pt_cmpR op_eq (pv 1) pe_str (nomark _),(6,(24),(5,(8,@pe_tupPK _ K _ _ _ _ rfl (12,pv 1,(22,Km,JL.m,JL.F.kp,JL.b,(9,(22,JR,JH.m,JH.F.kp,JH.b,@pa3 _ _ _ _ _ _ _ (pv 0) pe_str pe_str (1) (1) (1))))))))),(6,(11,pt_cmpR op_eq (pv 1) pe_str (nomark _),(6,(24),(5,(8,@pe_tupPK _ K _ _ _ _ rfl (12,pv 1,(22,JR,JH.m,JH.F.kp,JH.b,@pa3 _ _ _ _ _ _ _ (pv 0) pe_str pe_str (1) (1) (1))))))),(6,(23,fM.nd,(22,Kb,JN.m,JN.F.kp,JN.b,@pa3 _ _ _ _ _ _ _ (pv 0) pe_str (pv 1) (1) (1) (1))),(5,(8,(15,lv (K:=K) rfl,@pe_tupPK _ K _ _ _ _ rfl (9,pv 1),(10,J7,Ku,(12,pv 1,pe_slice (eW (K:=K) rfl) (pv 2) (po_some pe_int) cp))))))))),?_⟩;obtain ⟨dx,ws,hx,hl0,hp0,hlx0,h5⟩:=id hR;rcases q.word (But.refl _ _) h5.2 with ⟨wd,ht,e2,q1⟩ | ⟨hn,he⟩
 rotate_left
 ·exact ⟨_,rfl,x,dx,_,rfl,hx,aw lw p (4) (4),x,lw,ts,p,"word",rfl,hR,λh=>absurd h hn,λ_=>he⟩
 refine ⟨_,rfl,x,dx,_,rfl,hx,aw lw p (4) (4),x,lw,ts,p,"word",rfl,hR,λ_ H1 b1 R1=>?_,λh=>absurd ht h⟩;rw [e2];obtain ⟨dx1,ws1,hx1,_⟩:=id R1;refine ⟨_,rfl,rfl,_,rfl,?_⟩
 by_cases h1:wd= "choice"
 ·rw [if_pos h1] at q1;subst h1;refine bS ⟨_,rfl,x,dx1,_,rfl,hx1,aw lw _ (4) (4),x,lw,ts,p+1,"(",rfl,R1,λhcm H2 b2 R2=>?_,λhcm H2 g2=>?_⟩
  rotate_left
  ·rw [cA hcm] at q1;exact q1 H2 (b1.trans (But.same g2))
  rw [aB hcm] at q1;refine ⟨_,rfl,_,rfl,x,lw,ts,p+1+1,"word",")",rfl,R2,q1.steq (b1.trans b2) λv p4 y H4 er b4 R4 hv q4=>?_⟩;obtain ⟨l,rfl,hl⟩:=gX _ _ _ er;refine ⟨l,y,rfl,hv,by have:=h5.1;simp only [aAl] at hl;lia,λhne=>?_,λhe=>?_⟩
  ·cases l with
   | nil=>exact absurd rfl hne
   | cons d0 l=>exact ⟨[.str "choice",.tup (d0 :: l)],.cons .str (.cons hv .nil),sz2,λy5 H5 g5 hv5=>q4 y5 H5 (((b1.trans b2).trans b4).trans (But.same g5)) (R4.same g5) hv5⟩
  ·subst he;exact q4 H4 ((b1.trans b2).trans b4)
 rw [if_neg h1] at q1;refine bt (aM h1) ⟨_,rfl,rfl,_,rfl,?_⟩
 by_cases h2:wd= "record"
 ·rw [if_pos h2] at q1;subst h2;refine bS ⟨_,rfl,x,dx1,_,rfl,hx1,aw lw _ (4) (4),x,lw,ts,p+1,"(",rfl,R1,λhcm H2 b2 R2=>?_,λhcm H2 g2=>?_⟩
  rotate_left
  ·rw [cA hcm] at q1;exact q1 H2 (b1.trans (But.same g2))
  rw [aB hcm] at q1;refine ⟨_,rfl,_,rfl,x,lw,ts,p+1+1,"field",")",rfl,R2,q1.step (b1.trans b2) λv p4 y H4 b4 R4 hv q4=>?_⟩;exact ⟨[.str "record",v],.cons .str (.cons hv .nil),sz2,λy5 H5 g5 hv5=>q4 y5 H5 (((b1.trans b2).trans b4).trans (But.same g5)) (R4.same g5) hv5⟩
 rw [if_neg h2] at q1;refine bt (aM h2) ⟨_,rfl,_,rfl,x,lw,ts,p+1,"kind",wd,rfl,R1,q1.steq b1 λv p4 y H4 er b4 R4 hv q4=>?_⟩;obtain ⟨fs,l,hf,rfl,hl⟩:=u5 er;have fl:=jP hf;obtain ⟨k2,k3⟩:=sC _ _ hf;refine ⟨_,rfl,[.str wd],.cons .str .nil,sz1,λy5 H5 g5 hv5=>?_⟩;refine ⟨_,rfl,_,rfl,_,rfl,_,hv.same g5,λy6 H6 g6 hv6=>?_⟩;rw [w9] at hv6;refine ⟨wd,l,y6,rfl,hv6,(λe=>by rw [hl,k2 e]),(λe=>by rw [hl,k3 e]),λy7 H7 g7 hv7=>?_⟩;have el:(exL wd l).length=l.length:=by
  unfold exL
  split
  ·unfold ex2
   split <;> rfl
  ·rfl
 have g:=(g5.trans g6).trans g7;refine ⟨[.str wd],exL wd l,(hv5.same g6).same g7,hv7,cf (by rw [el];simp only [aAb,aAl];lia),λy8 H8 g8 hv8=>?_⟩;exact q4 y8 H8 ((b1.trans b4).trans (But.same (g.trans g8))) (R4.same (g.trans g8)) hv8
def IN (K:W.Frag) (ad:Ads) (n:Nat):Sp:=λvs H Q E=>∃ (x lw:Addr) (ts:List Tk) (p:Nat),vs=[.ref x]/\RowAt K ad.WordRow H x lw ts p/\Rdd K ad x lw ts H Q E (nF ts (prs ts n) p)
theorem oV (T:Tx K mg ad) (n:Nat) {f ff fl:Addr} {fd fdf fdl:FuncData} (F:Gn K mg "turn_read" gL ["row"] f fd) (JN:Gn K mg "form_read" cZ ["row","sort","word"] ff fdf) (JH:Gn K mg "list_read" cx ["row","sort","closing"] fl fdl)
  (Kb:FnOk P w K mg base (CXE P w) (n+4+1) ff fdf ["row","sort","word"] (wY K ad n)) (JR:FnOk P w K mg base (CXE P w) (n+4+1) fl fdl ["row","sort","closing"] (tQ K ad n)):FnOk P w K mg base (CXE P w) (n+4+2) f fd ["row"] (IN K ad n):=by
 obtain ⟨f2,d2,JB⟩:=T.m_WordRow_take_mark;have JE:=aH (P:=P) (w:=w) (base:=base) T JB;obtain ⟨f3,d3,JD⟩:=T.m_WordRow_take;have JJ:=bj (P:=P) (w:=w) (base:=base) T JD;obtain ⟨f4,d4,JL⟩:=T.at_least_one;have Km:=fV (P:=P) (w:=w) (base:=base) T JL;refine F.F.okW fN (λvs H Q E h=>?_) (λcdv A outer s H vs Q E hr h=>?_)
 ·obtain ⟨x,lw,ts,p,rfl,_⟩:=h
  rfl
 obtain ⟨x,lw,ts,p,rfl,hR,q⟩:=h;refine ⟨_,(6,(20,fN.nd,pe_meth (pv 0) T.c_WordRow JD.meth JJ (13) JD.b .nil (wing_on rfl rfl rfl) (@pa1 _ _ _ pe_str (1))),(6,(11,pt_cmpR op_ne (pv 1) pe_str (nomark _),(5,(8,(22,Kb,JN.m,JN.F.kp,JN.b,@pa3 _ _ _ _ _ _ _ (pv 0) pe_str (pv 1) (1) (1) (1))))),(6,(24),(6,(23,fN.nd,(22,Km,JL.m,JL.F.kp,JL.b,(9,(22,JR,JH.m,JH.F.kp,JH.b,@pa3 _ _ _ _ _ _ _ (pv 0) pe_str pe_str (1) (1) (1))))),(5,(8,@pe_tupPK _ K _ _ _ _ rfl (@pa3 _ _ _ _ _ _ _ (pv 1) (pv 2) (22,Km,JL.m,JL.F.kp,JL.b,(9,(22,JR,JH.m,JH.F.kp,JH.b,@pa3 _ _ _ _ _ _ _ (pv 0) pe_str pe_str (1) (1) (1)))) (1) (1) (1)))))))),?_⟩;obtain ⟨dx,ws,hx,hl0,hp0,hlx0,h5⟩:=id hR;rcases q.word (But.refl _ _) h5.2 with ⟨wd,ht,e2,q1⟩ | ⟨hn,he⟩
 rotate_left
 ·exact ⟨_,rfl,x,dx,_,rfl,hx,aw lw p (4) (4),x,lw,ts,p,"word",rfl,hR,λh=>absurd h hn,λ_=>he⟩
 refine ⟨_,rfl,x,dx,_,rfl,hx,aw lw p (4) (4),x,lw,ts,p,"word",rfl,hR,λ_ H1 b1 R1=>?_,λh=>absurd ht h⟩;rw [e2];obtain ⟨dx1,ws1,hx1,_⟩:=id R1
 by_cases hw:wd= "words"
 rotate_left
 ·rw [if_neg hw] at q1;refine ⟨_,rfl,rfl,_,rfl,wC (aM hw) ⟨_,rfl,_,rfl,x,lw,ts,p+1,"turn",wd,rfl,R1,?_⟩⟩;exact Rdd.but q1 b1
 rw [if_pos hw] at q1;subst hw;refine ⟨_,rfl,rfl,_,rfl,qp ⟨_,rfl,x,dx1,_,rfl,hx1,aw lw _ (4) (4),x,lw,ts,p+1,"(",rfl,R1,λhcm H2 b2 R2=>?_,λhcm H2 g2=>?_⟩⟩
 rotate_left
 ·rw [cA hcm] at q1;exact q1 H2 (b1.trans (But.same g2))
 rw [aB hcm] at q1;refine ⟨_,rfl,x,lw,ts,p+1+1,"word",";",rfl,R2,q1.steq (b1.trans b2) λv p4 y H4 er b4 R4 hv q4=>?_⟩;obtain ⟨l,rfl,hl⟩:=gX _ _ _ er;have b4':=(b1.trans b2).trans b4;refine ⟨l,y,rfl,hv,by have:=h5.1;simp only [aAl] at hl;lia,λhne=>?_,λhe=>?_⟩
 rotate_left
 ·subst he;exact q4 H4 b4'
 cases l with
 | nil=>exact absurd rfl hne
 | cons d0 l =>
  dsimp only at q4;refine ⟨_,rfl,_,rfl,_,rfl,x,lw,ts,p4,"way",")",rfl,R4,q4.steq b4' λv2 p5 y2 H5 er2 b5 R5 hv2 q5=>?_⟩;obtain ⟨l2,rfl,hl2⟩:=gX _ _ _ er2;have hv5:IsP K H5 (.tup (d0 :: l)) y:=oy R4.mut b5 hv;refine ⟨l2,y2,rfl,hv2,by have:=h5.1;simp only [aAl] at hl2;lia,λhne2=>?_,λhe2=>?_⟩
  ·cases l2 with
   | nil=>exact absurd rfl hne2
   | cons d1 l2=>exact ⟨[.str "words",.tup (d0 :: l),.tup (d1 :: l2)],.cons .str (.cons hv5 (.cons hv2 .nil)),sz3,λy6 H6 g6 hv6=>q5 y6 H6 ((b4'.trans b5).trans (But.same g6)) (R5.same g6) hv6⟩
  ·subst he2;exact q5 H5 (b4'.trans b5)
def IP (K:W.Frag) (ad:Ads):Sp:=λvs H Q E=>∃ (x lw:Addr) (ts:List Tk) (p:Nat),vs=[.ref x]/\RowAt K ad.WordRow H x lw ts p/\Rdd K ad x lw ts H Q E (i0 ts p)
theorem oW (T:Tx K mg ad) {f:Addr} {fd:FuncData} (F:Gn K mg "path_read" gM ["row"] f fd):FnOk P w K mg base (CXE P w) 4 f fd ["row"] (IP K ad):=by
 obtain ⟨f1,d1,JI⟩:=T.m_WordRow_comes;have JV:=bV (P:=P) (w:=w) (base:=base) T JI;obtain ⟨f2,d2,JB⟩:=T.m_WordRow_take_mark;have JE:=aH (P:=P) (w:=w) (base:=base) T JB;obtain ⟨f3,d3,JD⟩:=T.m_WordRow_take;have JJ:=bj (P:=P) (w:=w) (base:=base) T JD;obtain ⟨f4,d4,JF⟩:=T.m_WordRow_coming;have JM:=bu (P:=P) (w:=w) (base:=base) T JF;refine F.F.okW jq (λvs H Q E h=>?_) (λcdv A outer s H vs Q E hr h=>?_)
 ·obtain ⟨x,lw,ts,p,rfl,_⟩:=h
  rfl
 obtain ⟨x,lw,ts,p,rfl,hR,q⟩:=h;refine ⟨_,(@pss_cons _ _ _ _ _ (24) (@pss_cons _ _ _ _ _ (11,PW.pt (@j6 _ _ _ _ _ _ _ (pt_cmpR op_ne (@pe_ix _ _ _ _ _ _ _ (ix_tupDN (K:=K) rfl) (pe_meth (pv 0) T.c_WordRow JF.meth JM (13) JF.b .nil gd (9,pe_int)) pe_int (λ_ _=>rfl)) pe_str (nomark _)) (@ii _ _ _ _ (pt_cmpR (tq (K:=K) rfl hr.units) (pe_meth (pv 0) T.c_WordRow JF.meth JM (13) JF.b .nil gd (9,pe_int)) (@pe_tupPK _ K _ _ _ _ rfl (12,pe_str,pe_str)) (nomark _)))),(5,(8,@pe_tupPK _ K _ _ _ _ rfl pa_nil))) (@pss_cons _ _ _ _ _ (20,jq.nd,@pe_lst _ _ _ _ (9,pe_meth (pv 0) T.c_WordRow JD.meth JJ (13) JD.b .nil (wing_on rfl rfl rfl) (@pa1 _ _ _ pe_str (1)))) (@pss_cons _ _ _ _ _ (qh λok=>iJ (gf ok.frames rfl ok.frf) (@pt_val _ _ _ (pe_meth (pv 0) T.c_WordRow JI.meth JV (13) JI.b .nil gd (@pa1 _ _ _ pe_str (1))) (by intro _;rfl))
    (6,(24),(5,@ps_expr _ _ _ _ (pe_bm PySem.F.plainAttrs_list PySem.F.slot_list_append PySem.F.type_list_append bL (pv 1) (9,pe_meth (pv 0) T.c_WordRow JD.meth JJ (13) JD.b .nil (wing_on rfl rfl rfl) (@pa1 _ _ _ pe_str (1)))) (1)))) (5,(8,pe_callTy (aU (K:=K) rfl) rfl T.z_tuple boot_tuple (9,pv 1))))))),?_⟩
 obtain ⟨dx,ws,hx,hl0,hp0,hlx0,h5⟩:=id hR;unfold i0 at q;refine ⟨_,rfl,x,dx,_,rfl,hx,aw lw p (4) (4),x,lw,ts,p,"/",rfl,hR,λhcm H1 b1 R1=>?_,λhcm H1 g1=>?_⟩
 rotate_left
 ·rw [cA hcm] at q;exact q H1 (But.same g1)
 rw [aB hcm] at q;obtain ⟨dx1,ws1,hx1,hl1,hp1,_⟩:=id R1;refine ⟨_,rfl,x,dx1,_,rfl,hx1,aw lw _ (4) (4),x,lw,ts,p+1,0,rfl,R1,λv hv=>?_⟩;rw [aBR] at hv;have hv':IsD K H1 (.tup [.str (ak ts (p+1)).1,kDt (ak ts (p+1)).2]) v:=hv;refine ⟨_,_,_,hv',rfl,at0 _ _,λv1 hv1=>?_⟩;obtain rfl:v1=.str (ak ts (p+1)).1:=by cases hv1;rfl
 refine ⟨rfl,_,rfl,?_⟩;have none':∀ {H2:Hp},Same H1 H2->(¬ (ak ts (p+1)).1= "word" \/ak ts (p+1+1)=aN "(")->∃ l,IsPs K H2 l ([]:List V)/\([]:List V).length<=sizeLine/\∀ v H',Same H2 H'->IsP K H' (.tup l) v->Q v H':=λ{H2} g2 hor=>by
  rw [if_pos hor] at q;exact ⟨[],.nil,(by show 0<=sizeLine;decide),λv H' g hv=>q v H' (((b1.trans (But.same g2))).trans (But.same g)) ((R1.same g2).same g) hv⟩
 by_cases hw:(ak ts (p+1)).1= "word"
 rotate_left
 ·obtain ⟨l,a1,a2,a3⟩:=none' (Same.refl H1) (.inl hw);exact wC (aM hw) (df ⟨l,a1,a2,a3⟩)
 rw [hw];refine qp ⟨_,rfl,x,dx1,_,rfl,hx1,aw lw _ (4) (4),x,lw,ts,p+1,1,rfl,R1,λv2 hv2=>?_⟩;refine ⟨[.str "mark",.str "("],.cons .str (.cons .str .nil),sz2,λv3 H2 g2 hv3=>?_⟩;refine ⟨_,_,hv2.same g2,hv3.d,sA _,_,rfl,?_⟩;rw [show eqD (tkD (ak ts (p+1+1))) (.tup [.str "mark",.str "("])=decide (ak ts (p+1+1)=aN "(") from sy _ _ (Sum.inr "(")]
 by_cases hb:ak ts (p+1+1)=aN "("
 ·rw [decide_eq_true hb];obtain ⟨l,a1,a2,a3⟩:=none' g2 (.inr hb);exact df ⟨l,a1,a2,a3⟩
 rw [decide_eq_false hb];refine ce ?_;rw [if_neg (λh=>h.elim (λh=>h hw) hb)] at q;have R2:=R1.same g2;have b2:=b1.trans (But.same g2 (r:=x));rcases q.word b2 h5.2 with ⟨wd,ht,e2,q1⟩ | ⟨hn,he⟩
 rotate_left
 ·exact absurd hw hn
 refine ⟨_,rfl,x,dx1,_,rfl,g2 _ _ hx1,aw lw _ (4) (4),x,lw,ts,p+1,"word",rfl,R2,λ_ H3 b3 R3=>?_,λh=>absurd ht h⟩;rw [e2];refine ⟨sz1,λl hl=>?_⟩;have b3':=b2.trans b3;have hlH:H l=none:=by
  cases c:H l with
  | none=>rfl
  | some o =>
   by_cases e:l=x
   ·subst e;obtain ⟨dx3,_,hx3,_⟩:=R3;rw [hx3] at hl
    cases hl
   ·rw [b3' _ _ e c] at hl
    cases hl
 have hxl:l≠x:=λc=>by rw [c,hx] at hlH;cases hlH
 have hwl:lw≠l:=ah hl0 hlH;refine ⟨λm σ H'=>∃ (p':Nat) (fs:List Dt) (ys:List V),But x H H'/\RowAt K ad.WordRow H' x lw ts p'/\H' l=some (.lst ys)/\IsPs K H' fs ys/\fs.length+m<=ts.length+2/\Rdd K ad x lw ts H Q E (km ts m p' fs)/\σ=[some (.ref x),some (.ref l)],
  ⟨ts.length+1,p+1+1,[.str wd],[.str wd],b3'.trans (But.same (ag hl _)),R3.same (ag hl _),aa,.cons .str .nil,(by simp only [aAb,aAl];lia),q1,rfl⟩,?_⟩
 rintro m σ H4 ⟨p',fs,ys,b4,R4,f4,hp4,hm,q4,rfl⟩
 cases m with
 | zero=>exact q4.elim
 | succ m =>
 obtain ⟨dx4,ws4,hx4,_⟩:=id R4;have ly:=hp4.length;refine ⟨_,rfl,x,dx4,_,rfl,hx4,aw lw p' (4) (4),x,lw,ts,p',"/",rfl,R4,λH5 g5=>?_⟩;have R5:=R4.same g5;have f5:=g5 _ _ f4;have hp5:=hp4.same g5;have b5:But x H H5:=b4.trans (But.same g5);simp only [km] at q4
 by_cases hc:ak ts p'=aN "/"
 ·rw [if_pos hc] at q4;rw [decide_eq_true hc];refine ⟨_,rfl,df ⟨λσ' H'=>∃ (p':Nat) (fs:List Dt) (ys:List V),But x H H'/\RowAt K ad.WordRow H' x lw ts p'/\H' l=some (.lst ys)/\IsPs K H' fs ys/\fs.length+m<=ts.length+2/\Rdd K ad x lw ts H Q E (km ts m p' fs)/\σ'=[some (.ref x),some (.ref l)],λσ' H' r=>⟨m,(3),r⟩,?_⟩⟩;refine ⟨_,rfl,x,dx4,_,rfl,g5 _ _ hx4,aw lw p' (4) (4),x,lw,ts,p',"/",rfl,R5,λ_ H6 b6 R6=>?_,λh=>absurd hc h⟩;have f6:=b6 _ _ hxl f5;have hp6:=bq R5.mut b6 hp5;have b6':=b5.trans b6;obtain ⟨dx6,ws6,hx6,_⟩:=id R6;rcases q4.word b6' h5.2 with ⟨wd',ht',e2',q5⟩ | ⟨hn,he⟩
  rotate_left
  ·exact ⟨_,rfl,.inl ⟨rfl,_,SqL.of f6⟩,_,rfl,x,dx6,_,rfl,hx6,aw lw _ (4) (4),x,lw,ts,p' + 1,"word",rfl,R6,λh=>absurd h hn,λ_=>he⟩
  refine ⟨_,rfl,.inl ⟨rfl,_,SqL.of f6⟩,_,rfl,x,dx6,_,rfl,hx6,aw lw _ (4) (4),x,lw,ts,p' + 1,"word",rfl,R6,λ_ H7 b7 R7=>?_,λh=>absurd ht' h⟩;rw [e2'];have f7:=b7 _ _ hxl f6;refine ⟨l,ys,_,rfl,rfl,f7,aAk (show ys.length < 100003 by have:=h5.1;lia) (by decide),p' + 1+1,fs++[.str wd'],ys++[.str wd'],λb o nb eb=>?_,R7.put f7 _ hwl,aa,((bq R6.mut b7 hp6).but f7 But.put).append (.cons .str .nil),by rw [aAc];simp only [aAb,aAl];lia,q5,rfl⟩;rw [ac (ah eb hlH)];exact b7 _ _ nb (b6' _ _ nb eb)
 ·rw [if_neg hc] at q4;rw [decide_eq_false hc];refine ⟨_,rfl,ce ⟨_,rfl,l,ys,_,rfl,SqL.of f5,hp5,λv H6 g6 hv=>?_⟩⟩;exact q4 v H6 (b5.trans (But.same g6)) (R5.same g6) hv
theorem oX (T:Tx K mg ad) (n:Nat) {f:Addr} {fd:FuncData} (JG:Gn K mg "part_read" bU ["row","sort"] f fd)
  (JS:FnOk P w K mg base (CXE P w) (n+4) f fd ["row","sort"] (lU K ad n)) (LJ:FnOk P w K mg base (CXE P w) (n+1+4) f fd ["row","sort"] (lU K ad (n+1))):FnOk P w K mg base (CXE P w) (n+3+4) f fd ["row","sort"] (lU K ad (n+3)):=by
 obtain ⟨f1,d1,JH⟩:=T.list_read;have JR:=oQ (P:=P) (w:=w) (base:=base) T n JH JG JS;obtain ⟨f2,d2,JN⟩:=T.form_read;have Kb:=oR (P:=P) (w:=w) (base:=base) T n JN JG JS;obtain ⟨f3,d3,Kv⟩:=T.value_read;have Lr:=mK (P:=P) (w:=w) (base:=base) T n Kv JH JR;obtain ⟨f4,d4,KA⟩:=T.pair_read;have Ly:=oS (P:=P) (w:=w) (base:=base) T (n+1) KA JG LJ;obtain ⟨f5,d5,KC⟩:=T.turn_read;have Lv:=oV (P:=P) (w:=w) (base:=base) T n KC JN JH Kb JR;obtain ⟨f6,d6,Ke⟩:=T.path_read;have K8:=oW (P:=P) (w:=w) (base:=base) T Ke;obtain ⟨f7,d7,KB⟩:=T.kind_read;have Lz:=oU (P:=P) (w:=w) (base:=base) T n KB JN JH Kb JR;obtain ⟨f8,d8,JD⟩:=T.m_WordRow_take;have JJ:=bj (P:=P) (w:=w) (base:=base) T JD;obtain ⟨a_PAIR,c_PAIR_SORTS,k_PAIR⟩:=T.PAIR_SORTS;refine JG.F.okW jo (λvs H Q E h=>?_) (λcdv A outer s H vs Q E hr h=>?_)
 ·obtain ⟨x,lw,ts,p,s,rfl,_⟩:=h
  rfl
 obtain ⟨x,lw,ts,p,s,rfl,hR,q⟩:=h;refine ⟨_,(6,(11,pt_cmpR op_eq (pv 1) pe_str (nomark _),(5,(8,(22,Lr,Kv.m,Kv.F.kp,Kv.b,@pa1 _ _ _ (pv 0) (1))))),(6,(11,pt_cmpR op_eq (pv 1) pe_str (nomark _),(5,(8,(22,Lz,KB.m,KB.F.kp,KB.b,@pa1 _ _ _ (pv 0) (1))))),(6,(11,pt_cmpR op_eq (pv 1) pe_str (nomark _),(5,(8,(22,Lv,KC.m,KC.F.kp,KC.b,@pa1 _ _ _ (pv 0) (1))))),(6,(11,pt_cmpR op_eq (pv 1) pe_str (nomark _),(5,(8,(22,Kb,JN.m,JN.F.kp,JN.b,@pa3 _ _ _ _ _ _ _ (pv 0) pe_str (pe_meth (pv 0) T.c_WordRow JD.meth JJ (13) JD.b .nil (wing_on rfl rfl rfl) (@pa1 _ _ _ pe_str (1))) (1) (1) (1))))),(6,(11,pt_cmpR op_eq (pv 1) pe_str (nomark _),(5,(8,(22,K8,Ke.m,Ke.F.kp,Ke.b,@pa1 _ _ _ (pv 0) (1))))),(6,(11,pt_cmpR op_eq (pv 1) pe_str (nomark _),(6,(23,jo.nd,(22,K8,Ke.m,Ke.F.kp,Ke.b,@pa1 _ _ _ (pv 0) (1))),(5,(8,@pe_tupPK _ K _ _ _ _ rfl (12,pv 2,(22,JS,JG.m,JG.F.kp,JG.b,@pa2 _ _ _ _ _ (pv 0) pe_str (1) (1))))))),(6,(11,pt_cmpR (Cc (K:=K) rfl) (pv 1) (iQ rfl c_PAIR_SORTS) rfl,(5,(8,(22,Ly,KA.m,KA.F.kp,KA.b,@pa2 _ _ _ _ _ (pv 0) (yl (K:=K) rfl (iQ rfl c_PAIR_SORTS) (pv 1) (λ_ _=>rfl)) (1) (1))))),(5,(8,pe_meth (pv 0) T.c_WordRow JD.meth JJ (13) JD.b .nil (wing_on rfl rfl rfl) (9,pv 1)))))))))),?_⟩;obtain ⟨dx,ws,hx,hl0,hp0,hlx0,h5⟩:=id hR;simp only [prs] at q;refine ⟨_,rfl,rfl,_,rfl,?_⟩
 by_cases h1:s= "value"
 ·rw [if_pos h1] at q;subst h1;exact bS ⟨_,rfl,x,lw,ts,p,rfl,hR,q⟩
 rw [if_neg h1] at q;refine bt (aM h1) ⟨_,rfl,rfl,_,rfl,?_⟩
 by_cases h2:s= "kind"
 ·rw [if_pos h2] at q;subst h2;exact bS ⟨_,rfl,x,lw,ts,p,rfl,hR,q⟩
 rw [if_neg h2] at q;refine bt (aM h2) ⟨_,rfl,rfl,_,rfl,?_⟩
 by_cases h3:s= "turn"
 ·rw [if_pos h3] at q;subst h3;exact bS ⟨_,rfl,x,lw,ts,p,rfl,hR,q⟩
 rw [if_neg h3] at q;refine bt (aM h3) ⟨_,rfl,rfl,_,rfl,?_⟩
 by_cases h4:s= "piece"
 ·rw [if_pos h4] at q;subst h4;refine bS ?_;rcases q.word (But.refl _ _) h5.2 with ⟨wd,ht,e2,q1⟩ | ⟨hn,he⟩
  rotate_left
  ·exact ⟨_,rfl,_,rfl,x,dx,_,rfl,hx,aw lw p (4) (4),x,lw,ts,p,"word",rfl,hR,λh=>absurd h hn,λ_=>he⟩
  refine ⟨_,rfl,_,rfl,x,dx,_,rfl,hx,aw lw p (4) (4),x,lw,ts,p,"word",rfl,hR,λ_ H1 b1 R1=>?_,λh=>absurd ht h⟩;rw [e2];exact ⟨x,lw,ts,p+1,"piece",wd,rfl,R1,Rdd.but q1 b1⟩
 rw [if_neg h4] at q;refine bt (aM h4) ⟨_,rfl,rfl,_,rfl,?_⟩
 by_cases h5':s= "path"
 ·rw [if_pos h5'] at q;subst h5';exact bS ⟨_,rfl,x,lw,ts,p,rfl,hR,q⟩
 rw [if_neg h5'] at q;refine bt (aM h5') ⟨_,rfl,rfl,_,rfl,?_⟩
 by_cases h6:s= "change"
 ·rw [if_pos h6] at q;subst h6;refine bS ⟨_,rfl,x,lw,ts,p,rfl,hR,q.step (But.refl _ _) λv p4 y H4 b4 R4 hv q4=>?_⟩;refine ⟨_,rfl,_,rfl,x,lw,ts,p4,"piece",rfl,R4,q4.step b4 λv5 p5 y5 H5 b5 R5 hv5 q5=>?_⟩;exact ⟨[v,v5],.cons (oy R4.mut b5 hv) (.cons hv5 .nil),sz2,λy6 H6 g6 hv6=>q5 y6 H6 ((b4.trans b5).trans (But.same g6)) (R5.same g6) hv6⟩
 rw [if_neg h6] at q;refine bt (aM h6) ⟨_,rfl,s,a_PAIR,tP,rfl,rfl,k_PAIR,_,rfl,?_⟩
 cases hl:gn s tP with
 | some s' =>
  rw [hl] at q;exact df ⟨_,rfl,_,rfl,s,a_PAIR,tP,s',rfl,rfl,k_PAIR,hl,x,lw,ts,p,s',rfl,hR,q⟩
 | none =>
  rw [hl] at q;refine ce ⟨_,rfl,x,dx,_,rfl,hx,aw lw p (4) (4),_,rfl,x,lw,ts,p,s,rfl,hR,λe H' b' R'=>?_,λe=>?_⟩
  ·dsimp only at q;unfold dv at q;rw [if_pos e] at q;exact q _ H' b' R' (w6 _)
  ·dsimp only at q;unfold dv at q;rw [if_neg e] at q;exact q H (But.refl _ _)
theorem lV (T:Tx K mg ad) {f:Addr} {fd:FuncData} (D:Gn K mg "part_read" bU ["row","sort"] f fd):∀ n,FnOk P w K mg base (CXE P w) (n+4) f fd ["row","sort"] (lU K ad n)
 | 0=>fn_none λvs H Q E z=>by obtain ⟨_,_,_,_,_,_,_,h⟩:=z;exact h
 | 1=>fn_none λvs H Q E z=>by obtain ⟨_,_,_,_,_,_,_,h⟩:=z;exact h
 | 2=>fn_none λvs H Q E z=>by obtain ⟨_,_,_,_,_,_,_,h⟩:=z;exact h
 | n+3=>oX T n D (lV T D n) (lV T D (n+1))
def dC (n:Nat) (s:Str) (cs:List Nat):Option Dt:=match fC cs with
 | none=>none
 | some toks=>if ic toks<=40 then (match prs (toks.map toTk) n s 0 with
  | .ok v q=>if ak (toks.map toTk) q=mI then some v else none
  | _=>none) else none
def yo (n:Nat) (s:Str) (cs:List Nat):Prop:=∀ toks,fC cs=some toks->ic toks<=40->prs (toks.map toTk) n s 0≠.out
def qI (K:W.Frag) (ad:Ads):Sp:=λvs H Q E=>∃ z s:Str,vs=[.str z,.str s]/\z.length<=100000/\yo 60 s z.cps.toList/\(∀ v,dC 60 s z.cps.toList=some v->∀ y H',Same H H'->IsP K H' v y->Q y H')/\(dC 60 s z.cps.toList=none->∀ H',Same H H'->E (.ref ad.BadText) none H')
theorem kn (T:Tx K mg ad) {f:Addr} {fd:FuncData} (F:Gn K mg "read_all" iF ["text","sort"] f fd):FnOk P w K mg base (CXE P w) 65 f fd ["text","sort"] (qI K ad):=by
 obtain ⟨f1,d1,Kw⟩:=T.m_WordRow_init;have Li:=kC (P:=P) (w:=w) (base:=base) T Kw;obtain ⟨f2,d2,JG⟩:=T.part_read;have JS:=lV (P:=P) (w:=w) (base:=base) T JG 60;obtain ⟨f3,d3,JF⟩:=T.m_WordRow_coming;have JM:=bu (P:=P) (w:=w) (base:=base) T JF;obtain ⟨c_END,s_END⟩:=T.END;refine F.F.okW gS (λvs H Q E h=>?_) (λcdv A outer s H vs Q E hr h=>?_)
 ·obtain ⟨z,s,rfl,_⟩:=h
  rfl
 obtain ⟨z,s,rfl,hz,ho,q1,q2⟩:=h;refine ⟨_,(6,(23,gS.nd,xP Kw.makes Li (13) rfl T.o_WordRow Kw.b .nil (wing_on rfl rfl rfl) (@pa1 _ _ _ (pv 0) (1))),(6,(21,3,gS.nd,(22,JS,JG.m,JG.F.kp,JG.b,(12,pv 2,pv 1))),(6,(11,pt_cmpR (iU (K:=K) rfl hr.units) (pe_meth (pv 2) T.c_WordRow JF.meth JM (13) JF.b .nil gd (9,pe_int)) (iQ rfl c_END) (nomark _),(5,ps_raiseW rfl rfl rfl rfl T.x_BadText rfl (@pa1 _ _ _ pe_str (1)))),(5,(8,pv 3))))),?_⟩;refine ⟨_,rfl,?_⟩;intro x dx nx ndx nex;have free:∀ {H':Hp},But x (upd (upd H dx (.own x)) x (.ins ad.WordRow dx [])) H'->Same H H':=λb c o e=>b c o (ah e nx) (by rw [ac (ah e nx),ac (ah e ndx)];exact e);refine ⟨x,dx,z,rfl,aa,hz,λtoks hL hB l H1 hl b1 R1=>⟨rfl,?_⟩,λh H1 g1=>q2 ?_ H1 (free (But.same g1))⟩
 ·have hno:=ho toks hL hB;refine ⟨_,rfl,_,rfl,x,l,_,0,s,rfl,R1,?_⟩;have hr':dC 60 s z.cps.toList=(match prs (toks.map toTk) 60 s 0 with
   | .ok v q=>if ak (toks.map toTk) q=mI then some v else none
   | _=>none):=by
   unfold dC;rw [hL];dsimp only;rw [if_pos hB]
  revert hr' hno
  generalize prs (toks.map toTk) 60 s 0=r
  intro hno hr'
  cases r with
  | out=>exact absurd rfl hno
  | err=>exact λH2 b2=>q2 hr' H2 (free (b1.trans b2))
  | ok v p =>
   intro y H2 b2 R2 hv;obtain ⟨dx2,ws2,hx2,_⟩:=id R2;refine ⟨_,rfl,x,dx2,_,rfl,hx2,aw l _ (4) (4),x,l,_,p,0,rfl,R2,λv3 hv3=>?_⟩;rw [aBR] at hv3;refine ⟨tkD (ak (toks.map toTk) p),tkD mI,hv3,.tup (s_END _ aAh H2) (.cons .str (.cons .str .nil)),sA _,_,rfl,?_⟩;rw [show eqD (tkD (ak (toks.map toTk) p)) (tkD mI)=decide (ak (toks.map toTk) p=mI) from sy _ _ (Sum.inr "")];dsimp only at hr'
   by_cases he:ak (toks.map toTk) p=mI
   ·rw [if_pos he] at hr';rw [decide_eq_true he];exact ce ⟨_,rfl,q1 v hr' y H2 (free (b1.trans b2)) hv⟩
   ·rw [if_neg he] at hr';rw [decide_eq_false he];exact df ⟨sz1,q2 hr' H2 (free (b1.trans b2))⟩
 ·unfold dC
  cases hL:fC z.cps.toList with
  | none=>rfl
  | some toks =>
   dsimp only;rw [if_neg (h toks hL)]
def i5 (K:W.Frag) (ad:Ads) (so:Str):Sp:=λvs H Q E=>∃ z:Str,vs=[.str z]/\z.length<=100000/\yo 60 so z.cps.toList/\(∀ v,dC 60 so z.cps.toList=some v->∀ y H',Same H H'->IsP K H' v y->Q y H')/\(dC 60 so z.cps.toList=none->∀ H',Same H H'->E (.ref ad.BadText) none H')
theorem oY (T:Tx K mg ad) {f:Addr} {fd:FuncData} (F:Gn K mg "read_path" gI ["text"] f fd):FnOk P w K mg base (CXE P w) 66 f fd ["text"] (i5 K ad "path"):=by
 obtain ⟨f1,d1,J2⟩:=T.read_all;have KR:=kn (P:=P) (w:=w) (base:=base) T J2;refine F.F.okW pK (λvs H Q E h=>?_) (λcdv A outer s H vs Q E hr h=>?_)
 ·obtain ⟨z,rfl,_⟩:=h
  rfl
 obtain ⟨z,rfl,hz,ho,q1,q2⟩:=h;exact ⟨_,(5,(8,(22,KR,J2.m,J2.F.kp,J2.b,@pa2 _ _ _ _ _ (pv 0) pe_str (1) (1)))),_,rfl,z,"path",rfl,hz,ho,q1,q2⟩
theorem lW (T:Tx K mg ad) {f:Addr} {fd:FuncData} (F:Gn K mg "read_change" eP ["text"] f fd):FnOk P w K mg base (CXE P w) 66 f fd ["text"] (i5 K ad "change"):=by
 obtain ⟨f1,d1,J2⟩:=T.read_all;have KR:=kn (P:=P) (w:=w) (base:=base) T J2;refine F.F.okW mF (λvs H Q E h=>?_) (λcdv A outer s H vs Q E hr h=>?_)
 ·obtain ⟨z,rfl,_⟩:=h
  rfl
 obtain ⟨z,rfl,hz,ho,q1,q2⟩:=h;exact ⟨_,(5,(8,(22,KR,J2.m,J2.F.kp,J2.b,@pa2 _ _ _ _ _ (pv 0) pe_str (1) (1)))),_,rfl,z,"change",rfl,hz,ho,q1,q2⟩
def ck (cs:List Nat):Option (List Tk):=(fC cs).map (List.map toTk)
theorem lX (r:List Nat):ck (32 :: r)=ck r:=by
 unfold ck;rw [lR];have e:dE (32 :: r)=some 1:=by
  simp only [dE];rw [if_neg (by decide),if_neg (4),if_neg (4)]
 rw [e]
 rfl
theorem u6 (c:Nat) (w r:List Nat):(c :: (w++r)).take (w.length+1)=c :: w:=by simp
theorem u7 (c:Nat) (w r:List Nat):(c :: (w++r)).drop (w.length+1)=r:=by simp
theorem i6 {c:Nat} {w r:List Nat} {d:Dt} (hc:¬ c=32) (hw:dE (c :: (w++r))=some (w.length+1)) (hm:mkW (c :: w)=some d):ck (c :: (w++r))=(ck r).map (toTk d :: ·):=by
 unfold ck;rw [lR,hw];dsimp only;rw [if_neg hc,u6,u7,hm]
 cases fC r <;> rfl
theorem u8 {c:Nat} (r:List Nat) (h:c∈[40,41,91,93,123,125,44,58,59,47]):ck (c :: r)=(ck r).map (aN ⟨#[c]⟩ :: ·):=by
 have key:¬ c=32/\¬ c=34/\¬ aR letS c=true/\¬ (c=45\/aR figS c=true)/\(!(Builtin.Str.occurrences marksS (cG [c]) 0 marksS.length 1).isEmpty)=true:=by
  revert c
  decide +kernel
 obtain ⟨a,b,c1,d,e⟩:=key;refine i6 (w:=[]) (d:=mk2 "mark" (.str (cG [c]))) a ?_ (by unfold mkW;rw [if_pos e]);simp only [dE];rw [if_neg b,if_neg c1,if_neg d]
 rfl
theorem tR {L:Str} {w r:List Nat} (h:w.all (aR L)=true) (hr:∀ c,r.head?=some c->aR L c=false):cj L (w++r)=w.length:=by
 induction w with
 | nil =>
  cases r with
  | nil=>rfl
  | cons c r =>
   show cj L (c :: r)=0;unfold cj;rw [aA0,if_neg (by rw [hr c rfl];decide)]
   rfl
 | cons c w ih =>
  rw [aA8,aAB] at h;show cj L (c :: (w++r))=w.length+1;unfold cj;rw [aA0,if_pos h.1,aAb];exact congrArg Nat.succ (ih h.2)
theorem sE {c:Nat} (h:aR letS c=true):¬ c=34/\¬ c=32:=by
 constructor <;> (rintro rfl;revert h;decide +kernel)
theorem xf {c:Nat} (h:aR figS c=true):¬ c=34/\¬ c=32/\¬ aR letS c=true:=by
 have e:figS.cps.toList=[48,49,50,51,52,53,54,55,56,57]:=(4)
 have h':c∈[48,49,50,51,52,53,54,55,56,57]:=by
  rw [<- e];exact of_decide_eq_true h
 clear h e
 revert c
 decide +kernel
theorem u9 {c:Nat} {w r:List Nat} (h:(c :: w).all (aR letS)=true) (hr:∀ c,r.head?=some c->aR letS c=false):dE (c :: (w++r))=some (w.length+1):=by
 have hc:aR letS c=true:=by rw [aA8,aAB] at h;exact h.1
 simp only [dE];rw [if_neg (sE hc).1,if_pos hc];exact congrArg some (tR (w:=c :: w) h hr)
theorem va {c:Nat} {w r:List Nat} {d:Dt} (h:(c :: w).all (aR letS)=true) (hr:∀ c,r.head?=some c->aR letS c=false) (hm:mkW (c :: w)=some d):ck (c :: (w++r))=(ck r).map (toTk d :: ·) :=
 i6 (by rw [aA8,aAB] at h;exact (sE h.1).2) (u9 h hr) hm
theorem xh {c:Nat} {w r:List Nat} (hc:c=45\/aR figS c=true) (h:w.all (aR figS)=true) (hr:∀ c,r.head?=some c->aR figS c=false):dE (c :: (w++r))=some (w.length+1):=by
 have n34:¬ c=34/\¬ c=32/\¬ aR letS c=true:=by
  rcases hc with rfl | hc
  ·decide +kernel
  ·exact xf hc
 simp only [dE];rw [if_neg n34.1,if_neg n34.2.2,if_pos hc,tR h hr,Nat.add_comm]
theorem vc {b r:List Nat} (h:b.all (λc=>!(c == 34))=true):dE (34 :: ((b++[34])++r))=some ((b++[34]).length+1):=by
 simp only [dE];rw [if_pos trivial];have e:((b++[34])++r).findIdx? (· == 34)=some b.length:=by
  induction b with
  | nil=>rfl
  | cons c b ih =>
   rw [aA8,aAB] at h;have hc:(c == 34)=false:=by simpa using h.1
   show (c :: ((b++[34])++r)).findIdx? _=_;rw [aBF,hc,ih h.2]
   rfl
 rw [e,aAc]
 rfl
abbrev lY (s:Str):Tk:=(("word" : Str),Sum.inr s)
abbrev tS (s:Str):Tk:=(("text" : Str),Sum.inr s)
abbrev yp (n:Int):Tk:=(("number" : Str),Sum.inl n)
theorem xi {w:List Nat} {t:Tk} (h:(mkW w).map toTk=some t):∃ d,mkW w=some d/\toTk d=t:=aAi.mp h
def gx (L:Str) (r:List Nat):Prop:=∀ c,r.head?=some c->aR L c=false
theorem Ck {c:Nat} {w r:List Nat} {t:Tk} (h:(c :: w).all (aR letS)=true) (hr:gx letS r) (hm:(mkW (c :: w)).map toTk=some t):ck (c :: (w++r))=(ck r).map (t :: ·):=by
 obtain ⟨d,hd,rfl⟩:=xi hm;exact va h hr hd
theorem Cl {c:Nat} {w r:List Nat} {t:Tk} (hc:c=45\/aR figS c=true) (h:w.all (aR figS)=true) (hr:gx figS r) (hm:(mkW (c :: w)).map toTk=some t):ck (c :: (w++r))=(ck r).map (t :: ·):=by
 obtain ⟨d,hd,rfl⟩:=xi hm;exact i6 (by
  rcases hc with rfl | hc
  ·decide
  ·exact (xf hc).2.1) (xh hc h hr) hd
theorem Cm {b r:List Nat} {t:Tk} (h:b.all (λc=>!(c == 34))=true) (hm:(mkW (34 :: (b++[34]))).map toTk=some t):ck (34 :: ((b++[34])++r))=(ck r).map (t :: ·):=by
 obtain ⟨d,hd,rfl⟩:=xi hm;exact i6 (by decide) (vc h) hd
theorem ni {L:Str} {c:Nat} {r:List Nat} (h:aR L c=false):gx L (c :: r):=λd hd=>by
 cases hd
 exact h
abbrev markL:List Str:=["(",")","[","]","{","}",",",":",";","/"]
def tokS (z:Str):Tk:=((mkW z.cps.toList).map toTk).getD mI
def lZ (z:Str):Prop:=∀ r,gx letS r->gx figS r->ck (z.cps.toList++r)=(ck r).map (tokS z :: ·)
def HdM (ws:List Str):Prop:=∀ w,ws.head?=some w->w∈markL
inductive GL:List Str->Prop
 | nil:GL []
 | mark {m:Str} {ws:List Str}:m∈markL->GL ws->GL (m :: ws)
 | word {w:Str} {ws:List Str}:lZ w->HdM ws->GL ws->GL (w :: ws)
def aW:List Str->List Nat->List Nat
 | w :: ws,b :: bs=>w.cps.toList++(List.replicate b 32++aW ws bs)
 | _,_=>[]
theorem cv (r:List Nat):∀ b:Nat,ck (List.replicate b 32++r)=ck r
 | 0=>rfl
 | b+1=>by
  rw [aAZ,aBt,lX];exact cv r b
theorem aO:∀ m∈markL,tokS m=aN m/\∃ c∈[40,41,91,93,123,125,44,58,59,47],m=⟨#[c]⟩/\aR letS c=false/\aR figS c=false:=(4)
theorem xj {m:Str} (h:m∈markL) (r:List Nat):ck (m.cps.toList++r)=(ck r).map (tokS m :: ·):=by
 obtain ⟨e,c,hc,rfl,_⟩:=aO m h;rw [e];exact u8 r hc
theorem xl {ws:List Str} (h:HdM ws) {r:List Nat} (hr:gx letS r/\gx figS r):∀ (b:Nat) (bs:List Nat),bs.length=ws.length->gx letS (List.replicate b 32++(aW ws bs++r))/\gx figS (List.replicate b 32++(aW ws bs++r))
 | b+1,bs,_=>by
  rw [aAZ,aBt];exact ⟨ni (4),ni (4)⟩
 | 0,bs,hb=>by
  rw [List.replicate_zero,List.nil_append]
  cases ws with
  | nil =>
   obtain rfl:=aAY.mp hb;exact hr
  | cons w ws =>
   cases bs with
   | nil=>cases hb
   | cons b bs =>
    obtain ⟨_,c,_,rfl,h1,h2⟩:=aO w (h w rfl);exact ⟨ni h1,ni h2⟩
theorem GL.lexr {ws:List Str} (h:GL ws) {r:List Nat} (hr:gx letS r/\gx figS r):∀ bs:List Nat,bs.length=ws.length->ck (aW ws bs++r)=(ck r).map (ws.map tokS++·):=by
 induction h with
 | nil =>
  intro bs hb;obtain rfl:=aAY.mp hb;show ck r=_
  cases ck r <;> rfl
 | mark hm h ih =>
  intro bs hb
  cases bs with
  | nil=>cases hb
  | cons b bs =>
   simp only [aW];rw [aAD,aAD,xj hm,cv,ih bs (Nat.succ.inj hb)]
   cases ck r <;> rfl
 | word hw hd h ih =>
  intro bs hb
  cases bs with
  | nil=>cases hb
  | cons b bs =>
   simp only [aW];obtain ⟨n1,n2⟩:=xl hd hr b bs (Nat.succ.inj hb);rw [aAD,aAD,hw _ n1 n2,cv,ih bs (Nat.succ.inj hb)]
   cases ck r <;> rfl
theorem GL.lex {ws:List Str} (h:GL ws) (bs:List Nat) (hb:bs.length=ws.length):ck (aW ws bs)=some (ws.map tokS):=by
 have:=h.lexr (r:=[]) ⟨(λc h=>by cases h),λc h=>by cases h⟩ bs hb;rw [aAJ] at this;rw [this];show some (_++[])=_;rw [aAJ]
def GW (ws:List Str):Prop:=∀ r,HdM r->GL r->GL (ws++r)
def GM (ws:List Str):Prop:=∀ r,GL r->GL (ws++r)
theorem GM.gw {a:List Str} (h:GM a):GW a:=λr _ g=>h r g
theorem GW.one {w:Str} (h:lZ w):GW [w]:=λ_ hr g=>.word h hr g
theorem GM.one {m:Str} (h:m∈markL):GM [m]:=λ_ g=>.mark h g
theorem GW.mk {a:List Str} {m:Str} (h:GW a) (hm:m∈markL):GM (a++[m]):=λr g=>by
 rw [aAD];exact h _ (λw e=>by cases e;exact hm) (.mark hm g)
theorem GM.app {a b:List Str} (h:GM a) (g:GM b):GM (a++b):=λr k=>by
 rw [aAD];exact h _ (g _ k)
theorem GM.then {a b:List Str} (h:GM a) (g:GW b):GW (a++b):=λr hr k=>by
 rw [aAD];exact h _ (g _ hr k)
theorem GW.gl {a:List Str} (h:GW a):GL a:=by
 have:=h [] (λw e=>by cases e) .nil
 rwa [aAJ] at this
def sepW:List (List Str)->List Str
 | []=>[]
 | [x]=>x
 | x :: y :: r=>(x++[("," : Str)])++sepW (y :: r)
theorem GW.sep:∀ {wss:List (List Str)},(∀ x∈wss,GW x)->GW (sepW wss)
 | [],_=>λ_ _ g=>g
 | [x],h=>h x aAh
 | x :: y :: r,h=>((h x aAh).mk (m:= ",") (4)).then (GW.sep λz hz=>h z (aAf _ hz))
def brW (w:Str) (ws:List Str):List Str:=[w,"("]++ws++[(")" : Str)]
theorem GW.br {w:Str} {ws:List Str} (hw:lZ w) (h:GW ws):GM (brW w ws):=(((GW.one hw).mk (m:= "(") (4)).then h).mk (m:= ")") (4)
def blk (w:Str):Nat:=if w= "," \/w= ":" \/w= ";" then 1 else 0
def aX (ws:List Str):List Nat:=aW ws (ws.map blk)
def ai (ws:List Str):Str:=cG (aX ws)
theorem a9 (w:Str) (ws:List Str):aX (w :: ws)=(w.cps.toList++List.replicate (blk w) 32)++aX ws:=by
 unfold aX;rw [aAq];simp only [aW];rw [aAD]
theorem aS:∀ (a b:List Str),aX (a++b)=aX a++aX b
 | [],_=>rfl
 | w :: a,b=>by
  rw [aBt,a9,a9,aS a b];simp only [aAD]
theorem eZ {w:Str} (h:blk w=0):aX [w]=w.cps.toList:=by
 rw [a9,h];show (_++[])++[]=_;rw [aAJ,aAJ]
theorem cq:aX ["("]=[40]/\aX [")"]=[41]/\aX [","]=[44,32]/\aX [":"]=[58,32]/\(Str.ofString ", ").cps.toList=[44,32]/\(Str.ofString ": ").cps.toList=[58,32]/\(Str.ofString "(").cps.toList=[40]/\(Str.ofString ")").cps.toList=[41]:=(4)
theorem aI (a b:Str):(a++b).cps.toList=a.cps.toList++b.cps.toList:=by
 show (a.cps++b.cps).toList=_;rw [aBz]
theorem dW (cs:List Nat):(cG cs).cps.toList=cs:=rfl
theorem e7:∀ wss:List (List Str),(Str.join (Str.ofString ", ") (wss.map ai)).cps.toList=aX (sepW wss)
 | []=>rfl
 | [x]=>rfl
 | x :: y :: r=>by
  have:=e7 (y :: r);rw [aAq] at this;rw [aAq,aAq,PyProof.Rows.join_cons_cons,aI,aI,this];simp only [sepW];rw [aS,aS,cq.2.2.1,cq.2.2.2.2.1]
  rfl
theorem l5 (wss:List (List Str)):Str.join (Str.ofString ", ") (wss.map ai)=ai (sepW wss):=bG (e7 wss)
theorem dX {w:Str} (hw:blk w=0) (wss:List (List Str)):w++Str.ofString "(" ++Str.join (Str.ofString ", ") (wss.map ai)++Str.ofString ")" = ai (brW w (sepW wss)):=by
 apply bG;show _=aX _;unfold brW;rw [aI,aI,aI,e7,aS,aS,a9 w ["("],hw,cq.1,cq.2.1,cq.2.2.2.2.2.2.1,cq.2.2.2.2.2.2.2];simp
theorem ix {w:Str} (hw:blk w=0) (ws:List Str):w++Str.ofString ": " ++ai ws=ai ([w,":"]++ws):=by
 apply bG;show _=aX _;rw [aI,aI,aS,a9 w [":"],hw,cq.2.2.2.1,cq.2.2.2.2.2.1];simp [ai,cG]
theorem l7 {c:Nat} {w:List Nat} (hc:aR marksS c=false):¬ (!(Builtin.Str.occurrences marksS (cG (c :: w)) 0 marksS.length 1).isEmpty)=true:=by
 rw [PySem.StrLaws.found_iff];rintro ⟨i,_,h2⟩;rw [PySem.StrLaws.subAt_eq,beq_iff_eq] at h2;have hm:c∈(marksS.cps.toList.drop i).take (cG (c :: w)).length:=by
  rw [h2];exact aAh
 have:=decide_eq_true (List.mem_of_mem_drop (List.mem_of_mem_take hm));unfold aR at hc;rw [hc] at this
 cases this
theorem xm {c:Nat} (h:aR letS c=true):aR marksS c=false:=by
 have h':c∈letS.cps.toList:=of_decide_eq_true h
 clear h
 revert c
 decide +kernel
theorem qJ {c:Nat} (h:c=45\/aR figS c=true):aR marksS c=false/\aR letS c=false/\c≠34:=by
 rcases h with rfl | h
 ·decide +kernel
 have h':c∈figS.cps.toList:=of_decide_eq_true h
 clear h
 revert c
 decide +kernel
def NmC (z:Str):Prop:=z.cps.toList.all (aR letS)=true/\1<=z.length/\z.length<=8
theorem NmC.tok {z:Str} (h:NmC z):(mkW z.cps.toList).map toTk=some (lY z):=by
 obtain ⟨h1,h2,h3⟩:=h;have hl:=am z;have ez:=gW z
 cases e:z.cps.toList with
 | nil=>rw [e] at hl;simp at hl;lia
 | cons c w =>
  rw [e] at h1 hl ez;have hc:aR letS c=true:=by rw [aA8,aAB] at h1;exact h1.1
  unfold mkW;rw [if_neg (l7 (xm hc)),if_neg (λx=>(sE hc).1 (Option.some.inj x.1)),if_pos ⟨⟨c,rfl,hc⟩,(3)⟩,ez]
  rfl
theorem NmC.tk {z:Str} (h:NmC z):tokS z=lY z:=by
 unfold tokS;rw [h.tok]
 rfl
theorem NmC.good {z:Str} (h:NmC z):lZ z:=by
 intro r n1 _;have ht:=h.tok;rw [h.tk];obtain ⟨h1,h2,h3⟩:=h;have hl:=am z
 cases e:z.cps.toList with
 | nil=>rw [e] at hl;simp at hl;lia
 | cons c w =>
  rw [e] at h1 ht;exact Ck h1 n1 ht
theorem NmC.bk {z:Str} (h:NmC z):blk z=0:=by
 unfold blk;refine if_neg ?_;rintro (rfl | rfl | rfl)
 ·exact absurd h.1 (4)
 ·exact absurd h.1 (4)
 ·exact absurd h.1 (4)
theorem jQ {i:Int} (h:i.natAbs < 10 ^ 60):∃ c w,eU i=c :: w/\(c=45\/aR figS c=true)/\w.all (aR figS)=true/\((eU i).dropWhile (· == 45)).length<=60:=by
 have af:∀ {l:List Nat},NumText.AllDigits l->l.all (aR figS)=true:=λ{l} hd=>aAP.mpr λc hc=>by
  have:=hd c hc;rw [show aR figS c=gp c from tK c ▸ (PySem.StrLaws.found_one figS c).symm];exact decide_eq_true this
 have hl:=ou 59 i.natAbs h;have hn:(dg i.natAbs).dropWhile (· == 45)=dg i.natAbs:=by
  cases e:dg i.natAbs with
  | nil=>rfl
  | cons d t =>
   have hd:=eT i.natAbs d (by rw [e];exact aAh);rw [aBk,if_neg (by simp;lia)]
 by_cases hi:i < 0
 ·have e:eU i=45 :: dg i.natAbs:=by unfold eU;rw [if_pos hi]
  refine ⟨45,dg i.natAbs,e,.inl rfl,af (eT _),?_⟩;rw [e,aBk,if_pos (1),hn];exact hl
 ·have e:eU i=dg i.natAbs:=by unfold eU;rw [if_neg hi]
  cases ed:dg i.natAbs with
  | nil=>exact absurd ed (wc _)
  | cons d t =>
   have hall:=af (eT i.natAbs);rw [ed,aA8,aAB] at hall;refine ⟨d,t,by rw [e,ed],.inr hall.1,hall.2,?_⟩;rw [e,hn];exact hl
theorem tT {i:Int} (h:i.natAbs < 10 ^ 60):(mkW (eU i)).map toTk=some (yp i):=by
 obtain ⟨c,w,e,hc,_,hl⟩:=jQ h;obtain ⟨m1,m2,m3⟩:=qJ hc;have hd:=ym i;rw [e] at hl hd ⊢;unfold mkW;rw [if_neg (l7 m1),if_neg (λx=>m3 (Option.some.inj x.1)),if_neg (λx=>by
  obtain ⟨⟨d,e1,e2⟩,_⟩:=x
  cases e1
  rw [m2] at e2
  cases e2),if_pos hl,hd]
 rfl
theorem e8 {i:Int} (h:i.natAbs < 10 ^ 60):tokS (aK i)=yp i:=by
 unfold tokS;rw [gq,tT h]
 rfl
theorem i7 {i:Int} (h:i.natAbs < 10 ^ 60):lZ (aK i):=by
 intro r _ n2;rw [e8 h,gq];have ht:=tT h;obtain ⟨c,w,e,hc,hw,hl⟩:=jQ h;rw [e] at ht ⊢;exact Cl hc hw n2 ht
theorem tU {i:Int} (h:i.natAbs < 10 ^ 60):blk (aK i)=0:=by
 unfold blk;obtain ⟨c,w,e,hc,hw,hl⟩:=jQ h;have m1:=(qJ hc).1;refine if_neg λx=>?_;have key:∀ z:Str,(z= "," \/z= ":" \/z= ";")->∀ c w,z.cps.toList=c :: w->aR marksS c=true:=by
  rintro z (rfl | rfl | rfl) c w e
  ·rw [show c=44 from by cases e;rfl];decide +kernel
  ·rw [show c=58 from by cases e;rfl];decide +kernel
  ·rw [show c=59 from by cases e;rfl];decide +kernel
 have:=key _ x c w ((gq i).trans e);rw [m1] at this
 cases this
def upT (L:Str):Tk->Bool
 | (w,.inr s)=>decide (w= "mark") && !(Builtin.Str.occurrences L s 0 L.length 1).isEmpty
 | (_,.inl _)=>false
theorem y3 (L:Str) (d:Dt):upB L d=upT L (toTk d):=by
 unfold upB toTk
 split <;> first | rfl | (rename_i h;split <;> first | rfl | (rename_i w s;exact absurd rfl (h w s)))
def stT (p:Int×Int) (t:Tk):Int×Int :=
 (if p.2+(if upT "([{" t=true then 1 else 0) - (if upT ")]}" t=true then 1 else 0) > p.1 then p.2+(if upT "([{" t=true then 1 else 0) - (if upT ")]}" t=true then 1 else 0) else p.1,
  p.2+(if upT "([{" t=true then 1 else 0) - (if upT ")]}" t=true then 1 else 0))
theorem IQ (p:Int×Int) (d:Dt):gr p d=stT p (toTk d):=by
 unfold gr stT;rw [y3,y3]
theorem yq (toks:List Dt):ic toks=((toks.map toTk).foldl stT (0,0)).1:=by
 unfold ic;rw [List.foldl_map]
 congr 2
 funext p d
 exact IQ p d
theorem l9 (L s:Str):upT L (lY s)=false:=by
 show (decide (("word" : Str)= "mark") && !(Builtin.Str.occurrences L s 0 L.length 1).isEmpty)=false;rw [decide_eq_false (4)]
 rfl
theorem xn (L s:Str):upT L (tS s)=false:=by
 show (decide (("text" : Str)= "mark") && !(Builtin.Str.occurrences L s 0 L.length 1).isEmpty)=false;rw [decide_eq_false (4)]
 rfl
theorem yr (L:Str) (n:Int):upT L (yp n)=false:=rfl
theorem tV {p:Int×Int} {t:Tk} (h1:upT "([{" t=true) (h2:upT ")]}" t=false):stT p t=(max p.1 (p.2+1),p.2+1):=by
 unfold stT;rw [h1,h2];simp only [if_true,aAH,if_false]
 congr 1
 ·split <;> lia
 ·lia
theorem qK {p:Int×Int} {t:Tk} (h1:upT "([{" t=false) (h2:upT ")]}" t=true) (h:p.2<=p.1+1):stT p t=(p.1,p.2 - 1):=by
 unfold stT;rw [h1,h2];simp only [if_true,aAH,if_false]
 congr 1
 ·split <;> lia
 ·lia
theorem tW {p:Int×Int} {t:Tk} (h1:upT "([{" t=false) (h2:upT ")]}" t=false) (h:p.2<=p.1):stT p t=p:=by
 unfold stT;rw [h1,h2];simp only [aAH,if_false];obtain ⟨a,b⟩:=p;simp at h ⊢;lia
theorem vd {cs:List Nat} {ts:List Tk} (h:ck cs=some ts):∃ toks,fC cs=some toks/\toks.map toTk=ts:=aAi.mp h
theorem yt {cs:List Nat} {s:Str} {ts:List Tk} {v:Dt} {q:Nat} (h:ck cs=some ts) (hd:(ts.foldl stT (0,0)).1<=40) (hp:prs ts 60 s 0=.ok v q) (he:ak ts q=mI):dC 60 s cs=some v/\yo 60 s cs:=by
 obtain ⟨toks,hL,rfl⟩:=vd h;rw [<- yq] at hd
 constructor
 ·unfold dC;rw [hL];dsimp only;rw [if_pos hd,hp];dsimp only;rw [if_pos he]
 ·intro t ht _;rw [hL] at ht
  cases ht
  rw [hp];exact λc=>by cases c
theorem az {T:List Tk} {p:Nat} {t:Tk} {l:List Tk} (h:T.drop p=t :: l):ak T p=t/\T.drop (p+1)=l/\p < T.length:=by
 have hp:p < T.length:=by
  have:=congrArg List.length h;rw [aAK,aAb] at this;lia
 rw [aA7 hp] at h;injection h with h1 h2
 refine ⟨?_,h2,hp⟩;unfold ak;rw [aAv hp,h1]
 rfl
theorem sF {T:List Tk} {p:Nat} (h:T.drop p=[]):ak T p=mI:=by
 unfold ak;rw [aBw (List.drop_eq_nil_iff.mp h)]
 rfl
theorem jR {T:List Tk} {p:Nat} {a b:List Tk} (h:T.drop p=a++b):T.drop (p+a.length)=b:=by
 rw [<- List.drop_drop,h,List.drop_left]
abbrev G3:=Str×Dt×List Str
abbrev pr3 (g:G3):Dt:=.tup [.str g.1,g.2.1]
abbrev fw3 (g:G3):List Str:=[g.1,":"]++g.2.2
inductive KW:Nat->Dt->List Str->Prop
 | number (n:Nat) (i j:Int):i.natAbs < 10 ^ 60->j.natAbs < 10 ^ 60->KW (n+1) (.tup [.str "number",.int i,.int j]) (brW "number" (sepW [[aK i],[aK j]]))
 | text (n:Nat) (i:Int):i.natAbs < 10 ^ 60->KW (n+1) (.tup [.str "text",.int i]) (brW "text" (sepW [[aK i]]))
 | choice (n:Nat) (ws:List Str):ws≠[]->ws.length<=8->(∀ z∈ws,NmC z)->KW (n+1) (.tup [.str "choice",.tup (ws.map Dt.str)]) (brW "choice" (sepW (ws.map λz=>[z])))
 | list {n:Nat} {k:Dt} {kw:List Str} {i:Int}:KW n k kw->i.natAbs < 10 ^ 60->KW (n+1) (.tup [.str "list",k,.int i]) (brW "list" (sepW [[aK i],kw]))
 | rows {n:Nat} {z:Str} {k:Dt} {kw:List Str} {i:Int}:NmC z->KW n k kw->i.natAbs < 10 ^ 60->KW (n+1) (.tup [.str "rows",.str z,k,.int i]) (brW "rows" (sepW [[z],[aK i],kw]))
 | rcd {n:Nat} {gs:List G3}:gs.length<=8->(∀ g∈gs,NmC g.1)->(∀ g∈gs,KW n g.2.1 g.2.2)->KW (n+1) (.tup [.str "record",.tup (gs.map pr3)]) (brW "record" (sepW (gs.map fw3)))
theorem bv:∀ z∈([("number" : Str),"text","choice","list","rows","record"]),z.cps.toList.all (aR letS)=true/\1<=z.length/\z.length<=8:=(4)
theorem KW.gm {n:Nat} {d:Dt} {ws:List Str} (h:KW n d ws):GM ws:=by
 have w:∀ z∈([("number" : Str),"text","choice","list","rows","record"]),lZ z:=λz hz=>NmC.good (bv z hz);have nm:∀ {i:Int},i.natAbs < 10 ^ 60->GW [aK i]:=λhi=>GW.one (i7 hi)
 induction h with
 | number n i j hi hj=>exact GW.br (w _ (by simp)) (GW.sep λx hx=>by
   rcases aAn.mp hx with rfl | hx
   ·exact nm hi
   ·rw [aAp.mp hx];exact nm hj)
 | text n i hi=>exact GW.br (w _ (by simp)) (GW.sep λx hx=>by rw [aAp.mp hx];exact nm hi)
 | choice n zs h0 h8 hz=>exact GW.br (w _ (by simp)) (GW.sep λx hx=>by
   obtain ⟨z,h,rfl⟩:=aAm.mp hx;exact GW.one (hz z h).good)
 | list hk hi ih=>exact GW.br (w _ (by simp)) (GW.sep λx hx=>by
   rcases aAn.mp hx with rfl | hx
   ·exact nm hi
   ·rw [aAp.mp hx];exact ih.gw)
 | rows hz hk hi ih=>exact GW.br (w _ (by simp)) (GW.sep λx hx=>by
   rcases aAn.mp hx with rfl | hx
   ·exact GW.one hz.good
   rcases aAn.mp hx with rfl | hx
   ·exact nm hi
   ·rw [aAp.mp hx];exact ih.gw)
 | rcd h8 hz hk ih=>exact GW.br (w _ (by simp)) (GW.sep λx hx=>by
   obtain ⟨g,h,rfl⟩:=aAm.mp hx;exact (GW.mk (a:=[g.1]) (m:= ":") (GW.one (hz g h).good) (4)).then (ih g h).gw)
def BD (n:Nat) (ws:List Str):Prop:=∀ p:Int×Int,p.2<=p.1->((ws.map tokS).foldl stT p).2=p.2/\p.1<=((ws.map tokS).foldl stT p).1/\((ws.map tokS).foldl stT p).1<=max p.1 (p.2+n)
theorem BD.nil (n:Nat):BD n []:=λp _=>⟨rfl,Int.le_refl _,by show p.1<=_;lia⟩
theorem BD.app {n:Nat} {a b:List Str} (h:BD n a) (g:BD n b):BD n (a++b):=λp hp=>by
 obtain ⟨h1,h2,h3⟩:=h p hp;rw [aAr,aBh];obtain ⟨g1,g2,g3⟩:=g ((a.map tokS).foldl stT p) (3);lia
theorem BD.flat {n:Nat} {w:Str} (h1:upT "([{" (tokS w)=false) (h2:upT ")]}" (tokS w)=false):BD n [w]:=λp hp=>by
 show (stT p (tokS w)).2=_/\_<=(stT p (tokS w)).1/\(stT p (tokS w)).1<=_;rw [tW h1 h2 hp];lia
theorem BD.sep {n:Nat}:∀ {wss:List (List Str)},(∀ x∈wss,BD n x)->BD n (sepW wss)
 | [],_=>BD.nil n
 | [x],h=>h x aAh
 | x :: y :: r,h=>((h x aAh).app (BD.flat (w:= ",") (4) (4))).app (BD.sep λz hz=>h z (aAf _ hz))
theorem NmC.bd {n:Nat} {z:Str} (h:NmC z):BD n [z]:=by
 refine BD.flat ?_ ?_ <;> (rw [h.tk];exact l9 _ _)
theorem gy {n:Nat} {i:Int} (h:i.natAbs < 10 ^ 60):BD n [aK i]:=by
 refine BD.flat ?_ ?_ <;> (rw [e8 h];exact yr _ _)
theorem BD.br {n:Nat} {w:Str} {ws:List Str} (hw:NmC w) (h:BD n ws):BD (n+1) (brW w ws):=λp hp=>by
 unfold brW;rw [aAr,aAr,aBh,aBh];have e1:([w,"("].map tokS).foldl stT p=(max p.1 (p.2+1),p.2+1):=by
  show stT (stT p (tokS w)) (tokS "(")=_;rw [hw.tk,tW (l9 _ _) (l9 _ _) hp,(aO "(" (4)).1,tV (4) (4)]
 rw [e1];obtain ⟨g1,g2,g3⟩:=h (max p.1 (p.2+1),p.2+1) (by show p.2+1<=max p.1 (p.2+1);lia)
 revert g1 g2 g3
 generalize (ws.map tokS).foldl stT (max p.1 (p.2+1),p.2+1)=r
 intro g1 g2 g3;have e2:([(")" : Str)].map tokS).foldl stT r=(r.1,r.2 - 1):=by
  show stT r (tokS ")")=_;rw [(aO ")" (4)).1,qK (4) (4) (by dsimp only at g1 g2 g3;lia)]
 rw [e2];dsimp only at g1 g2 g3 ⊢;lia
theorem BD.mono {n m:Nat} {ws:List Str} (h:BD n ws) (hl:n<=m):BD m ws:=λp hp=>by
 obtain ⟨a,b,c⟩:=h p hp;exact ⟨a,b,(3)⟩
theorem KW.bd {n:Nat} {d:Dt} {ws:List Str} (h:KW n d ws):BD n ws:=by
 have w:∀ z∈([("number" : Str),"text","choice","list","rows","record"]),NmC z:=bv
 induction h with
 | number n i j hi hj=>exact BD.br (w _ (by simp)) (BD.sep λx hx=>by
   rcases aAn.mp hx with rfl | hx
   ·exact gy hi
   ·rw [aAp.mp hx];exact gy hj)
 | text n i hi=>exact BD.br (w _ (by simp)) (BD.sep λx hx=>by rw [aAp.mp hx];exact gy hi)
 | choice n zs h0 h8 hz=>exact BD.br (w _ (by simp)) (BD.sep λx hx=>by
   obtain ⟨z,h,rfl⟩:=aAm.mp hx;exact (hz z h).bd)
 | list hk hi ih=>exact BD.br (w _ (by simp)) (BD.sep λx hx=>by
   rcases aAn.mp hx with rfl | hx
   ·exact gy hi
   ·rw [aAp.mp hx];exact ih)
 | rows hz hk hi ih=>exact BD.br (w _ (by simp)) (BD.sep λx hx=>by
   rcases aAn.mp hx with rfl | hx
   ·exact hz.bd
   rcases aAn.mp hx with rfl | hx
   ·exact gy hi
   ·rw [aAp.mp hx];exact ih)
 | rcd h8 hz hk ih=>exact BD.br (w _ (by simp)) (BD.sep λx hx=>by
   obtain ⟨g,h,rfl⟩:=aAm.mp hx;exact ((hz g h).bd.app (BD.flat (w:= ":") (4) (4))).app (ih g h))
theorem ma:∀ (x:List Str) (xs:List (List Str)),sepW (x :: xs)=x++xs.flatMap λy=>("," : Str) :: y
 | x,[]=>by
  show x=x++[];rw [aAJ]
 | x,y :: r=>by
  show (x++[("," : Str)])++sepW (y :: r)=_;rw [ma y r,aAD]
  rfl
abbrev Rd (T:List Tk) (rd:Nat->PR) (it:Dt×List Str):Prop:=∀ q r,T.drop q=it.2.map tokS++r->rd q=.ok it.1 (q+it.2.length)
abbrev ca (its:List (Dt×List Str)):List Str:=its.flatMap λit=>("," : Str) :: it.2
theorem xp:tokS "," = aN "," :=(aO "," (4)).1
theorem qL {T:List Tk} {rd:Nat->PR} {cl:Str} (hc:cl∈markL) (hn:¬ ("," : Str)=cl):∀ (its:List (Dt×List Str)) (m p:Nat) (fs:List Dt) (rest:List Tk),its.length < m->(∀ it∈its,Rd T rd it)->0 < fs.length->T.drop p=(ca its++[cl]).map tokS++rest ->
  cT T rd cl m p fs=.ok (.tup (fs++its.map (·.1))) (p+(ca its).length+1)
 | _,0,_,_,_,h,_,_,_=>absurd h (aBx _)
 | [],m+1,p,fs,rest,h,hr,h0,hT=>by
  obtain ⟨e1,_,_⟩:=az (t:=tokS cl) (l:=rest) hT;simp only [cT];rw [e1,(aO cl hc).1,if_pos rfl,aA3,aAJ]
  rfl
 | it :: its,m+1,p,fs,rest,h,hr,h0,hT=>by
  have e0:(ca (it :: its)++[cl]).map tokS++rest=tokS "," :: (it.2.map tokS++((ca its++[cl]).map tokS++rest)):=by
   simp [ca]
  rw [e0] at hT;obtain ⟨e1,hT1,_⟩:=az hT;rw [xp] at e1;have hr1:=hr it aAh (p+1) _ hT1;have hT2:=jR hT1;rw [aAa] at hT2;simp only [cT];rw [e1,if_neg (λc=>hn (by injection c with _ c;injection c)),if_pos h0,aB e1,hr1];show cT T rd cl m _ (fs++[it.1])=_;rw [qL hc hn its m (p+1+it.2.length) (fs++[it.1]) rest (aB0 h) (λx hx=>hr x (aAf _ hx)) (by simp) hT2]
  congr 1
  ·simp
  ·simp only [ca,aBl,aAc,aAb];lia
theorem qM {T:List Tk} {p:Nat} {a b:List Tk} (h:T.drop p=a++b):a.length<=T.length:=by
 have:=congrArg List.length h;rw [aAK,aAc] at this;lia
theorem xr (its:List (Dt×List Str)):its.length<=(ca its).length:=by
 induction its with
 | nil=>exact aAE _
 | cons it its ih=>simp only [ca,aBl,aAc,aAb] at ih ⊢;lia
theorem dY {T:List Tk} {rd:Nat->PR} {cl:Str} (hc:cl∈markL) (hn:¬ ("," : Str)=cl) {its:List (Dt×List Str)} {p:Nat} {rest:List Tk} (hr:∀ it∈its,Rd T rd it) (hh:∀ it∈its,∃ w r,it.2=w :: r/\¬ tokS w=aN cl)
  (hT:T.drop p=(sepW (its.map (·.2))++[cl]).map tokS++rest):fS T rd cl p=.ok (.tup (its.map (·.1))) (p+(sepW (its.map (·.2))).length+1):=by
 unfold fS
 cases its with
 | nil =>
  obtain ⟨e1,_,_⟩:=az (t:=tokS cl) (l:=rest) hT;simp only [cT];rw [e1,(aO cl hc).1,if_pos rfl]
  rfl
 | cons it its =>
  have es:sepW ((it :: its).map (·.2))=it.2++ca its:=by
   rw [aAq,ma];simp [ca,List.flatMap_map]
  have hlen:=qM hT;rw [es] at hT hlen ⊢;have e0:((it.2++ca its)++[cl]).map tokS++rest=it.2.map tokS++((ca its++[cl]).map tokS++rest):=by simp
  rw [e0] at hT;obtain ⟨w,r,ew,hw⟩:=hh it aAh;have hr1:=hr it aAh p _ hT;have hT2:=jR hT;rw [aAa] at hT2;rw [ew] at hT;obtain ⟨e1,_,_⟩:=az hT;have tl:=xr its;simp only [aAa,aAc,aAb,aAl] at hlen;simp only [cT];rw [e1,if_neg hw,if_neg (show ¬ 0 < ([]:List Dt).length by decide),hr1];show cT T rd cl T.length _ ([]++[it.1])=_;rw [qL hc hn its T.length _ _ rest (3) (λx hx=>hr x (aAf _ hx)) (by simp) hT2]
  congr 1
  simp only [aAc];lia
theorem qN {T:List Tk} {rd:Str->Nat->PR}:∀ (fs:List Str) (its:List (Dt×List Str)) (p:Nat) (gs:List Dt) (rest:List Tk),its.length=fs.length->(∀ x∈fs.zip its,Rd T (rd x.1) x.2)->1 < gs.length->T.drop p=(ca its++[(")" : Str)]).map tokS++rest ->
  cU T rd fs p gs=.ok (.tup (gs++its.map (·.1))) (p+(ca its).length+1)
 | [],[],p,gs,rest,_,_,_,hT=>by
  obtain ⟨e1,_,_⟩:=az (t:=tokS ")") (l:=rest) hT;simp only [cU];rw [aB (e1.trans (aO ")" (4)).1),aA3,aAJ]
  rfl
 | s :: fs,it :: its,p,gs,rest,hl,hr,h1,hT=>by
  have e0:(ca (it :: its)++[(")" : Str)]).map tokS++rest=tokS "," :: (it.2.map tokS++((ca its++[(")" : Str)]).map tokS++rest)):=by
   simp [ca]
  rw [e0] at hT;obtain ⟨e1,hT1,_⟩:=az hT;rw [xp] at e1;have hr1:rd s (p+1)=.ok it.1 (p+1+it.2.length):=hr (s,it) aAh (p+1) _ hT1;have hT2:=jR hT1;rw [aAa] at hT2;simp only [cU];rw [if_pos h1,aB e1,hr1];show cU T rd fs _ (gs++[it.1])=_;rw [qN fs its (p+1+it.2.length) (gs++[it.1]) rest (Nat.succ.inj hl) (λx hx=>hr x (aAf _ hx)) (by simp;lia) hT2]
  congr 1
  ·simp
  ·simp only [ca,aBl,aAc,aAb];lia
theorem i8 {T:List Tk} {rd:Str->Nat->PR} {so w:Str} {fs:List Str} {its:List (Dt×List Str)} {p:Nat} {rest:List Tk} (hf:aP so w=some fs) (hl:its.length=fs.length) (hr:∀ x∈fs.zip its,Rd T (rd x.1) x.2)
  (hT:T.drop p=tokS "(" :: ((sepW (its.map (·.2))++[(")" : Str)]).map tokS++rest)):ie T rd so w p=.ok (.tup (.str w :: its.map (·.1))) (p+1+(sepW (its.map (·.2))).length+1):=by
 unfold ie;rw [hf];dsimp only;obtain ⟨e1,hT1,_⟩:=az hT;rw [aB (e1.trans (aO "(" (4)).1)]
 cases fs with
 | nil =>
  obtain rfl:=aAY.mp hl;obtain ⟨e2,_,_⟩:=az (t:=tokS ")") (l:=rest) hT1;simp only [cU];rw [aB (e2.trans (aO ")" (4)).1)]
  rfl
 | cons s fs =>
  cases its with
  | nil=>cases hl
  | cons it its =>
   have es:sepW ((it :: its).map (·.2))=it.2++ca its:=by
    rw [aAq,ma];simp [ca,List.flatMap_map]
   rw [es] at hT1 ⊢;have e0:((it.2++ca its)++[(")" : Str)]).map tokS++rest=it.2.map tokS++((ca its++[(")" : Str)]).map tokS++rest):=by simp
   rw [e0] at hT1;have hr1:rd s (p+1)=.ok it.1 (p+1+it.2.length):=hr (s,it) aAh (p+1) _ hT1;have hT2:=jR hT1;rw [aAa] at hT2;simp only [cU];rw [if_neg (show ¬ 1 < ([Dt.str w]:List Dt).length from aAS 1),hr1];show cU T rd fs (p+1+it.2.length) ([Dt.str w]++[it.1])=_;rw [qN fs its (p+1+it.2.length) ([Dt.str w]++[it.1]) rest (Nat.succ.inj hl) (λx hx=>hr x (aAf _ hx)) (by simp) hT2]
   congr 1
   simp only [aAc];lia
theorem nI (z m:Str):¬ lY z=aN m:=λc=>absurd (show (Str.ofString "word")=Str.ofString "mark" from congrArg Prod.fst c) (4)
theorem md (T:List Tk) (n p:Nat):prs T (n+3) "kind" p=nE T (prs T n) p:=by
 simp only [prs];rw [if_neg (4),if_pos trivial]
theorem qO (T:List Tk) (n p:Nat) {s:Str} (h:s= "number" \/s= "word"):prs T (n+3) s p=dv T s p:=by
 rcases h with rfl | rfl <;>
 ·simp only [prs];rw [if_neg (4),if_neg (4),if_neg (4),if_neg (4),if_neg (4),if_neg (4)]
  rfl
theorem ve (T:List Tk) (n p:Nat):prs T (n+3) "field" p=kj T (prs T (n+1)) "kind" p:=by
 simp only [prs];rw [if_neg (4),if_neg (4),if_neg (4),if_neg (4),if_neg (4),if_neg (4)]
 rfl
theorem bn {T:List Tk} {p:Nat} {z:Str} {f:Str->Nat->PR} (h:ak T p=lY z):fW T p f=f z (p+1):=by
 unfold fW;rw [h];exact if_pos rfl
theorem iy {T:List Tk} {n:Nat} {i:Int} (h:i.natAbs < 10 ^ 60) (hn:3<=n):Rd T (prs T n "number") (.int i,[aK i]):=λq r hT=>by
 obtain ⟨n,rfl⟩:=aAt hn;obtain ⟨e,_,_⟩:=az (t:=tokS (aK i)) (l:=r) hT;rw [qO T n q (.inl rfl)];unfold dv;rw [e,e8 h,if_pos rfl]
 rfl
theorem i9 {T:List Tk} {n:Nat} {z:Str} (h:NmC z) (hn:3<=n):Rd T (prs T n "word") (.str z,[z]):=λq r hT=>by
 obtain ⟨n,rfl⟩:=aAt hn;obtain ⟨e,_,_⟩:=az (t:=tokS z) (l:=r) hT;rw [qO T n q (.inr rfl)];unfold dv;rw [e,h.tk,if_pos rfl]
 rfl
theorem fD {T:List Tk} {p:Nat} {w:Str} {ws:List Str} {rest:List Tk} (hw:NmC w) (hT:T.drop p=(brW w ws).map tokS++rest):ak T p=lY w/\T.drop (p+1)=tokS "(" :: ((ws++[(")" : Str)]).map tokS++rest):=by
 have e0:(brW w ws).map tokS++rest=tokS w :: (tokS "(" :: ((ws++[(")" : Str)]).map tokS++rest)):=by simp [brW]
 rw [e0] at hT;obtain ⟨e1,hT1,_⟩:=az hT;exact ⟨e1.trans hw.tk,hT1⟩
theorem di (w:Str) (ws:List Str):(brW w ws).length=ws.length+3:=by simp [brW]
theorem gY {T:List Tk} {n p:Nat} {w:Str} {fs:List Str} {its:List (Dt×List Str)} {rest:List Tk} (hw:NmC w) (n1:¬ w= "choice") (n2:¬ w= "record") (hf:aP "kind" w=some fs) (hl:its.length=fs.length) (hr:∀ x∈fs.zip its,Rd T (prs T n x.1) x.2)
  (hT:T.drop p=(brW w (sepW (its.map (·.2)))).map tokS++rest):prs T (n+3) "kind" p=.ok (.tup (.str w :: exL w (its.map (·.1)))) (p+(brW w (sepW (its.map (·.2)))).length):=by
 obtain ⟨e1,hT1⟩:=fD hw hT;rw [md];unfold nE;rw [bn e1,if_neg n1,if_neg n2,i8 hf hl hr hT1];show PR.ok (Dt.tup (Dt.str w :: exL w (its.map (·.1)))) _=_
 congr 1
 rw [di];lia
theorem KW.head {n:Nat} {d:Dt} {ws:List Str} (h:KW n d ws):∃ w r,ws=w :: r/\NmC w:=by
 cases h <;> exact ⟨_,_,rfl,bv _ (by simp)⟩
theorem KW.parse {k:Nat} {d:Dt} {ws:List Str} (h:KW k d ws):∀ (T:List Tk) (m:Nat),5*k+3<=m->Rd T (prs T m "kind") (d,ws):=by
 induction h with
 | number n i j hi hj =>
  intro T m hm q r hT;obtain ⟨m,rfl⟩:=aAt (show 3<=m by lia);have:=gY (T:=T) (n:=m) (p:=q) (w:= "number") (fs:=["number","number"]) (its:=[(.int i,[aK i]),(.int j,[aK j])]) (rest:=r) (bv _ (by simp)) (4) (4) (4) rfl (λx hx=>by
   rcases aAn.mp hx with rfl | hx
   ·exact iy hi (3)
   ·rw [aAp.mp hx];exact iy hj (3)) hT
  rw [this]
  rfl
 | text n i hi =>
  intro T m hm q r hT;obtain ⟨m,rfl⟩:=aAt (show 3<=m by lia);have:=gY (T:=T) (n:=m) (p:=q) (w:= "text") (fs:=["number"]) (its:=[(.int i,[aK i])]) (rest:=r) (bv _ (by simp)) (4) (4) (4) rfl (λx hx=>by
   rw [aAp.mp hx];exact iy hi (3)) hT
  rw [this]
  rfl
 | @list n k kw i hk hi ih =>
  intro T m hm q r hT;obtain ⟨m,rfl⟩:=aAt (show 3<=m by lia);have:=gY (T:=T) (n:=m) (p:=q) (w:= "list") (fs:=["number","kind"]) (its:=[(.int i,[aK i]),(k,kw)]) (rest:=r) (bv _ (by simp)) (4) (4) (4) rfl (λx hx=>by
   rcases aAn.mp hx with rfl | hx
   ·exact iy hi (3)
   ·rw [aAp.mp hx];exact ih T m (3)) hT
  rw [this]
  rfl
 | @rows n z k kw i hz hk hi ih =>
  intro T m hm q r hT;obtain ⟨m,rfl⟩:=aAt (show 3<=m by lia);have:=gY (T:=T) (n:=m) (p:=q) (w:= "rows") (fs:=["word","number","kind"]) (its:=[(.str z,[z]),(.int i,[aK i]),(k,kw)]) (rest:=r) (bv _ (by simp)) (4) (4) (4) rfl (λx hx=>by
   rcases aAn.mp hx with rfl | hx
   ·exact i9 hz (3)
   rcases aAn.mp hx with rfl | hx
   ·exact iy hi (3)
   ·rw [aAp.mp hx];exact ih T m (3)) hT
  rw [this]
  rfl
 | choice n zs h0 h8 hz =>
  intro T m hm q r hT;obtain ⟨m,rfl⟩:=aAt (show 3<=m by lia);obtain ⟨e1,hT1⟩:=fD (bv _ (by simp)) hT;obtain ⟨e2,hT2,_⟩:=az hT1;rw [md];unfold nE;rw [bn e1,if_pos rfl,aB (e2.trans (aO "(" (4)).1)];have es:zs.map (λz=>[z])=(zs.map λz=>(Dt.str z,[z])).map (·.2):=by rw [aAQ];rfl
  rw [es] at hT2;rw [dY (its:=zs.map λz=>(Dt.str z,[z])) (cl:= ")") (4) (4) (λit hit=>by
   obtain ⟨z,hz',rfl⟩:=aAm.mp hit;exact i9 (hz z hz') (3)) (λit hit=>by
   obtain ⟨z,hz',rfl⟩:=aAm.mp hit;exact ⟨z,[],rfl,by rw [(hz z hz').tk];exact nI _ _⟩) hT2]
  cases zs with
  | nil=>exact absurd rfl h0
  | cons z zs =>
   show PR.ok (Dt.tup [Dt.str "choice",Dt.tup (((z :: zs).map λz=>(Dt.str z,[z])).map (·.1))]) _=_;rw [<- es,aAQ]
   congr 1
   show _=q+(brW _ _).length;rw [di];lia
 | @rcd n gs h8 hz hk ih =>
  intro T m hm q r hT;obtain ⟨m,rfl⟩:=aAt (show 6<=m by lia);obtain ⟨e1,hT1⟩:=fD (bv _ (by simp)) hT;obtain ⟨e2,hT2,_⟩:=az hT1;rw [md];unfold nE;rw [bn e1,if_neg (4),if_pos rfl,aB (e2.trans (aO "(" (4)).1)];have es:gs.map fw3=(gs.map λg=>(pr3 g,fw3 g)).map (·.2):=by rw [aAQ];rfl
  rw [es] at hT2;rw [dY (its:=gs.map λg=>(pr3 g,fw3 g)) (cl:= ")") (4) (4) (λit hit=>by
   obtain ⟨g,hg,rfl⟩:=aAm.mp hit;intro q r hT;have e0:(fw3 g).map tokS++r=tokS g.1 :: (tokS ":" :: (g.2.2.map tokS++r)):=by simp
   rw [show ((pr3 g,fw3 g):Dt×List Str).2=fw3 g from rfl,e0] at hT;obtain ⟨a1,hT1,_⟩:=az hT;obtain ⟨a2,hT2,_⟩:=az hT1;rw [ve];unfold kj;rw [bn (a1.trans (hz g hg).tk),aB (a2.trans (aO ":" (4)).1),ih g hg T (m+1) (3) _ _ hT2];show PR.ok (Dt.tup [Dt.str g.1,g.2.1]) _=_
   congr 1
   simp;lia) (λit hit=>by
   obtain ⟨g,hg,rfl⟩:=aAm.mp hit;exact ⟨g.1,_,rfl,by rw [(hz g hg).tk];exact nI _ _⟩) hT2]
  show PR.ok (Dt.tup [Dt.str "record",Dt.tup ((gs.map λg=>(pr3 g,fw3 g)).map (·.1))]) _=_;rw [<- es,aAQ]
  congr 1
  show _=q+(brW _ _).length;rw [di];lia
def aC (ws:List Str):Nat:=(ws.map λw=>w.length+3).sum
theorem aY (a b:List Str):aC (a++b)=aC a+aC b:=by simp [aC]
theorem au (w:Str) (a:List Str):aC (w :: a)=w.length+3+aC a:=by simp [aC]
theorem bh (ws:List Str):ws.length<=aC ws:=by
 induction ws with
 | nil=>exact aAo _
 | cons w ws ih=>rw [au,aAb];lia
theorem qP {w:Str} {ws:List Str} (h:w∈ws):w.length+3<=aC ws:=by
 induction ws with
 | nil=>cases h
 | cons x ws ih =>
  rw [au];rcases aAn.mp h with rfl | h
  ·lia
  ·have:=ih h;lia
theorem vg:(Str.ofString ",").length=1/\(Str.ofString "(").length=1/\(Str.ofString ")").length=1/\(Str.ofString ":").length=1:=(4)
theorem bW (w:Str) (ws:List Str):aC (brW w ws)=w.length+11+aC ws:=by
 unfold brW;rw [aY,aY,au,au,au,vg.2.1,vg.2.2.1];simp only [aC,aA3,aBp];lia
theorem cV:∀ wss:List (List Str),aC (sepW wss)<=(wss.map λx=>aC x+4).sum
 | []=>aAo _
 | [x]=>by simp [sepW]
 | x :: y :: r=>by
  have:=cV (y :: r);simp only [sepW];rw [aY,aY,au,vg.1,aAq,aAV];simp only [aC,aA3,aBp] at this ⊢;lia
theorem fE:∀ (ws:List Str) (bs:List Nat),(∀ b∈bs,b<=2)->(aW ws bs).length<=aC ws
 | [],_,_=>by simp [aW]
 | _ :: _,[],_=>by simp [aW]
 | w :: ws,b :: bs,h=>by
  have:=fE ws bs λx hx=>h x (aAf _ hx);have hb:=h b aAh;simp only [aW];rw [aAc,aAc,aAW,au,am];lia
theorem me {z:Str} (h:eY z=true):NmC z:=by
 unfold eY at h;simp only [aAB,decide_eq_true_eq] at h;refine ⟨?_,h.1.1.1,h.1.1.2⟩;rw [<- h.2]
 congr 1
 funext c
 exact (PySem.StrLaws.found_one letS c).symm
theorem ja {i:Int} (h:i.natAbs < 10 ^ 35):(aK i).length<=36:=by
 rw [<- am,gq];have:=ou 34 i.natAbs h;unfold eU
 split
 ·rw [aAb];lia
 ·lia
theorem e9 {i:Int} (h:i.natAbs < 10 ^ 35):i.natAbs < 10 ^ 60:=aAk h (4)
theorem qQ {i:Int} (h1:-1000000000000000000000000000000<=i) (h2:i<=1000000000000000000000000000000):i.natAbs < 10 ^ 35:=aBb (show i.natAbs<=1000000000000000000000000000000 by lia) (4)
theorem y4 {n:Nat}:∀ gs:List G4,(∀ g∈gs,∃ ws,KW n g.2.1 ws/\aC ws<=400*g.2.2.2)->(∀ g∈gs,eY g.1=true)->∃ g3:List G3,g3.map pr3=gs.map prG/\g3.length=gs.length/\(∀ g∈g3,NmC g.1)/\(∀ g∈g3,KW n g.2.1 g.2.2)/\((g3.map fw3).map λx=>aC x+4).sum<=400*jI (gs.map (·.2.2.2))+20*gs.length
 | [],_,_=>⟨[],rfl,rfl,(λ_ h=>nomatch h),(λ_ h=>nomatch h),aAE _⟩
 | g :: gs,h1,h2=>by
  obtain ⟨ws,hw,hl⟩:=h1 g aAh;obtain ⟨g3,e1,e2,e3,e4,e5⟩:=y4 gs (λx hx=>h1 x (aAf _ hx)) λx hx=>h2 x (aAf _ hx);have hn:=me (h2 g aAh);refine ⟨(g.1,g.2.1,ws) :: g3,by rw [aAq,aAq,e1],by rw [aAb,aAb,e2],λx hx=>?_,λx hx=>?_,?_⟩
  ·rcases aAn.mp hx with rfl | hx
   ·exact hn
   ·exact e3 x hx
  ·rcases aAn.mp hx with rfl | hx
   ·exact hw
   ·exact e4 x hx
  ·rw [aAq,aAq,aAV,aAq,aAb];show aC ([g.1,":"]++ws)+4+_<=400*(g.2.2.2+jI (gs.map (·.2.2.2)))+_;rw [aY,au,au,vg.2.2.2,show aC []=0 from rfl];have:=hn.2.2;lia
theorem FK.kw {a c:Nat} {d:Dt} (h:FK a c d):∀ n,a<=n->∃ ws,KW n d ws/\aC ws<=400*c:=by
 have wl:∀ z∈([("number" : Str),"text","choice","list","rows","record"]),z.length<=8:=λz hz=>(bv z hz).2.2;have one:∀ z:Str,aC [z]=z.length+3:=λz=>by simp [aC]
 induction h with
 | text i h1 h2 =>
  intro n hn;obtain ⟨n,rfl⟩:=aAt hn;have hi:=qQ (i:=i) (3) (3);refine ⟨_,.text n i (e9 hi),?_⟩;have s:=cV [[aK i]];simp only [aAq,aA3,aAV,aBp,one] at s;have:=ja hi;have:=wl "text" (by simp);rw [bW];lia
 | number i j h1 h2 h3 =>
  intro n hn;obtain ⟨n,rfl⟩:=aAt hn;have hi:=qQ (i:=i) (3) (3);have hj:=qQ (i:=j) (3) (3);refine ⟨_,.number n i j (e9 hi) (e9 hj),?_⟩;have s:=cV [[aK i],[aK j]];simp only [aAq,aA3,aAV,aBp,one] at s;have:=ja hi;have:=ja hj;have:=wl "number" (by simp);rw [bW];lia
 | choice ws hw =>
  intro n hn;obtain ⟨n,rfl⟩:=aAt hn;unfold jH at hw;simp only [aAB,decide_eq_true_eq] at hw;have hz:∀ z∈ws,NmC z:=λz hz=>me (aAP.mp hw.1.2 z hz);refine ⟨_,.choice n ws (λe=>by rw [e] at hw;exact absurd hw.1.1.1 (by decide)) hw.1.1.2 hz,?_⟩;have s:=cV (ws.map λz=>[z]);have key:∀ l:List Str,(∀ z∈l,NmC z)->((l.map λz=>[z]).map λx=>aC x+4).sum<=15*l.length:=by
   intro l
   induction l with
   | nil=>intro _;exact aAo _
   | cons z l ih =>
    intro h;have:=ih λx hx=>h x (aAf _ hx);have:=(h z aAh).2.2;rw [aAq,aAq,aAV,one,aAb];lia
  have k:=key ws hz;have:=wl "choice" (by simp);have:=hw.1.1.2;rw [bW];lia
 | @list a c k i hk h1 h2 ih =>
  intro n hn;obtain ⟨n,rfl⟩:=aAt (show 1<=n by lia);obtain ⟨kw,hkw,hl⟩:=ih n (3);have hi:=qQ (i:=i) (3) (3);refine ⟨_,.list hkw (e9 hi),?_⟩;have s:=cV [[aK i],kw];simp only [aAq,aA3,aAV,aBp,one] at s;have:=ja hi;have:=wl "list" (by simp);rw [bW];lia
 | @rows a c z l i hk hkey h1 h2 ih =>
  intro n hn;obtain ⟨n,rfl⟩:=aAt (show 1<=n by lia);obtain ⟨kw,hkw,hl⟩:=ih n (3);have hi:=qQ (i:=i) (3) (3);have hz:NmC z:=by
   obtain ⟨w',r',hm,_⟩:=hkey
   cases hk with
   | @rcd gs g1 g2 g3 g4 =>
    obtain ⟨g,hg,e⟩:=aAm.mp hm;have:g.1=z:=by injection e with e;injection e with e;injection e
    exact this ▸ me (g3 g hg).1
  refine ⟨_,.rows hz hkw (e9 hi),?_⟩;have s:=cV [[z],[aK i],kw];simp only [aAq,aA3,aAV,aBp,one] at s;have:=ja hi;have:=hz.2.2;have:=wl "rows" (by simp);rw [bW];lia
 | @rcd gs h1 h2 h3 h4 ih =>
  intro n hn;obtain ⟨n,rfl⟩:=aAt (show 1<=n by lia);obtain ⟨g3,e1,e2,e3,e4,e5⟩:=y4 (n:=n) gs (λg hg=>ih g hg n (by
   have:=wD (aBA (f:=λg:G4=>g.2.2.1) hg);lia)) λg hg=>(h3 g hg).1
  rw [<- e1];refine ⟨_,.rcd (3) e3 e4,?_⟩;have s:=cV (g3.map fw3);have:=wl "record" (by simp);rw [bW];lia
def quo (z:Str):Str:=Str.ofString "\"" ++z++Str.ofString "\""
theorem xu:(Str.ofString "\"").cps.toList=[34]/\(Str.ofString "\"").length=1:=(4)
theorem oZ (z:Str):(quo z).cps.toList=34 :: (z.cps.toList++[34]):=by
 unfold quo;rw [aI,aI,xu.1]
 rfl
theorem tX {z:Str} (h:okT z):(mkW (34 :: (z.cps.toList++[34]))).map toTk=some (tS z):=by
 have e:((34 :: (z.cps.toList++[34])).drop 1).dropLast=z.cps.toList:=by simp
 unfold mkW;rw [e,if_neg (l7 (4)),if_pos ⟨rfl,aAP.mpr h⟩,gW]
 rfl
theorem fc {z:Str} (h:okT z):tokS (quo z)=tS z:=by
 unfold tokS;rw [oZ,tX h]
 rfl
theorem qR {z:Str} (h:okT z):lZ (quo z):=by
 intro r _ _;rw [fc h,oZ];exact Cm (aAP.mpr λc hc=>by
  have:=h c hc;unfold okC at this;simp only [aAB,aBI,decide_eq_false_iff_not] at this
  simpa using this.1.2) (tX h)
theorem yu (z:Str):blk (quo z)=0:=by
 unfold blk;refine if_neg λx=>?_;have key:∀ y:Str,(y= "," \/y= ":" \/y= ";")->y.cps.toList.head?≠some 34:=by
  rintro y (rfl | rfl | rfl) <;> decide +kernel
 exact key _ x (by rw [oZ];rfl)
def enc (a:Str) (ws:List Str) (b:Str):List Str:=([a]++ws)++[b]
theorem kQ (a:Str) (ws:List Str) (b:Str):(enc a ws b).length=ws.length+2:=by simp [enc]
theorem GW.en {a b:Str} {ws:List Str} (ha:a∈markL) (hb:b∈markL) (h:GW ws):GM (enc a ws b):=((GM.one ha).then h).mk hb
inductive VW:Nat->Dt->List Str->Prop
 | int (n:Nat) (i:Int):i.natAbs < 10 ^ 60->VW n (.int i) [aK i]
 | str (n:Nat) (z:Str):okT z->z.length<=60->VW n (.str z) [quo z]
 | list {n:Nat} {its:List (Dt×List Str)}:its.length<=8->(∀ it∈its,VW n it.1 it.2)->VW (n+1) (mk2 "list" (.tup (its.map (·.1)))) (enc "[" (sepW (its.map (·.2))) "]")
 | rows {n:Nat} {its:List (Dt×List Str)}:its.length<=8->(∀ it∈its,VW n it.1 it.2)->VW (n+1) (mk2 "rows" (.tup (its.map (·.1)))) (enc "(" (sepW (its.map (·.2))) ")")
 | rcd {n:Nat} {gs:List G3}:gs.length<=8->(∀ g∈gs,NmC g.1)->(∀ g∈gs,VW n g.2.1 g.2.2)->VW (n+1) (mk2 "record" (.tup (gs.map pr3))) (enc "{" (sepW (gs.map fw3)) "}")
theorem VW.gw {n:Nat} {d:Dt} {ws:List Str} (h:VW n d ws):GW ws:=by
 induction h with
 | int n i hi=>exact GW.one (i7 hi)
 | str n z hz _=>exact GW.one (qR hz)
 | list h8 hk ih=>exact (GW.en (4) (4) (GW.sep λx hx=>by
   obtain ⟨it,h,rfl⟩:=aAm.mp hx;exact ih it h)).gw
 | rows h8 hk ih=>exact (GW.en (4) (4) (GW.sep λx hx=>by
   obtain ⟨it,h,rfl⟩:=aAm.mp hx;exact ih it h)).gw
 | rcd h8 hz hk ih=>exact (GW.en (4) (4) (GW.sep λx hx=>by
   obtain ⟨g,h,rfl⟩:=aAm.mp hx;exact (GW.mk (a:=[g.1]) (m:= ":") (GW.one (hz g h).good) (4)).then (ih g h))).gw
theorem xv {n:Nat} {z:Str} (h:okT z):BD n [quo z]:=by
 refine BD.flat ?_ ?_ <;> (rw [fc h];exact xn _ _)
theorem BD.en {n:Nat} {a b:Str} {ws:List Str} (a1:upT "([{" (tokS a)=true) (a2:upT ")]}" (tokS a)=false) (b1:upT "([{" (tokS b)=false) (b2:upT ")]}" (tokS b)=true) (h:BD n ws):BD (n+1) (enc a ws b):=λp hp=>by
 unfold enc;rw [aAr,aAr,aBh,aBh];have e1:([a].map tokS).foldl stT p=(max p.1 (p.2+1),p.2+1):=tV a1 a2;rw [e1];obtain ⟨g1,g2,g3⟩:=h (max p.1 (p.2+1),p.2+1) (by show p.2+1<=max p.1 (p.2+1);lia)
 revert g1 g2 g3
 generalize (ws.map tokS).foldl stT (max p.1 (p.2+1),p.2+1)=r
 intro g1 g2 g3;have e2:([b].map tokS).foldl stT r=(r.1,r.2 - 1):=qK b1 b2 (by dsimp only at g1 g2 g3;lia);rw [e2];dsimp only at g1 g2 g3 ⊢;lia
theorem VW.bd {n:Nat} {d:Dt} {ws:List Str} (h:VW n d ws):BD n ws:=by
 induction h with
 | int n i hi=>exact gy hi
 | str n z hz _=>exact xv hz
 | list h8 hk ih=>exact BD.en (4) (4) (4) (4) (BD.sep λx hx=>by
   obtain ⟨it,h,rfl⟩:=aAm.mp hx;exact ih it h)
 | rows h8 hk ih=>exact BD.en (4) (4) (4) (4) (BD.sep λx hx=>by
   obtain ⟨it,h,rfl⟩:=aAm.mp hx;exact ih it h)
 | rcd h8 hz hk ih=>exact BD.en (4) (4) (4) (4) (BD.sep λx hx=>by
   obtain ⟨g,h,rfl⟩:=aAm.mp hx;exact ((hz g h).bd.app (BD.flat (w:= ":") (4) (4))).app (ih g h))
theorem fe (T:List Tk) (n p:Nat):prs T (n+3) "value" p=dh T (prs T n) p:=by
 simp only [prs];rw [if_pos trivial]
theorem vh (T:List Tk) (n p:Nat):prs T (n+3) "entry" p=kj T (prs T (n+1)) "value" p:=by
 simp only [prs];rw [if_neg (4),if_neg (4),if_neg (4),if_neg (4),if_neg (4),if_neg (4)]
 rfl
theorem qS (i:Int) (m:Str):¬ yp i=aN m:=λc=>absurd (show (Str.ofString "number")=Str.ofString "mark" from congrArg Prod.fst c) (4)
theorem qT (z m:Str):¬ tS z=aN m:=λc=>absurd (show (Str.ofString "text")=Str.ofString "mark" from congrArg Prod.fst c) (4)
theorem VW.head {n:Nat} {d:Dt} {ws:List Str} (h:VW n d ws):∃ w r,ws=w :: r/\¬ tokS w=aN "]" /\¬ tokS w=aN ")" :=by
 cases h with
 | int _ _ hi=>exact ⟨_,_,rfl,by rw [e8 hi];exact qS _ _,by rw [e8 hi];exact qS _ _⟩
 | str _ _ hz _=>exact ⟨_,_,rfl,by rw [fc hz];exact qT _ _,by rw [fc hz];exact qT _ _⟩
 | list=>exact ⟨_,_,rfl,(4),(4)⟩
 | rows=>exact ⟨_,_,rfl,(4),(4)⟩
 | rcd=>exact ⟨_,_,rfl,(4),(4)⟩
theorem mf {T:List Tk} {p:Nat} {a b:Str} {ws:List Str} {rest:List Tk} (hT:T.drop p=(enc a ws b).map tokS++rest):ak T p=tokS a/\T.drop (p+1)=(ws++[b]).map tokS++rest:=by
 have e0:(enc a ws b).map tokS++rest=tokS a :: ((ws++[b]).map tokS++rest):=by simp [enc]
 rw [e0] at hT;obtain ⟨e1,hT1,_⟩:=az hT;exact ⟨e1,hT1⟩
theorem gZ:tokS "[" = aN "[" /\tokS "{" = aN "{" /\tokS "(" = aN "(" /\¬ aN "{" = aN "[" /\¬ aN "(" = aN "[" /\¬ aN "(" = aN "{" :=(4)
theorem VW.parse {k:Nat} {d:Dt} {ws:List Str} (h:VW k d ws):∀ (T:List Tk) (m:Nat),5*k+3<=m->Rd T (prs T m "value") (d,ws):=by
 induction h with
 | int n i hi =>
  intro T m hm q r hT;obtain ⟨m,rfl⟩:=aAt (show 3<=m by lia);obtain ⟨e,_,_⟩:=az (t:=tokS (aK i)) (l:=r) hT;rw [e8 hi] at e;rw [fe];unfold dh dv;rw [e,if_neg (qS _ _),if_neg (qS _ _),if_neg (qS _ _),if_pos rfl,if_pos rfl]
  rfl
 | str n z hz _ =>
  intro T m hm q r hT;obtain ⟨m,rfl⟩:=aAt (show 3<=m by lia);obtain ⟨e,_,_⟩:=az (t:=tokS (quo z)) (l:=r) hT;rw [fc hz] at e;rw [fe];unfold dh dv;rw [e,if_neg (qT _ _),if_neg (qT _ _),if_neg (qT _ _),if_neg (show ¬ (Str.ofString "text")=Str.ofString "number" by decide +kernel),if_pos rfl]
  rfl
 | @list n its h8 hk ih =>
  intro T m hm q r hT;obtain ⟨m,rfl⟩:=aAt (show 3<=m by lia);obtain ⟨e,hT1⟩:=mf hT;rw [gZ.1] at e;rw [fe];unfold dh;rw [e,if_pos rfl,dY (its:=its) (cl:= "]") (4) (4) (λit hit=>ih it hit T m (3)) (λit hit=>by
   obtain ⟨w,r,e,h1,_⟩:=(hk it hit).head;exact ⟨w,r,e,h1⟩) hT1]
  show PR.ok _ _=PR.ok _ (q+(enc _ _ _).length);rw [kQ]
  congr 1
  lia
 | @rows n its h8 hk ih =>
  intro T m hm q r hT;obtain ⟨m,rfl⟩:=aAt (show 3<=m by lia);obtain ⟨e,hT1⟩:=mf hT;rw [gZ.2.2.1] at e;rw [fe];unfold dh;rw [e,if_neg gZ.2.2.2.2.1,if_neg gZ.2.2.2.2.2,if_pos rfl,dY (its:=its) (cl:= ")") (4) (4) (λit hit=>ih it hit T m (3)) (λit hit=>by
   obtain ⟨w,r,e,_,h1⟩:=(hk it hit).head;exact ⟨w,r,e,h1⟩) hT1]
  show PR.ok _ _=PR.ok _ (q+(enc _ _ _).length);rw [kQ]
  congr 1
  lia
 | @rcd n gs h8 hz hk ih =>
  intro T m hm q r hT;obtain ⟨m,rfl⟩:=aAt (show 6<=m by lia);obtain ⟨e,hT1⟩:=mf hT;rw [gZ.2.1] at e;have es:gs.map fw3=(gs.map λg=>(pr3 g,fw3 g)).map (·.2):=by rw [aAQ];rfl
  rw [es] at hT1;rw [fe];unfold dh;rw [e,if_neg gZ.2.2.2.1,if_pos rfl,dY (its:=gs.map λg=>(pr3 g,fw3 g)) (cl:= "}") (4) (4) (λit hit=>by
   obtain ⟨g,hg,rfl⟩:=aAm.mp hit;intro q r hT;have e0:(fw3 g).map tokS++r=tokS g.1 :: (tokS ":" :: (g.2.2.map tokS++r)):=by simp
   rw [show ((pr3 g,fw3 g):Dt×List Str).2=fw3 g from rfl,e0] at hT;obtain ⟨a1,hT1,_⟩:=az hT;obtain ⟨a2,hT2,_⟩:=az hT1;rw [vh];unfold kj;rw [bn (a1.trans (hz g hg).tk),aB (a2.trans (aO ":" (4)).1),ih g hg T (m+1) (3) _ _ hT2];show PR.ok (Dt.tup [Dt.str g.1,g.2.1]) _=_
   congr 1
   simp;lia) (λit hit=>by
   obtain ⟨g,hg,rfl⟩:=aAm.mp hit;exact ⟨g.1,_,rfl,by rw [(hz g hg).tk];exact nI _ _⟩) hT1]
  show PR.ok (mk2 "record" (Dt.tup ((gs.map λg=>(pr3 g,fw3 g)).map (·.1)))) _=_;rw [<- es,aAQ];show PR.ok _ _=PR.ok _ (q+(enc _ _ _).length);rw [kQ]
  congr 1
  lia
abbrev wyD (p:Str×Str):Dt:=.tup [.str p.1,.str p.2]
abbrev wyW (p:Str×Str):List Str:=[p.1,":",p.2]
inductive TW:Nat->Dt->List Str->Prop
 | nums (n:Nat) (w:Str) (js:List Int):NmC w->¬ w= "words" ->aP "turn" w=some (js.map λ_=>("number" : Str))->(∀ i∈js,i.natAbs < 10 ^ 60)->TW (n+1) (.tup (.str w :: js.map Dt.int)) (brW w (sepW (js.map λi=>[aK i])))
 | items {n:Nat} {t:Dt} {tw:List Str}:TW n t tw->TW (n+1) (.tup [.str "items",t]) (brW "items" (sepW [tw]))
 | words (n:Nat) (fo:List Str) (bk:List (Str×Str)):fo≠[]->bk≠[]->fo.length<=8->bk.length<=8->(∀ z∈fo,NmC z)->(∀ p∈bk,NmC p.1/\NmC p.2)->TW (n+1) (.tup [.str "words",.tup (fo.map Dt.str),.tup (bk.map wyD)]) (brW "words" ((sepW (fo.map λz=>[z])++[(";" : Str)])++sepW (bk.map wyW)))
theorem dZ:NmC "words" /\NmC "items" :=⟨⟨by decide +kernel,(4),(4)⟩,⟨by decide +kernel,(4),(4)⟩⟩
theorem TW.gm {n:Nat} {d:Dt} {ws:List Str} (h:TW n d ws):GM ws:=by
 induction h with
 | nums n w js hw _ _ hj=>exact GW.br hw.good (GW.sep λx hx=>by
   obtain ⟨i,hi,rfl⟩:=aAm.mp hx;exact GW.one (i7 (hj i hi)))
 | items _ ih=>exact GW.br dZ.2.good ih.gw
 | words n fo bk _ _ _ _ hf hb=>exact GW.br dZ.1.good ((GW.mk (m:= ";") (GW.sep λx hx=>by
   obtain ⟨z,hz,rfl⟩:=aAm.mp hx;exact GW.one (hf z hz).good) (4)).then (GW.sep λx hx=>by
   obtain ⟨p,hp,rfl⟩:=aAm.mp hx;exact (GW.mk (a:=[p.1]) (m:= ":") (GW.one (hb p hp).1.good) (4)).then (GW.one (hb p hp).2.good)))
theorem TW.bd {n:Nat} {d:Dt} {ws:List Str} (h:TW n d ws):BD n ws:=by
 induction h with
 | nums n w js hw _ _ hj=>exact BD.br hw (BD.sep λx hx=>by
   obtain ⟨i,hi,rfl⟩:=aAm.mp hx;exact gy (hj i hi))
 | items _ ih=>exact BD.br dZ.2 ih
 | words n fo bk _ _ _ _ hf hb=>exact BD.br dZ.1 (((BD.sep λx hx=>by
   obtain ⟨z,hz,rfl⟩:=aAm.mp hx;exact (hf z hz).bd).app (BD.flat (w:= ";") (4) (4))).app (BD.sep λx hx=>by
   obtain ⟨p,hp,rfl⟩:=aAm.mp hx;exact ((hb p hp).1.bd.app (BD.flat (w:= ":") (4) (4))).app (hb p hp).2.bd))
theorem mh (T:List Tk) (n p:Nat):prs T (n+3) "turn" p=nF T (prs T n) p:=by
 simp only [prs];rw [if_neg (4),if_neg (4),if_pos trivial]
theorem vi (T:List Tk) (n p:Nat):prs T (n+3) "piece" p=fW T p λw q=>ie T (prs T n) "piece" w q:=by
 simp only [prs];rw [if_neg (4),if_neg (4),if_neg (4),if_pos trivial]
theorem yv (T:List Tk) (n p:Nat):prs T (n+3) "way" p=kj T (prs T (n+1)) "word" p:=by
 simp only [prs];rw [if_neg (4),if_neg (4),if_neg (4),if_neg (4),if_neg (4),if_neg (4)]
 rfl
theorem xw (T:List Tk) (n p:Nat):prs T (n+3) "text" p=dv T "text" p:=by
 simp only [prs];rw [if_neg (4),if_neg (4),if_neg (4),if_neg (4),if_neg (4),if_neg (4)]
 rfl
theorem TW.parse {k:Nat} {d:Dt} {ws:List Str} (h:TW k d ws):∀ (T:List Tk) (m:Nat),5*k+3<=m->Rd T (prs T m "turn") (d,ws):=by
 induction h with
 | nums n w js hw nw hf hj =>
  intro T m hm q r hT;obtain ⟨m,rfl⟩:=aAt (show 3<=m by lia);obtain ⟨e1,hT1⟩:=fD hw hT;have es:js.map (λi=>[aK i])=(js.map λi=>(Dt.int i,[aK i])).map (·.2):=by rw [aAQ];rfl
  rw [es] at hT1;rw [mh];unfold nF;rw [bn e1,if_neg nw,i8 (its:=js.map λi=>(Dt.int i,[aK i])) hf (by rw [aAa,aAa]) (λx hx=>by
   obtain ⟨s0,it0⟩:=x;obtain ⟨i,hi⟩:=aBj hx;obtain ⟨h1,h2⟩:=aAT.mp hi;rw [aAg] at h1 h2;obtain ⟨j,hj1,e1⟩:=aAi.mp h1;rw [hj1] at h2;obtain rfl:(Dt.int j,[aK j])=it0:=Option.some.inj h2;obtain rfl:("number" : Str)=s0:=e1;exact iy (hj j (aAs hj1)) (3)) hT1,aAQ,<- es]
  show PR.ok _ _=PR.ok _ (q+(brW _ _).length);rw [di]
  congr 1
  lia
 | @items n t tw ht ih =>
  intro T m hm q r hT;obtain ⟨m,rfl⟩:=aAt (show 3<=m by lia);obtain ⟨e1,hT1⟩:=fD dZ.2 hT;rw [mh];unfold nF;rw [bn e1,if_neg (4),i8 (fs:=["turn"]) (its:=[(t,tw)]) (4) rfl (λx hx=>by
   rw [aAp.mp hx];exact ih T m (3)) hT1]
  show PR.ok _ _=PR.ok _ (q+(brW _ _).length);rw [di]
  congr 1
  show q+1+1+(sepW [tw]).length+1=_;lia
 | words n fo bk f0 b0 _ _ hf hb =>
  intro T m hm q r hT;obtain ⟨m,rfl⟩:=aAt (show 6<=m by lia);obtain ⟨e1,hT1⟩:=fD dZ.1 hT;obtain ⟨e2,hT2,_⟩:=az hT1;have es:fo.map (λz=>[z])=(fo.map λz=>(Dt.str z,[z])).map (·.2):=by rw [aAQ];rfl
  have eb:bk.map wyW=(bk.map λp=>(wyD p,wyW p)).map (·.2):=by rw [aAQ];rfl
  rw [mh];unfold nF;rw [bn e1,if_pos rfl,aB (e2.trans (aO "(" (4)).1)];have h0:(((sepW (fo.map λz=>[z])++[(";" : Str)])++sepW (bk.map wyW))++[(")" : Str)]).map tokS++r=(sepW (fo.map λz=>[z])++[(";" : Str)]).map tokS++((sepW (bk.map wyW)++[(")" : Str)]).map tokS++r):=by simp
  rw [h0] at hT2;have hT3:=jR hT2;rw [aAa,aAc,aA2,<- Nat.add_assoc] at hT3;rw [es] at hT2;rw [dY (its:=fo.map λz=>(Dt.str z,[z])) (cl:= ";") (4) (4) (λit hit=>by
   obtain ⟨z,hz',rfl⟩:=aAm.mp hit;exact i9 (hf z hz') (3)) (λit hit=>by
   obtain ⟨z,hz',rfl⟩:=aAm.mp hit;exact ⟨z,[],rfl,by rw [(hf z hz').tk];exact nI _ _⟩) hT2,<- es]
  cases fo with
  | nil=>exact absurd rfl f0
  | cons z fo =>
   show (fS T (prs T (m+3) "way") ")" _).bind _=_;rw [eb] at hT3;rw [dY (its:=bk.map λp=>(wyD p,wyW p)) (cl:= ")") (rest:=r) (4) (4) (λit hit=>by
    obtain ⟨p,hp,rfl⟩:=aAm.mp hit;intro q r hT;have e0:(wyW p).map tokS++r=tokS p.1 :: (tokS ":" :: (([p.2]:List Str).map tokS++r)):=by simp
    rw [show ((wyD p,wyW p):Dt×List Str).2=wyW p from rfl,e0] at hT;obtain ⟨a1,hT1,_⟩:=az hT;obtain ⟨a2,hT2,_⟩:=az hT1;rw [yv];unfold kj;rw [bn (a1.trans (hb p hp).1.tk),aB (a2.trans (aO ":" (4)).1),i9 (T:=T) (n:=m+1) (hb p hp).2 (3) _ _ hT2]
    rfl) (λit hit=>by
    obtain ⟨p,hp,rfl⟩:=aAm.mp hit;exact ⟨p.1,_,rfl,by rw [(hb p hp).1.tk];exact nI _ _⟩) hT3,<- eb]
   cases bk with
   | nil=>exact absurd rfl b0
   | cons p bk =>
    show PR.ok (Dt.tup [Dt.str "words",Dt.tup (((z :: fo).map λz=>(Dt.str z,[z])).map (·.1)),Dt.tup (((p :: bk).map λp=>(wyD p,wyW p)).map (·.1))]) _=PR.ok _ (q+(brW _ _).length);rw [aAQ,aAQ,di]
    congr 1
    simp only [aAc,aAb,aAl];lia
inductive PartW (n:Nat):Str->Dt->List Str->Prop
 | word {z:Str}:NmC z->PartW n "word" (.str z) [z]
 | num {i:Int}:i.natAbs < 10 ^ 60->PartW n "number" (.int i) [aK i]
 | text {z:Str}:okT z->z.length<=60->PartW n "text" (.str z) [quo z]
 | value {d:Dt} {ws:List Str}:VW 4 d ws->PartW n "value" d ws
 | kind {d:Dt} {ws:List Str}:KW n d ws->PartW n "kind" d ws
 | turn {d:Dt} {ws:List Str}:TW n d ws->PartW n "turn" d ws
theorem PartW.gw {n:Nat} {s:Str} {d:Dt} {ws:List Str} (h:PartW n s d ws):GW ws:=by
 cases h with
 | word hz=>exact GW.one hz.good
 | num hi=>exact GW.one (i7 hi)
 | text hz _=>exact GW.one (qR hz)
 | value h=>exact h.gw
 | kind h=>exact h.gm.gw
 | turn h=>exact h.gm.gw
theorem PartW.bd {n:Nat} {s:Str} {d:Dt} {ws:List Str} (h:PartW n s d ws) (hn:4<=n):BD n ws:=by
 cases h with
 | word hz=>exact hz.bd
 | num hi=>exact gy hi
 | text hz _=>exact xv hz
 | value h=>exact h.bd.mono hn
 | kind h=>exact h.bd
 | turn h=>exact h.bd
theorem PartW.parse {n:Nat} {s:Str} {d:Dt} {ws:List Str} (h:PartW n s d ws) (hn:4<=n) (T:List Tk) (m:Nat) (hm:5*n+3<=m):Rd T (prs T m s) (d,ws):=by
 cases h with
 | word hz=>exact i9 hz (3)
 | num hi=>exact iy hi (3)
 | @text z hz _ =>
  intro q r hT;obtain ⟨m,rfl⟩:=aAt (show 3<=m by lia);obtain ⟨e,_,_⟩:=az (t:=tokS (quo z)) (l:=r) hT;rw [xw];unfold dv;rw [e,fc hz,if_pos rfl]
  rfl
 | value h=>exact h.parse T m (3)
 | kind h=>exact h.parse T m hm
 | turn h=>exact h.parse T m hm
def PW (d:Dt) (ws:List Str):Prop:=∃ (w:Str) (fs:List Str) (its:List (Dt×List Str)),NmC w/\aP "piece" w=some fs/\its.length=fs.length/\(∀ x∈fs.zip its,PartW 5 x.1 x.2.1 x.2.2)/\d=.tup (.str w :: its.map (·.1))/\ws=brW w (sepW (its.map (·.2)))
theorem tY {fs:List Str} {its:List (Dt×List Str)} (hl:its.length=fs.length) {it:Dt×List Str} (h:it∈its):∃ s,(s,it)∈fs.zip its:=by
 obtain ⟨i,hi⟩:=aBj h;have il:=(aAj.mp hi).1;exact ⟨_,aAs ((aAT (z:=(fs[i],it))).mpr ⟨aAv (3),hi⟩)⟩
theorem PW.gm {d:Dt} {ws:List Str} (h:PW d ws):GM ws:=by
 obtain ⟨w,fs,its,hw,hf,hl,hp,rfl,rfl⟩:=h;exact GW.br hw.good (GW.sep λx hx=>by
  obtain ⟨it,hi,rfl⟩:=aAm.mp hx;obtain ⟨s,hs⟩:=tY hl hi;exact (hp _ hs).gw)
theorem PW.bd {d:Dt} {ws:List Str} (h:PW d ws):BD 6 ws:=by
 obtain ⟨w,fs,its,hw,hf,hl,hp,rfl,rfl⟩:=h;exact BD.br hw (BD.sep λx hx=>by
  obtain ⟨it,hi,rfl⟩:=aAm.mp hx;obtain ⟨s,hs⟩:=tY hl hi;exact (hp _ hs).bd (by decide))
theorem PW.parse {d:Dt} {ws:List Str} (h:PW d ws) (T:List Tk) (m:Nat) (hm:31<=m):Rd T (prs T m "piece") (d,ws):=by
 obtain ⟨w,fs,its,hw,hf,hl,hp,rfl,rfl⟩:=h;intro q r hT;obtain ⟨m,rfl⟩:=aAt (show 3<=m by lia);obtain ⟨e1,hT1⟩:=fD hw hT;rw [vi,bn e1,i8 hf hl (λx hx=>(hp x hx).parse (by decide) T m (3)) hT1];show PR.ok _ _=PR.ok _ (q+(brW _ _).length);rw [di]
 congr 1
 lia
theorem mi {s:Str} {n:Nat} {d:Dt} {ws:List Str} {cs:List Nat} (hl:ck cs=some (ws.map tokS)) (hb:BD n ws) (hn:n<=40) (hp:prs (ws.map tokS) 60 s 0=.ok d (0+ws.length)):dC 60 s cs=some d:=by
 have hd:=(hb (0,0) (Int.le_refl _)).2.2;refine (yt hl ?_ hp ?_).1
 ·dsimp only at hd;lia
 ·exact sF (aA6 (by simp))
def slW:List Str->List Str
 | []=>[]
 | n :: ns=>("/" : Str) :: n :: slW ns
def pathW (ns:List Str):List Str:=if ns=[] then [("/" : Str)] else slW ns
theorem cH (n:Str) (ns:List Str):pathW (n :: ns)=("/" : Str) :: n :: slW ns:=if_neg (λc=>nomatch c)
theorem kR:∀ ns:List Str,(slW ns).length=2*ns.length
 | []=>rfl
 | n :: ns=>by
  show (slW ns).length+1+1=_;rw [kR ns,aAb];lia
theorem slW_gw:∀ {ns:List Str},(∀ z∈ns,NmC z)->GW (slW ns)
 | [],_=>λ_ _ g=>g
 | n :: ns,h=>λr hr g=>.mark (4) (.word (h n aAh).good (by
   cases ns with
   | nil=>exact hr
   | cons m ns=>exact λw e=>by cases e;decide +kernel) (slW_gw (λz hz=>h z (aAf _ hz)) r hr g))
theorem tZ {ns:List Str} (h:∀ z∈ns,NmC z):GW (pathW ns):=by
 cases ns with
 | nil=>exact (GM.one (4)).gw
 | cons n ns=>rw [cH];exact slW_gw h
theorem xx {k:Nat}:∀ {ns:List Str},(∀ z∈ns,NmC z)->BD k (slW ns)
 | [],_=>BD.nil k
 | n :: ns,h=>((BD.flat (w:= "/") (4) (4)).app (h n aAh).bd).app (xx λz hz=>h z (aAf _ hz))
theorem uc {k:Nat} {ns:List Str} (h:∀ z∈ns,NmC z):BD k (pathW ns):=by
 cases ns with
 | nil=>exact BD.flat (w:= "/") (4) (4)
 | cons n ns=>rw [cH];exact xx h
def RO (r:List Tk):Prop:=r=[]\/∃ w l,r=lY w :: aN "(" :: l
theorem RO.no {T r:List Tk} {p:Nat} (h:RO r) (hT:T.drop p=r) (m:Str):¬ ak T p=aN m:=by
 rcases h with rfl | ⟨w,l,rfl⟩
 ·rw [sF hT];intro c;injection c with c _
  exact absurd c (4)
 ·rw [(az hT).1];exact nI _ _
theorem sG:tokS "/" = aN "/" :=(aO "/" (4)).1
theorem nJ {T r:List Tk} (ro:RO r):∀ (ns:List Str) (m p:Nat) (fs:List Dt),(∀ z∈ns,NmC z)->ns.length < m->T.drop p=(slW ns).map tokS++r->km T m p fs=.ok (.tup (fs++ns.map Dt.str)) (p+(slW ns).length)
 | _,0,_,_,_,h,_=>absurd h (aBx _)
 | [],m+1,p,fs,_,_,hT=>by
  simp only [km];rw [if_neg (ro.no hT "/"),aA3,aAJ]
  rfl
 | n :: ns,m+1,p,fs,h,hm,hT=>by
  obtain ⟨a,b,_⟩:=az (t:=tokS "/") (l:=tokS n :: ((slW ns).map tokS++r)) hT;obtain ⟨a1,b1,_⟩:=az b;simp only [km];rw [a,sG,if_pos rfl,bn (a1.trans (h n aAh).tk),nJ ro ns m _ _ (λz hz=>h z (aAf _ hz)) (aB0 hm) b1,aAD]
  congr 1
  show _=p+((slW ns).length+1+1);lia
theorem ud {ns:List Str} (hz:∀ z∈ns,NmC z) {T r:List Tk} {p:Nat} (ro:RO r) (hT:T.drop p=(pathW ns).map tokS++r):i0 T p=.ok (.tup (ns.map Dt.str)) (p+(pathW ns).length):=by
 cases ns with
 | nil =>
  obtain ⟨a,b,_⟩:=az (t:=tokS "/") (l:=r) hT;unfold i0;rw [aB (a.trans sG),if_pos]
  ·rfl
  ·rcases ro with rfl | ⟨w,l,rfl⟩
   ·exact .inl (by rw [sF b];decide +kernel)
   ·exact .inr (az (az b).2.1).1
 | cons n ns =>
  rw [cH] at hT ⊢;obtain ⟨a,b,_⟩:=az (t:=tokS "/") (l:=tokS n :: ((slW ns).map tokS++r)) hT;obtain ⟨a1,b1,_⟩:=az b;have e:=a1.trans (hz n aAh).tk;have dl:=qM b1;rw [aAa,kR] at dl;unfold i0;rw [aB (a.trans sG),if_neg,bn e,nJ ro ns _ _ _ (λz h=>hz z (aAf _ h)) (3) b1]
  ·show PR.ok (.tup (.str n :: _)) _=PR.ok (.tup (.str n :: _)) (p+((slW ns).length+1+1))
   congr 1
   lia
  ·rintro (c | c)
   ·rw [e] at c;exact c rfl
   ·cases ns with
    | nil=>exact ro.no b1 "(" c
    | cons m ns =>
     rw [(az (t:=tokS "/") (l:=tokS m :: ((slW ns).map tokS++r)) b1).1] at c;exact absurd c (4)
theorem xz (T:List Tk) (n p:Nat):prs T (n+3) "path" p=i0 T p:=by
 simp only [prs];rw [if_neg (4),if_neg (4),if_neg (4),if_neg (4),if_pos trivial]
theorem yw (T:List Tk) (n p:Nat):prs T (n+3) "change" p=(i0 T p).bind λv q=>(prs T n "piece" q).bind λv2 r=>.ok (.tup [v,v2]) r:=by
 simp only [prs];rw [if_neg (4),if_neg (4),if_neg (4),if_neg (4),if_neg (4),if_pos trivial]
theorem path_read {ns:List Str} (hz:∀ z∈ns,NmC z) {cs:List Nat} {b:Nat} {bs:List Nat} (hb:bs.length=(pathW ns).length) (hc:cs=List.replicate b 32++aW (pathW ns) bs):dC 60 "path" cs=some (.tup (ns.map Dt.str)):=by
 refine mi (n:=0) (ws:=pathW ns) (by rw [hc,cv,(tZ hz).gl.lex bs hb]) (uc hz) (by decide) ?_;exact (xz _ 57 0).trans (ud hz (.inl rfl) (by simp))
theorem iz:∀ (a c:List Str) (bs:List Nat),bs.length=(a++c).length->∃ b1 b2,b1.length=a.length/\b2.length=c.length/\aW (a++c) bs=aW a b1++aW c b2
 | [],c,bs,h=>⟨[],bs,rfl,h,rfl⟩
 | w :: a,c,[],h=>by cases h
 | w :: a,c,b :: bs,h=>by
  obtain ⟨b1,b2,h1,h2,e⟩:=iz a c bs (Nat.succ.inj h);exact ⟨b :: b1,b2,congrArg Nat.succ h1,h2,by simp only [aBt,aW,e,aAD]⟩
abbrev chW (ns:List Str) (qw:List Str):List Str:=(pathW ns++[(" " : Str)])++qw
theorem qU {ns:List Str} (hz:∀ z∈ns,NmC z) {d:Dt} {qw:List Str} (hp:PW d qw) {cs:List Nat} {b:Nat} {bs:List Nat} (hb:bs.length=(chW ns qw).length) (hc:cs=List.replicate b 32++aW (chW ns qw) bs):dC 60 "change" cs=some (.tup [.tup (ns.map Dt.str),d]):=by
 refine mi (n:=6) (ws:=pathW ns++qw) ?_ ((uc hz).app hp.bd) (by decide) ?_
 ·obtain ⟨b1,b2,h1,h2,e⟩:=iz _ _ bs hb;obtain ⟨b3,b4,h3,h4,e'⟩:=iz _ _ b1 h1;obtain ⟨c,rfl⟩:=List.length_eq_one_iff.mp h4;have e2:aW [(" " : Str)] [c]++aW qw b2=32 :: (List.replicate c 32++aW qw b2):=by
   show (_++(_++[]))++_=_;rw [show (Str.ofString " ").cps.toList=[32] by decide +kernel,aAJ]
   rfl
  rw [hc,cv,e,e',aAD,e2,(tZ hz).gl.lexr ⟨ni (4),ni (4)⟩ b3 h3,lX,cv,hp.gm.gw.gl.lex b2 h2,aAr]
  rfl
 ·generalize hT:(pathW ns++qw).map tokS=T
  have h0:T.drop 0=(pathW ns).map tokS++qw.map tokS:=by rw [<- hT,aAr];rfl
  have ro:RO (qw.map tokS):=by
   obtain ⟨w,fs,its,hw,_,_,_,_,rfl⟩:=hp;refine .inr ⟨w,(sepW (its.map (·.2))++[(")" : Str)]).map tokS,?_⟩;rw [<- hw.tk,<- (aO "(" (4)).1]
   rfl
  have h1:=jR h0;rw [aAa] at h1;have h2:prs T 57 "piece" (0+(pathW ns).length)=.ok d (0+(pathW ns).length+qw.length):=hp.parse T 57 (by decide) _ [] (by rw [h1,aAJ]);refine (yw T 57 0).trans ?_;rw [ud hz ro h0];show (prs T 57 "piece" (0+(pathW ns).length)).bind (λv2 r=>.ok (.tup [_,v2]) r)=_;rw [h2];show PR.ok _ (0+(pathW ns).length+qw.length)=_;rw [aAc,Nat.add_assoc]
theorem mj (sp:Str):∀ zs:List Str,(zs.map (·.length)).sum<=(Str.join sp zs).length
 | []=>aAE _
 | [x]=>by simp [Str.join]
 | x :: y :: r=>by
  have:=mj sp (y :: r);rw [PyProof.Rows.join_cons_cons,aAd,aAd];simp only [aAq,aAV] at this ⊢;lia
theorem ee (sp:Str) (zs:List Str):Txt.join sp zs=Str.join sp zs:=PySem.StrLaws.glued_eq_join sp zs
def mL (_:W.Frag) (_:Ads):Sp:=λvs H Q _=>∃ i:Int,vs=[.int i]/\i.natAbs < 10 ^ 70/\Q (.str (aK i)) H
theorem mm {i:Int} (h:i.natAbs < 10 ^ 70):i.natAbs.log2 < 1920:=by
 by_cases h0:i.natAbs=0
 ·rw [h0];decide
 ·exact (Nat.log2_lt h0).mpr (aAk h (4))
theorem mM (T:Tx K mg ad) {f:Addr} {fd:FuncData} (F:Gn K mg "figures_of" fG ["number"] f fd):FnOk P w K mg base CX0 1 f fd ["number"] (mL K ad):=by
 refine F.F.ok mR (λvs H Q E h=>?_) (λcdv A outer s H vs Q E hr h=>?_)
 ·obtain ⟨i,rfl,_⟩:=h
  rfl
 obtain ⟨i,rfl,hi,q⟩:=h;refine ⟨_,(5,(8,pe_callTy call_str_int rfl T.z_str boot_str (@pa1 _ _ _ (pv 0) (1)))),?_⟩;exact ⟨_,rfl,i,rfl,mm hi,q⟩
def vj (_:W.Frag) (_:Ads):Sp:=λvs H Q _=>∃ z:Str,vs=[.str z]/\z.length<=100000/\Q (.str (Str.ofString "\"" ++z++Str.ofString "\"")) H
theorem bM {n:Nat} (h:n<=300000):n<=sizeLine:=aAz h (by decide)
theorem vm (T:Tx K mg ad) {f:Addr} {fd:FuncData} (F:Gn K mg "quoted" mC ["text"] f fd):FnOk P w K mg base CX0 1 f fd ["text"] (vj K ad):=by
 refine F.F.ok vp (λvs H Q E h=>?_) (λcdv A outer s H vs Q E hr h=>?_)
 ·obtain ⟨z,rfl,_⟩:=h
  rfl
 obtain ⟨z,rfl,hz,q⟩:=h;refine ⟨_,(5,(8,(15,op_add_str,(15,op_add_str,pe_str,pv 0),pe_str))),?_⟩;have l1:(Str.ofString "\"").length=1:=(4)
 exact ⟨_,rfl,_,_,rfl,rfl,bM (3),_,_,rfl,rfl,bM (by rw [aAd];lia),q⟩
def mn (K:W.Frag) (_:Ads):Sp:=λvs H Q _=>∃ (l:Addr) (zs:List Str),vs=[.ref l]/\SqL K H l (zs.map V.str)/\zs.length<=1000/\(Str.join (Str.ofString ", ") zs).length<=100000/\Q (.str (Str.join (Str.ofString ", ") zs)) H
theorem eg (T:Tx K mg ad) {f:Addr} {fd:FuncData} (F:Gn K mg "with_commas" eO ["texts"] f fd):FnOk P w K mg base CX0 1 f fd ["texts"] (mn K ad):=by
 refine F.F.ok mE (λvs H Q E h=>?_) (λcdv A outer s H vs Q E hr h=>?_)
 ·obtain ⟨l,zs,rfl,_⟩:=h
  rfl
 obtain ⟨l,zs,rfl,hl,hz,hj,q⟩:=h;refine ⟨_,(5,(8,pe_bm PySem.F.plainAttrs_str PySem.F.slot_str_join PySem.F.type_str_join cS pe_str (@pa1 _ _ _ (pv 0) (1)))),?_⟩;have l1:(Str.ofString ", ").length=2:=(4)
 have js:=mj (Str.ofString ", ") zs;refine ⟨rfl,_,rfl,_,l,zs,rfl,rfl,.inl hl,by rw [l1];lia,?_⟩;rw [ee];exact q
def pe (_:W.Frag) (_:Ads):Sp:=λvs H Q _=>∃ a z:Str,vs=[.str a,.str z]/\a.length<=100000/\z.length<=100000/\Q (.str (a++Str.ofString ": " ++z)) H
theorem ph (a:Str):Str.empty++a=a:=by
 apply bG;show (#[]++a.cps).toList=_;simp
theorem fF (T:Tx K mg ad) {f:Addr} {fd:FuncData} (F:Gn K mg "pair_text" gG ["word","text"] f fd):FnOk P w K mg base CX0 1 f fd ["word","text"] (pe K ad):=by
 refine F.F.ok pJ (λvs H Q E h=>?_) (λcdv A outer s H vs Q E hr h=>?_)
 ·obtain ⟨a,z,rfl,_⟩:=h
  rfl
 obtain ⟨a,z,rfl,ha,hz,q⟩:=h;refine ⟨_,(5,(8,oA (io (pv 0) (jG pe_str (io (pv 1) rY))))),?_⟩;have l1:(Str.ofString ": ").length=2:=(4)
 have l0:Str.empty.length=0:=rfl;refine ⟨_,rfl,a,rfl,cf ha,bM (by rw [aAd];lia),_,rfl,cf (3),bM (by rw [aAd,aAd];lia),_,rfl,z,rfl,cf hz,bM (by rw [aAd,aAd,aAd];lia),bM (by rw [aAd,aAd,aAd];lia),?_⟩;rw [ph];exact q
def mo (K:W.Frag) (_:Ads):Sp:=λvs H Q _=>∃ (a:Str) (l:Addr) (zs:List Str),vs=[.str a,.ref l]/\SqL K H l (zs.map V.str)/\a.length<=100000/\zs.length<=1000/\(Str.join (Str.ofString ", ") zs).length<=100000/\Q (.str (a++Str.ofString "(" ++Str.join (Str.ofString ", ") zs++Str.ofString ")")) H
theorem gz (T:Tx K mg ad) {f:Addr} {fd:FuncData} (F:Gn K mg "in_brackets" eM ["word","texts"] f fd):FnOk P w K mg base CX0 2 f fd ["word","texts"] (mo K ad):=by
 obtain ⟨_,_,JQ⟩:=T.with_commas;have JY:=eg (P:=P) (w:=w) (base:=base) T JQ;refine F.F.ok gR (λvs H Q E h=>?_) (λcdv A outer s H vs Q E hr h=>?_)
 ·obtain ⟨a,l,zs,rfl,_⟩:=h
  rfl
 obtain ⟨a,l,zs,rfl,hl,ha,hz,hj,q⟩:=h;refine ⟨_,(6,(23,gR.nd,(10,JQ,JY,(9,pv 1))),(5,(8,oA (io (pv 0) (jG pe_str (io (pv 2) (jG pe_str rY))))))),?_⟩;have l1:(Str.ofString "(").length=1:=(4)
 have l2:(Str.ofString ")").length=1:=(4)
 have l0:Str.empty.length=0:=rfl;refine ⟨_,rfl,l,zs,rfl,hl,hz,hj,?_⟩;refine ⟨_,rfl,a,rfl,cf ha,bM (by rw [aAd];lia),_,rfl,cf (3),bM (by rw [aAd,aAd];lia),_,rfl,_,rfl,cf hj,bM (by rw [aAd,aAd,aAd];lia),_,rfl,cf (3),bM (by rw [aAd,aAd,aAd,aAd];lia),bM (by rw [aAd,aAd,aAd,aAd];lia),?_⟩;rw [ph];exact q
def IR (p:Str×Dt):Dt:=.tup [.str p.1,p.2]
def mq (q:(Str×Dt)×Str):Str:=q.1.1++Str.ofString ": " ++q.2
inductive VT:Nat->Dt->Str->Prop
 | int (n:Nat) (i:Int):i.natAbs < 10 ^ 70->VT n (.int i) (aK i)
 | str (n:Nat) (z:Str):z.length<=1000->VT n (.str z) (Str.ofString "\"" ++z++Str.ofString "\"")
 | list (n:Nat) (ds:List Dt) (zs:List Str):zs.length=ds.length->ds.length<=1000->(∀ (i:Nat) (d:Dt) (z:Str),ds[i]?=some d->zs[i]?=some z->VT n d z)->VT (n+1) (mk2 "list" (.tup ds)) (Str.ofString "[" ++Str.join (Str.ofString ", ") zs++Str.ofString "]")
 | rows (n:Nat) (ds:List Dt) (zs:List Str):zs.length=ds.length->ds.length<=1000->(∀ (i:Nat) (d:Dt) (z:Str),ds[i]?=some d->zs[i]?=some z->VT n d z)->VT (n+1) (mk2 "rows" (.tup ds)) (Str.ofString "(" ++Str.join (Str.ofString ", ") zs++Str.ofString ")")
 | record (n:Nat) (ps:List (Str×Dt)) (ys:List Str):ys.length=ps.length->ps.length<=1000->(∀ (i:Nat) (p:Str×Dt) (y:Str),ps[i]?=some p->ys[i]?=some y->VT n p.2 y)->VT (n+1) (mk2 "record" (.tup (ps.map IR))) (Str.ofString "{" ++Str.join (Str.ofString ", ") ((ps.zip ys).map mq)++Str.ofString "}")
def sVT (K:W.Frag) (n:Nat):Sp:=λvs H Q _=>∃ (d:Dt) (x:V) (z:Str),vs=[x]/\IsP K H d x/\VT n d z/\z.length<=100000/\∀ H',Same H H'->Q (.str z) H'
theorem mO (T:Tx K mg ad) (n:Nat) {f:Addr} {fd:FuncData} (Kg:Gn K mg "value_text" dF ["value"] f fd) (Kj:∀ m,m < n->FnOk P w K mg base CX0 (m+3) f fd ["value"] (sVT K m)):FnOk P w K mg base CX0 (n+3) f fd ["value"] (sVT K n):=by
 obtain ⟨f1,d1,K1⟩:=T.figures_of;have Lo:=mM (P:=P) (w:=w) (base:=base) T K1;obtain ⟨f2,d2,Lp⟩:=T.quoted;have LI:=vm (P:=P) (w:=w) (base:=base) T Lp;obtain ⟨f3,d3,JQ⟩:=T.with_commas;have JY:=eg (P:=P) (w:=w) (base:=base) T JQ;obtain ⟨f4,d4,J4⟩:=T.pair_text;have Ko:=fF (P:=P) (w:=w) (base:=base) T J4;have Kj:FnOk P w K mg base CX0 (n+2) f fd ["value"] (λvs H Q E=>∃ m,n=m+1/\sVT K m vs H Q E):=by
  cases n with
  | zero=>exact fn_none λ_ _ _ _ h=>by obtain ⟨m,h,_⟩:=h;cases h
  | succ m =>
   have g:=Kj m (aA9 m);exact g.imp λvs H Q E h=>by obtain ⟨m',e,h⟩:=h;cases e;exact h
 refine Kg.F.ok sc_value_text (λvs H Q E h=>?_) (λcdv A outer s H vs Q E hr h=>?_)
 ·obtain ⟨d,x,z,rfl,_⟩:=h
  rfl
 obtain ⟨d,x,z,rfl,hd,vt,hz,q⟩:=h;refine ⟨_,(6,(11,@pt_val _ _ _ (pe_callB (call_isiN' (K:=K) rfl) rfl T.z_isinstance boot_isinstance (@pa2 _ _ _ _ _ (pv 0) (om rfl T.z_int boot_int) (1) (1))) (by intro _;rfl),(5,(8,(10,K1,Lo,@pa1 _ _ _ (pv 0) (1))))),(6,(11,@pt_val _ _ _ (pe_callB (call_isiN' (K:=K) rfl) rfl T.z_isinstance boot_isinstance (@pa2 _ _ _ _ _ (pv 0) (om rfl T.z_str boot_str) (1) (1))) (by intro _;rfl),(5,(8,(10,Lp,LI,@pa1 _ _ _ (pv 0) (1))))),(6,(11,pt_cmpR op_eq (@pi1 K _ _ _ _ _ _ _ rfl (pv 0)) pe_str (nomark _),(6,(20,sc_value_text.nd,(10,JQ,JY,(9,pe_comp rfl (cs0 (NL:=["name","own"]) rfl (4) (4)) (pi_tupN (K:=K) rfl (@pi1 K _ _ _ _ _ _ _ rfl (pv 0))) (λ_ _ _ _=>(kP (K:=K) (n:=2) rfl rfl (aJ (aj (i:=0) (show List.Nodup (α:=Str) ["name","own"] by decide +kernel) rfl (Or.inl rfl)) (aJ (aj (i:=1) (show List.Nodup (α:=Str) ["name","own"] by decide +kernel) rfl (Or.inl rfl)) dD)))) (λ_ _ _ _=>(10,J4,Ko,@pa2 _ _ _ _ _ (pv 0) (10,Kg,Kj,(9,pv 1)) (1) (1)))))),(5,(8,(15,op_add_str,(15,op_add_str,pe_str,pv 1),pe_str))))),(6,(20,sc_value_text.nd,(10,JQ,JY,(9,pe_comp rfl (cs0 (NL:=["item"]) rfl (4) (4)) (pi_tupN (K:=K) rfl (@pi1 K _ _ _ _ _ _ _ rfl (pv 0))) (λ_ _ _ _=>(aj (i:=0) (show List.Nodup (α:=Str) ["item"] by decide +kernel) rfl (Or.inl rfl))) (λ_ _ _ _=>(10,Kg,Kj,@pa1 _ _ _ (pv 0) (1)))))),(6,(11,pt_cmpR op_eq (@pi1 K _ _ _ _ _ _ _ rfl (pv 0)) pe_str (nomark _),(5,(8,(15,op_add_str,(15,op_add_str,pe_str,pv 1),pe_str)))),(5,(8,(15,op_add_str,(15,op_add_str,pe_str,pv 1),pe_str)))))))),?_⟩;have mem_le:∀ {zs:List Str} {i:Nat} {y:Str},zs[i]?=some y->y.length<=(Str.join (Str.ofString ", ") zs).length:=λh=>PySem.join_mem_le _ _ _ (aAs h);have l1:∀ s:String,s∈["[","]","(",")","{","}"]->(Str.ofString s).length=1:=(4)
 cases vt with
 | int _ i hi =>
  obtain rfl:=lI hd;exact ⟨_,rfl,_,_,_,rfl,.int_int,_,rfl,df ⟨_,rfl,i,rfl,hi,q H (Same.refl H)⟩⟩
 | str _ z0 hz0 =>
  obtain rfl:=bC hd;refine ⟨_,rfl,_,_,_,rfl,.str_int,_,rfl,ce ⟨_,rfl,_,_,_,rfl,.str_str,_,rfl,df ⟨_,rfl,z0,rfl,(3),q H (Same.refl H)⟩⟩⟩
 | record m ps ys e1 e2 e3 =>
  obtain ⟨a,u1,u2,rfl,ha,hu1,hu2⟩:=dS hd;obtain rfl:=bC hu1;rw [aAd,aAd,l1 "{" (by simp),l1 "}" (by simp)] at hz;refine ⟨_,rfl,_,_,_,rfl,.tup_int ha,_,rfl,ce ⟨_,rfl,_,_,_,rfl,.tup_str ha,_,rfl,ce ?_⟩⟩;refine ⟨_,rfl,_,_,_,hd,rfl,at0 _ _,isS ?_⟩;refine ⟨rfl,_,rfl,bS ⟨_,rfl,_,_,_,hd,rfl,rfl,λv2 hv2=>?_⟩⟩;obtain ⟨b,xs,rfl,hb,_,rb⟩:=hv2.unref;have lx:=rb.length;rw [aAa] at lx;refine ⟨b,rfl,⟨_,hb⟩,λl hl=>?_⟩;refine eV (K:=K) (xs:=xs) (λi zs σ H'=>zs=(((ps.zip ys).map mq).take i).map V.str/\Same H H'/\H' l=some (.lst zs)/\∃ w1 w2,σ=[w1,w2]) ⟨rfl,ag hl _,aa,_,_,rfl⟩ (λi zs σ H' _ p=>p.2.1.tup hb) ?_ ?_
  ·rintro i y zs σ H1 N hy ⟨rfl,g1,f1',w1,w2,rfl⟩ next;obtain ⟨d0,hd0,hdy⟩:=rb.get' hy;rw [aAg] at hd0;obtain ⟨p0,hp0,rfl⟩:=aAi.mp hd0;have hi:=(aAj.mp hp0).1;obtain ⟨y0,hy0⟩:∃ y0,ys[i]?=some y0:=⟨_,aAv (3)⟩;have hz0:((ps.zip ys).map mq)[i]?=some (mq (p0,y0)):=by rw [aAg,(aAT (z:=(p0,y0))).mpr ⟨hp0,hy0⟩];rfl
   obtain ⟨c,c1,c2,rfl,hc,hc1,hc2⟩:=dS (show IsP K H (.tup [.str p0.1,p0.2]) y from hdy);obtain rfl:=bC hc1;have ml:=mem_le hz0;rw [show (mq (p0,y0)).length=p0.1.length+(Str.ofString ": ").length+y0.length from by show (p0.1++Str.ofString ": " ++y0).length=_;rw [aAd,aAd]] at ml;refine ⟨c,_,rfl,g1.tup hc,rfl,_,_,rfl,_,_,rfl,rfl,?_⟩;refine ⟨_,rfl,_,rfl,m,rfl,p0.2,c2,y0,rfl,hc2.same g1,e3 i p0 y0 hp0 hy0,(3),λH2 g2=>?_⟩;refine ⟨_,_,rfl,(3),(3),g2 _ _ f1',?_,next _ _ _ ⟨?_,bR hl (g1.trans g2),aa,_,_,rfl⟩⟩
   ·rw [aAa,aAF];exact ay (3)
   ·rw [aAC,hz0,aAr]
    rfl
  rintro zs σ H1 ⟨rfl,g1,f1',w1,w2,rfl⟩;have ll:((ps.zip ys).map mq).length=ps.length:=by rw [aAa,aBo,e1,aBQ]
  rw [aAx (3)] at f1';refine ⟨l,_,rfl,SqL.of f1',(3),(3),?_⟩;refine ⟨_,rfl,_,_,rfl,rfl,?_,_,_,rfl,rfl,?_,q H1 g1⟩
  ·rw [l1 "{" (by simp)];exact bM (3)
  ·rw [aAd,l1 "{" (by simp),l1 "}" (by simp)];exact bM (3)
 | list m ds zs e1 e2 e3 =>
  obtain ⟨a,u1,u2,rfl,ha,hu1,hu2⟩:=dS hd;obtain rfl:=bC hu1;rw [aAd,aAd,l1 "[" (by simp),l1 "]" (by simp)] at hz;refine ⟨_,rfl,_,_,_,rfl,.tup_int ha,_,rfl,ce ⟨_,rfl,_,_,_,rfl,.tup_str ha,_,rfl,ce ?_⟩⟩;refine ⟨_,rfl,_,_,_,hd,rfl,at0 _ _,isS ?_⟩;refine ⟨rfl,_,rfl,bt (aM (4)) ⟨_,rfl,_,_,_,hd,rfl,rfl,λv2 hv2=>?_⟩⟩;obtain ⟨b,xs,rfl,hb,_,rb⟩:=hv2.unref;have lx:=rb.length;refine ⟨b,rfl,⟨_,hb⟩,λl hl=>?_⟩;refine eV (K:=K) (xs:=xs) (λi ys σ H'=>ys=(zs.take i).map V.str/\Same H H'/\H' l=some (.lst ys)/\∃ w1,σ=[w1]) ⟨rfl,ag hl _,aa,_,rfl⟩ (λi zs σ H' _ p=>p.2.1.tup hb) ?_ ?_
  ·rintro i y ys σ H1 N hy ⟨rfl,g1,f1',w1,rfl⟩ next;obtain ⟨d0,hd0,hdy⟩:=rb.get' hy;have hi:=(aAj.mp hd0).1;obtain ⟨z0,hz0⟩:∃ z0,zs[i]?=some z0:=⟨_,aAv (3)⟩;have ml:=mem_le hz0;refine ⟨_,rfl,m,rfl,d0,y,z0,rfl,hdy.same g1,e3 i d0 z0 hd0 hz0,(3),λH2 g2=>?_⟩;refine ⟨g2 _ _ f1',?_,next _ _ _ ⟨?_,bR hl (g1.trans g2),aa,_,rfl⟩⟩
   ·rw [aAa,aAF];exact ay (3)
   ·rw [aAC,hz0,aAr]
    rfl
  rintro ys σ H1 ⟨rfl,g1,f1',w1,rfl⟩;rw [aAx (3)] at f1';refine ⟨l,zs,rfl,SqL.of f1',(3),(3),?_⟩;refine ⟨_,rfl,_,_,_,hd.same g1,rfl,at0 _ _,isS ?_⟩;refine ⟨rfl,_,rfl,bS ⟨_,rfl,_,_,rfl,rfl,?_,_,_,rfl,rfl,?_,q H1 g1⟩⟩
  ·rw [l1 "[" (by simp)];exact bM (3)
  ·rw [aAd,l1 "[" (by simp),l1 "]" (by simp)];exact bM (3)
 | rows m ds zs e1 e2 e3 =>
  obtain ⟨a,u1,u2,rfl,ha,hu1,hu2⟩:=dS hd;obtain rfl:=bC hu1;rw [aAd,aAd,l1 "(" (by simp),l1 ")" (by simp)] at hz;refine ⟨_,rfl,_,_,_,rfl,.tup_int ha,_,rfl,ce ⟨_,rfl,_,_,_,rfl,.tup_str ha,_,rfl,ce ?_⟩⟩;refine ⟨_,rfl,_,_,_,hd,rfl,at0 _ _,isS ?_⟩;refine ⟨rfl,_,rfl,bt (aM (4)) ⟨_,rfl,_,_,_,hd,rfl,rfl,λv2 hv2=>?_⟩⟩;obtain ⟨b,xs,rfl,hb,_,rb⟩:=hv2.unref;have lx:=rb.length;refine ⟨b,rfl,⟨_,hb⟩,λl hl=>?_⟩;refine eV (K:=K) (xs:=xs) (λi ys σ H'=>ys=(zs.take i).map V.str/\Same H H'/\H' l=some (.lst ys)/\∃ w1,σ=[w1]) ⟨rfl,ag hl _,aa,_,rfl⟩ (λi zs σ H' _ p=>p.2.1.tup hb) ?_ ?_
  ·rintro i y ys σ H1 N hy ⟨rfl,g1,f1',w1,rfl⟩ next;obtain ⟨d0,hd0,hdy⟩:=rb.get' hy;have hi:=(aAj.mp hd0).1;obtain ⟨z0,hz0⟩:∃ z0,zs[i]?=some z0:=⟨_,aAv (3)⟩;have ml:=mem_le hz0;refine ⟨_,rfl,m,rfl,d0,y,z0,rfl,hdy.same g1,e3 i d0 z0 hd0 hz0,(3),λH2 g2=>?_⟩;refine ⟨g2 _ _ f1',?_,next _ _ _ ⟨?_,bR hl (g1.trans g2),aa,_,rfl⟩⟩
   ·rw [aAa,aAF];exact ay (3)
   ·rw [aAC,hz0,aAr]
    rfl
  rintro ys σ H1 ⟨rfl,g1,f1',w1,rfl⟩;rw [aAx (3)] at f1';refine ⟨l,zs,rfl,SqL.of f1',(3),(3),?_⟩;refine ⟨_,rfl,_,_,_,hd.same g1,rfl,at0 _ _,isS ?_⟩;refine ⟨rfl,_,rfl,bt (aM (4)) ⟨_,rfl,_,_,rfl,rfl,?_,_,_,rfl,rfl,?_,q H1 g1⟩⟩
  ·rw [l1 "(" (by simp)];exact bM (3)
  ·rw [aAd,l1 "(" (by simp),l1 ")" (by simp)];exact bM (3)
theorem nK (T:Tx K mg ad) {f:Addr} {fd:FuncData} (D:Gn K mg "value_text" dF ["value"] f fd):∀ n m,m < n->FnOk P w K mg base CX0 (m+3) f fd ["value"] (sVT K m)
 | 0,m,h=>absurd h (aBx _)
 | n+1,m,h=>mO T m D λk hk=>nK T D n k (3)
theorem dI {z:Str} (h:blk z=0):ai [z]=z:=bG (eZ h)
theorem jS {a b:Str} (ha:blk a=0) (hb:blk b=0) (wss:List (List Str)):a++Str.join (Str.ofString ", ") (wss.map ai)++b=ai (enc a (sepW wss) b):=by
 apply bG;show _=aX _;unfold enc;rw [aI,aI,e7,aS,aS,eZ ha,eZ hb]
theorem jT:blk "[" = 0/\blk "]" = 0/\blk "(" = 0/\blk ")" = 0/\blk "{" = 0/\blk "}" = 0:=(4)
theorem VW.text {n:Nat} {d:Dt} {ws:List Str} (h:VW n d ws):VT n d (ai ws):=by
 induction h with
 | int n i hi =>
  rw [dI (tU hi)];exact .int n i (aAk hi (4))
 | str n z hz hl =>
  rw [dI (yu z)];exact .str n z (3)
 | @list n its h8 hk ih =>
  rw [<- jS jT.1 jT.2.1];refine .list n _ _ (by simp) (by rw [aAa];lia) λi d z h1 h2=>?_;rw [aAg] at h1;obtain ⟨it,hit,rfl⟩:=aAi.mp h1;rw [aAg,aAg,hit] at h2
  cases h2
  exact ih it (aAs hit)
 | @rows n its h8 hk ih =>
  rw [<- jS jT.2.2.1 jT.2.2.2.1];refine .rows n _ _ (by simp) (by rw [aAa];lia) λi d z h1 h2=>?_;rw [aAg] at h1;obtain ⟨it,hit,rfl⟩:=aAi.mp h1;rw [aAg,aAg,hit] at h2
  cases h2
  exact ih it (aAs hit)
 | @rcd n gs h8 hz hk ih =>
  rw [<- jS jT.2.2.2.2.1 jT.2.2.2.2.2];have e1:gs.map pr3=(gs.map λg=>(g.1,g.2.1)).map IR:=by rw [aAQ];rfl
  have e2:(gs.map fw3).map ai=((gs.map λg=>(g.1,g.2.1)).zip (gs.map λg=>ai g.2.2)).map mq:=by
   clear ih hk h8 e1
   induction gs with
   | nil=>rfl
   | cons g gs ihg =>
    rw [aAq,aAq,aAq,aAq,aBc,aAq,ihg λx hx=>hz x (aAf _ hx)]
    congr 1
    exact (ix (hz g aAh).bk g.2.2).symm
  rw [e1,e2];refine .record n _ _ (by simp) (by rw [aAa];lia) λi p y h1 h2=>?_;rw [aAg] at h1 h2;obtain ⟨g,hg,rfl⟩:=aAi.mp h1;rw [hg] at h2
  cases h2
  exact ih g (aAs hg)
def ig (w:Str) (zs:List Str):Str:=w++Str.ofString "(" ++Str.join (Str.ofString ", ") zs++Str.ofString ")"
def PT (n:Nat) (s:Str) (d:Dt) (z:Str):Prop:=∃ ws,PartW n s d ws/\z=ai ws
def sPT (K:W.Frag) (n:Nat):Sp:=λvs H Q _=>∃ (s:Str) (d:Dt) (x:V) (z:Str),vs=[x,.str s]/\IsP K H d x/\PT n s d z/\z.length<=100000/\∀ H',Same H H'->Q (.str z) H'
def sFT (K:W.Frag) (n:Nat):Sp:=λvs H Q _=>∃ (so w:Str) (ds:List Dt) (fs zs:List Str) (x:V),vs=[.str so,x]/\IsP K H (.tup (.str w :: ds)) x/\aP so w=some fs/\ds.length=fs.length/\zs.length=fs.length /\
 (∀ (i:Nat) (s:Str) (d:Dt) (z:Str),fs[i]?=some s->ds[i]?=some d->zs[i]?=some z->PT n s d z)/\(ig w zs).length<=100000/\∀ H',Same H H'->Q (.str (ig w zs)) H'
theorem jb (T:Tx K mg ad) (n:Nat) {f fp:Addr} {fd fdp:FuncData} (F:Gn K mg "form_text" cw ["sort","thing"] f fd) (Lx:Gn K mg "part_text" cY ["part","sort"] fp fdp)
  (Ls:FnOk P w K mg base CX0 (3*n+9) fp fdp ["part","sort"] (sPT K n)):FnOk P w K mg base CX0 (3*n+9+1) f fd ["sort","thing"] (sFT K n):=by
 obtain ⟨f1,d1,Kh⟩:=T.parts_behind;have Ky:=fU (P:=P) (w:=w) (base:=base) T Kh;obtain ⟨f2,d2,J9⟩:=T.in_brackets;have Ks:=gz (P:=P) (w:=w) (base:=base) T J9;refine F.F.ok jm (λvs H Q E h=>?_) (λcdv A outer s H vs Q E hr h=>?_)
 ·obtain ⟨so,w,ds,fs,zs,x,rfl,_⟩:=h
  rfl
 obtain ⟨so,wd,ds,fs,zs,x,rfl,hx,hf,l1,l2,hPT,hz,q⟩:=h;refine ⟨_,(6,(23,jm.nd,(10,Kh,Ky,@pa2 _ _ _ _ _ (pv 0) (@pi1 K _ _ _ _ _ _ _ rfl (pv 1)) (1) (1))),(5,(8,(10,J9,Ks,(12,@pi1 K _ _ _ _ _ _ _ rfl (pv 1),pe_comp rfl (cs0 (NL:=["part","part_sort"]) rfl (4) (4)) (yg rfl T.z_zip (12,pe_slice (eW (K:=K) rfl) (pv 1) (po_some pe_int) cp,pv 2)) (λ_ _ _ _=>(kP (K:=K) (n:=2) rfl rfl (aJ (aj (i:=0) (show List.Nodup (α:=Str) ["part","part_sort"] by decide +kernel) rfl (Or.inl rfl)) (aJ (aj (i:=1) (show List.Nodup (α:=Str) ["part","part_sort"] by decide +kernel) rfl (Or.inl rfl)) dD)))) (λ_ _ _ _=>(10,Lx,Ls,@pa2 _ _ _ _ _ (pv 0) (pv 1) (1) (1)))))))),?_⟩;have fl:=jP hf;refine ⟨_,rfl,_,rfl,_,_,_,hx,rfl,at0 _ _,isS ?_⟩;refine ⟨so,wd,rfl,?_⟩;rw [hf];intro b hb;refine ⟨_,rfl,_,_,_,hx,rfl,at0 _ _,isS ?_⟩;refine ⟨_,rfl,_,rfl,_,hx,λv3 H1 g1 hv3=>?_⟩;rw [w9] at hv3;obtain ⟨c,xs,rfl,hc,_,rc⟩:=hv3.unref;have lx:=rc.length;refine ⟨_,rfl,c,b,rfl,⟨xs,hc⟩,⟨_,hb H1⟩,λl hl=>?_⟩;have wz:(ig wd zs).length=wd.length+(Str.ofString "(").length+(Str.join (Str.ofString ", ") zs).length+(Str.ofString ")").length:=by
  unfold ig;rw [aAd,aAd,aAd]
 refine rW (K:=K) (xs:=xs) (ys:=fs.map V.str) (λi us σ H'=>us=(zs.take i).map V.str/\Same H1 H'/\H' l=some (.lst us)/\∃ w1 w2,σ=[w1,w2]) ⟨rfl,ag hl _,aa,_,_,rfl⟩ (λi us σ H' r=>⟨r.2.1.tup hc,hb H'⟩) ?_ ?_
 ·rintro i y1 y2 T0 us σ H2 N h1 h2 hT ⟨rfl,g2,f2',w1,w2,rfl⟩ next;rw [aAg] at h2;obtain ⟨s0,hs0,rfl⟩:=aAi.mp h2;obtain ⟨d0,hd0,hdy⟩:=rc.get' h1;have hi:=(aAj.mp hs0).1;obtain ⟨z0,hz0⟩:∃ z0,zs[i]?=some z0:=⟨_,aAv (3)⟩;have ml:=PySem.join_mem_le (Str.ofString ", ") zs z0 (aAs hz0);have g3:=g2.trans (ag hT (.tup [y1,.str s0]));refine ⟨T0,_,rfl,SqT.of aa,rfl,_,_,rfl,_,_,rfl,rfl,?_⟩;refine ⟨_,rfl,_,rfl,s0,d0,y1,z0,rfl,hdy.same g3,hPT i s0 d0 z0 hs0 hd0 hz0,(3),λH3 g4=>?_⟩;have nl:l≠T0:=ah f2' hT;refine ⟨g4 _ _ (by rw [ac nl];exact f2'),?_,next _ _ _ ⟨?_,bR hl (g3.trans g4),aa,_,_,rfl⟩⟩
  ·rw [aAa,aAF];exact ay (3)
  ·rw [aAC,hz0,aAr]
   rfl
 rintro us σ H2 ⟨rfl,g2,f2',w1,w2,rfl⟩;rw [aAx (by rw [aAa];lia)] at f2';exact ⟨wd,l,zs,rfl,SqL.of f2',(3),(3),(3),q H2 (g1.trans g2)⟩
def sKT (K:W.Frag) (n:Nat):Sp:=λvs H Q _=>∃ (d:Dt) (x:V) (ws:List Str),vs=[x]/\IsP K H d x/\KW n d ws/\(ai ws).length<=100000/\∀ H',Same H H'->Q (.str (ai ws)) H'
def sTT (K:W.Frag) (n:Nat):Sp:=λvs H Q _=>∃ (d:Dt) (x:V) (ws:List Str),vs=[x]/\IsP K H d x/\TW n d ws/\(ai ws).length<=100000/\∀ H',Same H H'->Q (.str (ai ws)) H'
theorem jc (T:Tx K mg ad) (n:Nat) {f fk ft:Addr} {fd fdk fdt:FuncData} (F:Gn K mg "part_text" cY ["part","sort"] f fd) (Kz:Gn K mg "kind_text" cW ["kind"] fk fdk) (LD:Gn K mg "turn_text" cX ["turn"] ft fdt) (KP:FnOk P w K mg base CX0 (3*n+8) fk fdk ["kind"] (sKT K n)) (LC:FnOk P w K mg base CX0 (3*n+8) ft fdt ["turn"] (sTT K n)):FnOk P w K mg base CX0 (3*n+9) f fd ["part","sort"] (sPT K n):=by
 obtain ⟨f1,d1,Kg⟩:=T.value_text;have Kj:=nK (P:=P) (w:=w) (base:=base) T Kg 5 4 (by decide);refine F.F.ok pI (λvs H Q E h=>?_) (λcdv A outer s H vs Q E hr h=>?_)
 ·obtain ⟨s,d,x,z,rfl,_⟩:=h
  rfl
 obtain ⟨s,d,x,z,rfl,hx,⟨ws,pt,rfl⟩,hz,q⟩:=h;refine ⟨_,(6,(11,pt_cmpR op_eq (pv 1) pe_str (nomark _),(5,(8,pv 0))),(6,(11,pt_cmpR op_eq (pv 1) pe_str (nomark _),(5,(8,(10,Kz,KP,@pa1 _ _ _ (pv 0) (1))))),(6,(11,pt_cmpR op_eq (pv 1) pe_str (nomark _),(5,(8,(10,LD,LC,@pa1 _ _ _ (pv 0) (1))))),(5,(8,(10,Kg,Kj,@pa1 _ _ _ (pv 0) (1))))))),?_⟩;refine ⟨_,rfl,rfl,_,rfl,?_⟩;have key:(∃ z,s= "word" /\d=.str z/\ws=[z]/\NmC z)\/((¬ s= "word" /\¬ s= "kind" /\¬ s= "turn")/\VT 4 d (ai ws))\/(s= "kind" /\KW n d ws)\/(s= "turn" /\TW n d ws):=by
  cases pt with
  | word hz0=>exact .inl ⟨_,rfl,rfl,rfl,hz0⟩
  | num hi=>exact .inr (.inl ⟨by decide +kernel,VW.text (.int 4 _ hi)⟩)
  | text hz0 hl=>exact .inr (.inl ⟨by decide +kernel,VW.text (.str 4 _ hz0 hl)⟩)
  | value h=>exact .inr (.inl ⟨by decide +kernel,h.text⟩)
  | kind hk=>exact .inr (.inr (.inl ⟨rfl,hk⟩))
  | turn ht=>exact .inr (.inr (.inr ⟨rfl,ht⟩))
 rcases key with ⟨z,rfl,rfl,rfl,hz0⟩ | ⟨⟨n1,n2,n3⟩,vt⟩ | ⟨rfl,hk⟩ | ⟨rfl,ht⟩
 ·obtain rfl:=bC hx;rw [dI hz0.bk] at q;exact bS ⟨_,rfl,q H (Same.refl H)⟩
 ·exact bt (aM n1) ⟨_,rfl,rfl,_,rfl,bt (aM n2) ⟨_,rfl,rfl,_,rfl,bt (aM n3) ⟨_,rfl,d,x,ai ws,rfl,hx,vt,hz,q⟩⟩⟩
 ·exact bt (aM (4)) ⟨_,rfl,rfl,_,rfl,bS ⟨_,rfl,d,x,ws,rfl,hx,hk,hz,q⟩⟩
 ·exact bt (aM (4)) ⟨_,rfl,rfl,_,rfl,bt (aM (4)) ⟨_,rfl,rfl,_,rfl,bS ⟨_,rfl,d,x,ws,rfl,hx,ht,hz,q⟩⟩⟩
theorem gA:∀ {zs:List Str},(∀ z∈zs,NmC z)->(zs.map λz=>[z]).map ai=zs
 | [],_=>rfl
 | z :: zs,h=>by
  rw [aAq,aAq,dI (h z aAh).bk,gA λx hx=>h x (aAf _ hx)]
theorem nL (w:Str) (ws:List Str):(ai ws).length+2<=(ai (brW w ws)).length/\w.length+2<=(ai (brW w ws)).length:=by
 rw [<- am,<- am];show (aX ws).length+2<=(aX (brW w ws)).length/\w.length+2<=(aX (brW w ws)).length;unfold brW;rw [aS,aS,a9 w ["("],cq.1,cq.2.1];simp only [aAc,aAb,aAl,am];lia
theorem sH (w:Str) (ws:List Str):w.length+2+(ai ws).length<=(ai ([w,":"]++ws)).length:=by
 rw [<- am,<- am];show _+_+(aX ws).length<=(aX _).length;rw [aS,a9 w [":"],cq.2.2.2.1];simp only [aAc,aAb,aAl,am];lia
theorem pi (T:Tx K mg ad) (n:Nat) {f ff:Addr} {fd fdf:FuncData} (Kz:Gn K mg "kind_text" cW ["kind"] f fd) (Kd:Gn K mg "form_text" cw ["sort","thing"] ff fdf) (KP:FnOk P w K mg base CX0 (3*n+8) f fd ["kind"] (sKT K n)) (Kp:FnOk P w K mg base CX0 (3*n+9+1) ff fdf ["sort","thing"] (sFT K n)):FnOk P w K mg base CX0 (3*(n+1)+8) f fd ["kind"] (sKT K (n+1)):=by
 obtain ⟨f2,d2,J9⟩:=T.in_brackets;have Ks:=gz (P:=P) (w:=w) (base:=base) T J9;obtain ⟨f4,d4,J4⟩:=T.pair_text;have Ko:=fF (P:=P) (w:=w) (base:=base) T J4;obtain ⟨f5,d5,J7⟩:=T.most_exchanged;have Ku:=eD (P:=P) (w:=w) (base:=base) T J7;refine Kz.F.ok jk (λvs H Q E h=>?_) (λcdv A outer s H vs Q E hr h=>?_)
 ·obtain ⟨d,x,ws,rfl,_⟩:=h
  rfl
 obtain ⟨d,x,ws,rfl,hx,kw,hz,q⟩:=h;refine ⟨_,(6,(20,jk.nd,@pi1 K _ _ _ _ _ _ _ rfl (pv 0)),(6,(11,pt_cmpR op_eq (pv 1) pe_str (nomark _),(5,(8,(10,J9,Ks,(12,pv 1,pe_callTy (ia (K:=K) rfl) rfl T.z_list boot_list (9,@pi1 K _ _ _ _ _ _ _ rfl (pv 0))))))),(6,(11,pt_cmpR op_eq (pv 1) pe_str (nomark _),(5,(8,(10,J9,Ks,(12,pv 1,pe_comp rfl (cs0 (NL:=["name","inner"]) rfl (4) (4)) (pi_tupN (K:=K) rfl (@pi1 K _ _ _ _ _ _ _ rfl (pv 0))) (λ_ _ _ _=>(kP (K:=K) (n:=2) rfl rfl (aJ (aj (i:=0) (show List.Nodup (α:=Str) ["name","inner"] by decide +kernel) rfl (Or.inl rfl)) (aJ (aj (i:=1) (show List.Nodup (α:=Str) ["name","inner"] by decide +kernel) rfl (Or.inl rfl)) dD)))) (λ_ _ _ _=>(10,J4,Ko,@pa2 _ _ _ _ _ (pv 0) (10,Kz,KP,(9,pv 1)) (1) (1)))))))),(5,(8,(10,Kd,Kp,(12,pe_str,(15,lv (K:=K) rfl,@pe_tupPK _ K _ _ _ _ rfl (9,pv 1),(10,J7,Ku,(12,pv 1,pe_slice (eW (K:=K) rfl) (pv 0) (po_some pe_int) cp)))))))))),?_⟩;have nm:∀ {i:Int},i.natAbs < 10 ^ 60->ai [aK i]=aK i:=λhi=>dI (tU hi);have key:(∃ (wd:Str) (ds:List Dt) (fs:List Str) (wss:List (List Str)),d=.tup (.str wd :: ds)/\ws=brW wd (sepW wss)/\NmC wd/\¬ wd= "choice" /\¬ wd= "record" /\aP "kind" wd=some fs/\(wd= "list" ->ds.length=2)/\(wd= "rows" ->ds.length=3)/\(exL wd ds).length=fs.length/\wss.length=fs.length /\
   (∀ (i:Nat) (s:Str) (d:Dt) (z:Str),fs[i]?=some s->(exL wd ds)[i]?=some d->(wss.map ai)[i]?=some z->PT n s d z))\/(∃ zs:List Str,d=.tup [.str "choice",.tup (zs.map Dt.str)]/\ws=brW "choice" (sepW (zs.map λz=>[z]))/\zs.length<=8/\∀ z∈zs,NmC z) \/
   ∃ gs:List G3,d=.tup [.str "record",.tup (gs.map pr3)]/\ws=brW "record" (sepW (gs.map fw3))/\gs.length<=8/\(∀ g∈gs,NmC g.1)/\∀ g∈gs,KW n g.2.1 g.2.2:=by
  cases kw with
  | number _ i j hi hj =>
   refine .inl ⟨"number",[.int i,.int j],["number","number"],[[aK i],[aK j]],rfl,rfl,bv _ (by simp),(4),(4),(4),λ_=>rfl,λe=>absurd e (4),rfl,rfl,λk s d z h1 h2 h3=>?_⟩
   match k,h1,h2,h3 with
   | 0,h1,h2,h3=>cases h1;cases h2;cases h3;exact ⟨_,.num hi,rfl⟩
   | 1,h1,h2,h3=>cases h1;cases h2;cases h3;exact ⟨_,.num hj,rfl⟩
  | text _ i hi =>
   refine .inl ⟨"text",[.int i],["number"],[[aK i]],rfl,rfl,bv _ (by simp),(4),(4),(4),λe=>absurd e (4),λe=>absurd e (4),rfl,rfl,λk s d z h1 h2 h3=>?_⟩
   match k,h1,h2,h3 with
   | 0,h1,h2,h3=>cases h1;cases h2;cases h3;exact ⟨_,.num hi,rfl⟩
  | @list _ k0 kw i hk hi =>
   refine .inl ⟨"list",[k0,.int i],["number","kind"],[[aK i],kw],rfl,rfl,bv _ (by simp),(4),(4),(4),λ_=>rfl,λe=>absurd e (4),rfl,rfl,λk s d z h1 h2 h3=>?_⟩
   match k,h1,h2,h3 with
   | 0,h1,h2,h3=>cases h1;cases h2;cases h3;exact ⟨_,.num hi,rfl⟩
   | 1,h1,h2,h3=>cases h1;cases h2;cases h3;exact ⟨_,.kind hk,rfl⟩
  | @rows _ z0 k0 kw i hz0 hk hi =>
   refine .inl ⟨"rows",[.str z0,k0,.int i],["word","number","kind"],[[z0],[aK i],kw],rfl,rfl,bv _ (by simp),(4),(4),(4),λe=>absurd e (4),λ_=>rfl,rfl,rfl,λk s d z h1 h2 h3=>?_⟩
   match k,h1,h2,h3 with
   | 0,h1,h2,h3=>cases h1;cases h2;cases h3;exact ⟨_,.word hz0,rfl⟩
   | 1,h1,h2,h3=>cases h1;cases h2;cases h3;exact ⟨_,.num hi,rfl⟩
   | 2,h1,h2,h3=>cases h1;cases h2;cases h3;exact ⟨_,.kind hk,rfl⟩
  | choice _ zs h0 h8 hzs=>exact .inr (.inl ⟨zs,rfl,rfl,h8,hzs⟩)
  | @rcd _ gs h8 hzs hk=>exact .inr (.inr ⟨gs,rfl,rfl,h8,hzs,hk⟩)
 rcases key with ⟨wd,ds,fs,wss,rfl,rfl,hw,n1,n2,hf,k2,k3,l1,l2,hp⟩ | ⟨zs,rfl,rfl,h8,hzs⟩ | ⟨gs,rfl,rfl,h8,hzs,hk⟩
 ·have et:=dX hw.bk wss;refine ⟨_,rfl,_,_,_,hx,rfl,at0 _ _,isS ?_⟩;refine ⟨_,rfl,rfl,_,rfl,bt (aM n1) ⟨_,rfl,rfl,_,rfl,bt (aM n2) ⟨_,rfl,[.str wd],.cons .str .nil,sz1,λv2 H1 g1 hv2=>?_⟩⟩⟩;refine ⟨_,rfl,_,rfl,_,rfl,_,hx.same g1,λv3 H2 g2 hv3=>?_⟩;rw [w9] at hv3;refine ⟨wd,ds,v3,rfl,hv3,k2,k3,λv4 H3 g3 hv4=>?_⟩;have el:(exL wd ds).length<=6:=by rw [l1];exact jP hf
  refine ⟨[.str wd],exL wd ds,(hv2.same g2).same g3,hv4,cf (by simp only [aAb,aAl];lia),λv5 H4 g4 hv5=>?_⟩;refine ⟨"kind",wd,exL wd ds,fs,wss.map ai,v5,rfl,hv5,hf,l1,by rw [aAa];exact l2,hp,?_,λH5 g5=>?_⟩
  ·unfold ig;rw [et];exact hz
  ·unfold ig;rw [et];exact q H5 ((((g1.trans g2).trans g3).trans g4).trans g5)
 ·have et:=dX (w:= "choice") (4) (zs.map λz=>[z]);have tl:=(nL "choice" (sepW (zs.map λz=>[z]))).1;rw [<- l5] at tl;rw [gA hzs] at et tl;refine ⟨_,rfl,_,_,_,hx,rfl,at0 _ _,isS ?_⟩;refine ⟨_,rfl,rfl,_,rfl,bS ⟨_,rfl,_,rfl,_,_,_,hx,rfl,rfl,λv2 hv2=>?_⟩⟩;obtain ⟨b,xs,rfl,hb,_,rb⟩:=hv2.unref;obtain rfl:=bT rb;refine ⟨b,_,rfl,.inr hb,λl hl=>?_⟩;refine ⟨_,l,zs,rfl,SqL.of aa,(4),(3),(3),?_⟩;rw [et];exact q _ (ag hl _)
 ·have et:=dX (w:= "record") (4) (gs.map fw3);have tl:=(nL "record" (sepW (gs.map fw3))).1;rw [<- l5] at tl;refine ⟨_,rfl,_,_,_,hx,rfl,at0 _ _,isS ?_⟩;refine ⟨_,rfl,rfl,_,rfl,bt (aM (4)) ⟨_,rfl,rfl,_,rfl,bS ⟨_,rfl,_,rfl,_,_,_,hx,rfl,rfl,λv2 hv2=>?_⟩⟩⟩;obtain ⟨b,xs,rfl,hb,_,rb⟩:=hv2.unref;have lx:=rb.length;rw [aAa] at lx;refine ⟨b,rfl,⟨_,hb⟩,λl hl=>?_⟩;refine eV (K:=K) (xs:=xs) (λi zs σ H'=>zs=(((gs.map fw3).map ai).take i).map V.str/\Same H H'/\H' l=some (.lst zs)/\∃ w1 w2,σ=[w1,w2]) ⟨rfl,ag hl _,aa,_,_,rfl⟩ (λi zs σ H' _ p=>p.2.1.tup hb) ?_ ?_
  ·rintro i y zs σ H1 N hy ⟨rfl,g1,f1',w1,w2,rfl⟩ next;obtain ⟨d0,hd0,hdy⟩:=rb.get' hy;rw [aAg] at hd0;obtain ⟨g,hg,rfl⟩:=aAi.mp hd0;have hgm:=aAs hg;have hz0:((gs.map fw3).map ai)[i]?=some (ai (fw3 g)):=by rw [aAg,aAg,hg];rfl
   obtain ⟨c,c1,c2,rfl,hc,hc1,hc2⟩:=dS (show IsP K H (.tup [.str g.1,g.2.1]) y from hdy);obtain rfl:=bC hc1;have ml:=PySem.join_mem_le (Str.ofString ", ") _ _ (aAs hz0);have tp:g.1.length+2+(ai g.2.2).length<=(ai (fw3 g)).length:=sH g.1 g.2.2;have ep:=ix (hzs g hgm).bk g.2.2;refine ⟨c,_,rfl,g1.tup hc,rfl,_,_,rfl,_,_,rfl,rfl,?_⟩;refine ⟨_,rfl,_,rfl,g.2.1,c2,g.2.2,rfl,hc2.same g1,hk g hgm,(3),λH2 g2=>?_⟩;refine ⟨_,_,rfl,(3),(3),?_⟩;rw [ep];refine ⟨g2 _ _ f1',?_,next _ _ _ ⟨?_,bR hl (g1.trans g2),aa,_,_,rfl⟩⟩
   ·rw [aAa,aAF,aAa,aAa];exact ay (3)
   ·rw [aAC,hz0,aAr]
    rfl
  rintro zs σ H1 ⟨rfl,g1,f1',w1,w2,rfl⟩;have ll:((gs.map fw3).map ai).length=gs.length:=by rw [aAa,aAa]
  rw [aAx (3)] at f1';refine ⟨_,l,(gs.map fw3).map ai,rfl,SqL.of f1',(4),(3),(3),?_⟩;rw [et];exact q H1 g1
theorem xA {p:Str×Str} (h1:NmC p.1) (h2:NmC p.2):p.1++Str.ofString ": " ++p.2=ai (wyW p):=by
 have:=ix h1.bk [p.2];rw [dI h2.bk] at this;exact this
theorem qV (fo bk:List (List Str)):Str.ofString "words" ++Str.ofString "(" ++Str.join (Str.ofString ", ") (fo.map ai)++Str.ofString "; " ++Str.join (Str.ofString ", ") (bk.map ai)++Str.ofString ")" = ai (brW "words" ((sepW fo++[(";" : Str)])++sepW bk)):=by
 apply bG;show _=aX _;unfold brW;rw [aI,aI,aI,aI,aI,e7,e7,aS,aS,aS,aS,a9 "words" ["("],show blk "words" = 0 by decide +kernel,cq.1,cq.2.1,cq.2.2.2.2.2.2.1,cq.2.2.2.2.2.2.2,show aX [(";" : Str)]=[59,32] by decide +kernel,show (Str.ofString "; ").cps.toList=[59,32] by decide +kernel];simp
theorem pj (T:Tx K mg ad) (n:Nat) {f ff:Addr} {fd fdf:FuncData} (F:Gn K mg "turn_text" cX ["turn"] f fd) (Kd:Gn K mg "form_text" cw ["sort","thing"] ff fdf)
  (Kp:FnOk P w K mg base CX0 (3*n+9+1) ff fdf ["sort","thing"] (sFT K n)):FnOk P w K mg base CX0 (3*(n+1)+8) f fd ["turn"] (sTT K (n+1)):=by
 obtain ⟨f3,d3,JQ⟩:=T.with_commas;have JY:=eg (P:=P) (w:=w) (base:=base) T JQ;obtain ⟨f4,d4,J4⟩:=T.pair_text;have Ko:=fF (P:=P) (w:=w) (base:=base) T J4;refine F.F.ok dG (λvs H Q E h=>?_) (λcdv A outer s H vs Q E hr h=>?_)
 ·obtain ⟨d,x,ws,rfl,_⟩:=h
  rfl
 obtain ⟨d,x,ws,rfl,hx,tw,hz,q⟩:=h;refine ⟨_,(6,(20,dG.nd,@pi1 K _ _ _ _ _ _ _ rfl (pv 0)),(6,(11,pt_cmpR op_eq (pv 1) pe_str (nomark _),(6,(23,dG.nd,(10,JQ,JY,(9,pe_callTy (ia (K:=K) rfl) rfl T.z_list boot_list (9,@pi1 K _ _ _ _ _ _ _ rfl (pv 0))))),(6,(21,3,dG.nd,(10,JQ,JY,(9,pe_comp rfl (cs0 (NL:=["behind","elder"]) rfl (4) (4)) (pi_tupN (K:=K) rfl (@pi1 K _ _ _ _ _ _ _ rfl (pv 0))) (λ_ _ _ _=>(kP (K:=K) (n:=2) rfl rfl (aJ (aj (i:=0) (show List.Nodup (α:=Str) ["behind","elder"] by decide +kernel) rfl (Or.inl rfl)) (aJ (aj (i:=1) (show List.Nodup (α:=Str) ["behind","elder"] by decide +kernel) rfl (Or.inl rfl)) dD)))) (λ_ _ _ _=>(10,J4,Ko,@pa2 _ _ _ _ _ (pv 0) (pv 1) (1) (1)))))),(5,(8,oA (io (pv 1) (jG pe_str (io (pv 2) (jG pe_str (io (pv 3) (jG pe_str rY))))))))))),(5,(8,(10,Kd,Kp,(12,pe_str,pv 0)))))),?_⟩;have key:(∃ (wd:Str) (ds:List Dt) (fs:List Str) (wss:List (List Str)),d=.tup (.str wd :: ds)/\ws=brW wd (sepW wss)/\NmC wd/\¬ wd= "words" /\aP "turn" wd=some fs/\ds.length=fs.length/\wss.length=fs.length /\
   (∀ (i:Nat) (s:Str) (d:Dt) (z:Str),fs[i]?=some s->ds[i]?=some d->(wss.map ai)[i]?=some z->PT n s d z))\/(∃ (fo:List Str) (bk:List (Str×Str)),d=.tup [.str "words",.tup (fo.map Dt.str),.tup (bk.map wyD)]/\ws=brW "words" ((sepW (fo.map λz=>[z])++[(";" : Str)])++sepW (bk.map wyW))/\fo.length<=8/\bk.length<=8/\(∀ z∈fo,NmC z)/\∀ p∈bk,NmC p.1/\NmC p.2):=by
  cases tw with
  | nums _ w js hw nw hf hj =>
   refine .inl ⟨w,_,_,js.map (λi=>[aK i]),rfl,rfl,hw,nw,hf,by rw [aAa,aAa],by rw [aAa,aAa],λi s d z h1 h2 h3=>?_⟩;rw [aAg] at h1 h2;rw [aAg,aAg] at h3;obtain ⟨j,hj1,rfl⟩:=aAi.mp h2;rw [hj1] at h1 h3
   cases h1
   cases h3
   exact ⟨_,.num (hj j (aAs hj1)),rfl⟩
  | @items _ t tw' ht =>
   refine .inl ⟨"items",[t],["turn"],[tw'],rfl,rfl,dZ.2,(4),(4),rfl,rfl,λi s d z h1 h2 h3=>?_⟩
   match i,h1,h2,h3 with
   | 0,h1,h2,h3=>cases h1;cases h2;cases h3;exact ⟨_,.turn ht,rfl⟩
  | words _ fo bk _ _ f8 b8 hf hb=>exact .inr ⟨fo,bk,rfl,rfl,f8,b8,hf,hb⟩
 rcases key with ⟨wd,ds,fs,wss,rfl,rfl,hw,nw,hf,l1,l2,hp⟩ | ⟨fo,bk,rfl,rfl,f8,b8,hfo,hbk⟩
 ·have et:=dX hw.bk wss;refine ⟨_,rfl,_,_,_,hx,rfl,at0 _ _,isS ?_⟩;refine ⟨_,rfl,rfl,_,rfl,bt (aM nw) ⟨_,rfl,"turn",wd,ds,fs,wss.map ai,x,rfl,hx,hf,l1,by rw [aAa];exact l2,hp,?_,λH5 g5=>?_⟩⟩
  ·unfold ig;rw [et];exact hz
  ·unfold ig;rw [et];exact q H5 g5
 ·have et:=qV (fo.map λz=>[z]) (bk.map wyW);rw [gA hfo] at et;have el:=congrArg Str.length et;simp only [aAd] at el;refine ⟨_,rfl,_,_,_,hx,rfl,at0 _ _,isS ?_⟩;refine ⟨_,rfl,rfl,_,rfl,bS ⟨_,rfl,_,_,_,hx,rfl,rfl,λv2 hv2=>?_⟩⟩;obtain ⟨b,xs,rfl,hb,_,rb⟩:=hv2.unref;obtain rfl:=bT rb;refine ⟨b,_,rfl,.inr hb,λl hl=>?_⟩;refine ⟨l,fo,rfl,SqL.of aa,(3),(3),?_⟩;have g1:=ag (H:=H) hl (.lst (fo.map V.str));refine ⟨_,rfl,_,_,_,hx.same g1,rfl,rfl,λv3 hv3=>?_⟩;obtain ⟨c,ys,rfl,hc,_,rc⟩:=hv3.unref;have ly:=rc.length;rw [aAa] at ly;refine ⟨c,rfl,⟨_,hc⟩,λl2 hl2=>?_⟩;refine eV (K:=K) (xs:=ys) (λi zs σ H'=>zs=(((bk.map wyW).map ai).take i).map V.str/\Same (upd H l (.lst (fo.map V.str))) H'/\H' l2=some (.lst zs)/\∃ w1 w2,σ=[w1,w2]) ⟨rfl,ag hl2 _,aa,_,_,rfl⟩ (λi zs σ H' _ p=>p.2.1.tup hc) ?_ ?_
  ·rintro i y zs σ H2 N hy ⟨rfl,g2,f2,w1,w2,rfl⟩ next;obtain ⟨d0,hd0,hdy⟩:=rc.get' hy;rw [aAg] at hd0;obtain ⟨p,hp,rfl⟩:=aAi.mp hd0;have hpm:=aAs hp;have hz0:((bk.map wyW).map ai)[i]?=some (ai (wyW p)):=by rw [aAg,aAg,hp];rfl
   obtain ⟨e,e1,e2,rfl,he,he1,he2⟩:=dS hdy;obtain rfl:=bC he1;obtain rfl:=bC he2;have:=(hbk p hpm).1.2.2;have:=(hbk p hpm).2.2.2;refine ⟨e,_,rfl,g2.tup he,rfl,_,_,rfl,_,_,rfl,rfl,?_⟩;refine ⟨_,rfl,_,rfl,_,_,rfl,(3),(3),?_⟩;rw [xA (hbk p hpm).1 (hbk p hpm).2];refine ⟨f2,?_,next _ _ _ ⟨?_,bR hl2 g2,aa,_,_,rfl⟩⟩
   ·rw [aAa,aAF,aAa,aAa];exact ay (3)
   ·rw [aAC,hz0,aAr]
    rfl
  rintro zs σ H2 ⟨rfl,g2,f2,w1,w2,rfl⟩;have ll:((bk.map wyW).map ai).length=bk.length:=by rw [aAa,aAa]
  rw [aAx (3)] at f2;refine ⟨l2,(bk.map wyW).map ai,rfl,SqL.of f2,(3),(3),?_⟩;have l0:Str.empty.length=0:=rfl;refine ⟨_,rfl,_,rfl,cf (3),bM (by simp only [aAd];lia),_,rfl,cf (3),bM (by simp only [aAd];lia),_,rfl,_,rfl,cf (3),bM (by simp only [aAd];lia),_,rfl,cf (3),bM (by simp only [aAd];lia),_,rfl,_,rfl,cf (3),bM (by simp only [aAd];lia),_,rfl,cf (3),bM (by simp only [aAd];lia),bM (by simp only [aAd];lia),?_⟩;rw [ph,et];exact q H2 (g1.trans g2)
theorem nM (T:Tx K mg ad) {f ff fp ft:Addr} {fd fdf fdp fdt:FuncData} (D:Gn K mg "kind_text" cW ["kind"] f fd) (Df:Gn K mg "form_text" cw ["sort","thing"] ff fdf) (Dp:Gn K mg "part_text" cY ["part","sort"] fp fdp) (Dt':Gn K mg "turn_text" cX ["turn"] ft fdt):∀ n,FnOk P w K mg base CX0 (3*n+8) f fd ["kind"] (sKT K n)/\FnOk P w K mg base CX0 (3*n+8) ft fdt ["turn"] (sTT K n)
 | 0=>⟨(fn_none λ_ _ _ _ h=>by obtain ⟨_,_,_,_,_,kw,_⟩:=h;cases kw),(fn_none λ_ _ _ _ h=>by obtain ⟨_,_,_,_,_,kw,_⟩:=h;cases kw)⟩
 | n+1 =>
  have ih:=nM T D Df Dp Dt' n;have G:=jb T n Df Dp (jc T n Dp D Dt' ih.1 ih.2)
  ⟨pi T n D Df ih.1 G,pj T n Dt' Df G⟩
def mP (K:W.Frag) (_:Ads):Sp:=λvs H Q _=>∃ (d:Dt) (x:V) (ws:List Str),vs=[x]/\IsP K H d x/\PW d ws/\(ai ws).length<=100000/\∀ H',Same H H'->Q (.str (ai ws)) H'
theorem mQ (T:Tx K mg ad) {f:Addr} {fd:FuncData} (F:Gn K mg "piece_text" fH ["piece"] f fd):FnOk P w K mg base CX0 26 f fd ["piece"] (mP K ad):=by
 obtain ⟨f1,d1,D1⟩:=T.kind_text;obtain ⟨f2,d2,Kd⟩:=T.form_text;obtain ⟨f3,d3,D3⟩:=T.part_text;obtain ⟨f4,d4,D4⟩:=T.turn_text;have ih:=nM (P:=P) (w:=w) (base:=base) T D1 Kd D3 D4 5;have Kp:=jb (P:=P) (w:=w) (base:=base) T 5 Kd D3 (jc T 5 D3 D1 D4 ih.1 ih.2);refine F.F.ok mS (λvs H Q E h=>?_) (λcdv A outer s H vs Q E hr h=>?_)
 ·obtain ⟨d,x,ws,rfl,_⟩:=h
  rfl
 obtain ⟨d,x,ws,rfl,hx,⟨w,fs,its,hw,hf,hl,hp,rfl,rfl⟩,hz,q⟩:=h;refine ⟨_,(5,(8,(10,Kd,Kp,(12,pe_str,pv 0)))),?_⟩;have et:=dX hw.bk (its.map (·.2));refine ⟨_,rfl,"piece",w,its.map (·.1),fs,(its.map (·.2)).map ai,x,rfl,hx,hf,by rw [aAa,hl],by rw [aAa,aAa,hl],λi s d z h1 h2 h3=>?_,?_,λH5 g5=>?_⟩
 ·rw [aAg] at h2;obtain ⟨it,hit,rfl⟩:=aAi.mp h2;rw [aAg,aAg,hit] at h3
  cases h3
  exact ⟨_,hp (s,it) (aAs ((aAT (z:=(s,it))).mpr ⟨h1,hit⟩)),rfl⟩
 ·unfold ig;rw [et];exact hz
 ·unfold ig;rw [et];exact q H5 g5
theorem gB {a b:TS} {D:Ends} {σ:L2.St} {H:Hp} (h:∀ k:L2.St->Hp->Prop,(∀ σ H,b D σ H->k σ H)->a { D with nx:=k } σ H):HF a b D σ H:=h _ λ_ _ h=>h
def aD (wss:List (List Str)):List Str:=wss.flatMap λx=>x++[("," : Str)]
theorem cI:∀ (x:List Str) (r:List (List Str)),aD (x :: r)=sepW (x :: r)++[("," : Str)]
 | x,[]=>by simp [aD,sepW]
 | x,y :: r=>by
  have:=cI y r;show (x++[("," : Str)])++aD (y :: r)=((x++[("," : Str)])++sepW (y :: r))++_;rw [this,aAD (x++[("," : Str)])]
theorem bH (wss:List (List Str)) (x:List Str):aD (wss++[x])=aD wss++(x++[("," : Str)]):=by simp [aD]
theorem pk {α:Type} (l:List α) (a:α):atI (l++[a]) (-1)=some a:=by
 unfold atI ixN;rw [aAc,aA2,if_neg (by decide),if_pos (3),show ((-1:Int)+((l.length+1:Nat):Int)).toNat=l.length by lia];simp
theorem mr (l:List V) (a:V):k7 (l++[a]) none (some (-1))=l:=by
 unfold k7 HT.sIx;dsimp only;rw [aAc,aA2,if_pos (by decide),show ((-1:Int)+((l.length+1:Nat):Int)).toNat=l.length by lia];simp
theorem bX {K:W.Frag} {H:Hp} {l b:Addr} {xs ys:List Str} {Q:VK} (hl:H l=some (.lst (xs.map V.str))) (hb:H b=some (.lst (ys.map V.str))) (hn:xs.length+ys.length<=200000) (q:∀ p H',H p=none->Same H H'->H' p=some (.lst ((xs++ys).map V.str))->Q (.ref p) H'):ICatS K (.ref l) (.ref b) H Q :=
 ⟨l,b,_,_,rfl,rfl,SqL.of hl,SqL.of hb,by rw [aAa,aAa];exact bM (3),λp hp=>q p _ hp (ag hp _) (by rw [aa,aAr])⟩
theorem a7 {K:W.Frag} {H:Hp} {l:Addr} {xs:List Str} (ys:List Str) {Q:VK} (hl:H l=some (.lst (xs.map V.str))) (hn:xs.length+ys.length<=200000) (q:∀ p H',H p=none->Same H H'->H' p=some (.lst ((xs++ys).map V.str))->Q (.ref p) H'):∀ b,H b=none->ICatS K (.ref l) (.ref b) (upd H b (.lst (ys.map V.str))) Q:=λb hb =>
 bX (by rw [ac (ah hl hb)];exact hl) aa hn λp H' hp g h=>q p H' (by
  cases c:H p with
  | none=>rfl
  | some o=>rw [ag hb _ _ _ c] at hp;cases hp) ((ag hb _).trans g) h
theorem none_of {H H':Hp} {p:Addr} (g:Same H H') (h:H' p=none):H p=none:=by
 cases c:H p with
 | none=>rfl
 | some o=>rw [g _ _ c] at h;cases h
theorem kS {x:List Str}:∀ {wss:List (List Str)},x∈wss->aC x<=aC (sepW wss)
 | [y],h=>by rw [aAp.mp h];exact aAo _
 | y :: z :: r,h=>by
  show _<=aC ((y++[("," : Str)])++sepW (z :: r));rw [aY,aY];rcases aAn.mp h with rfl | h
  ·lia
  ·have:=kS h;lia
theorem dJ (wss:List (List Str)) (i:Nat):(aD (wss.take i)).length<=(sepW wss).length+1:=by
 have h:(aD (wss.take i)).length<=(aD wss).length:=by
  conv=>rhs;rw [<- List.take_append_drop i wss]
  unfold aD;rw [List.flatMap_append,aAc];lia
 cases wss with
 | nil=>simp [aD]
 | cons x r =>
  rw [cI,aAc] at h;exact h
def Cn (K:W.Frag) (n:Nat):Sp:=λvs H Q _=>∃ (d:Dt) (x:V) (ws:List Str),vs=[x]/\IsP K H d x/\KW n d ws/\aC ws<=50000/\∀ l H',H l=none->Same H H'->H' l=some (.lst (ws.map V.str))->Q (.ref l) H'
theorem jd (T:Tx K mg ad) (n:Nat) {f:Addr} {fd:FuncData} (JT:Gn K mg "_law_kind_words" bY ["kind"] f fd) (J6:FnOk P w K mg base CX0 (n+2) f fd ["kind"] (Cn K n)):FnOk P w K mg base CX0 (n+3) f fd ["kind"] (Cn K (n+1)):=by
 refine JT.F.ok ao (λvs H Q E h=>?_) (λcdv A outer s H vs Q E hr h=>?_)
 ·obtain ⟨d,x,ws,rfl,_⟩:=h
  rfl
 obtain ⟨d,x,ws,rfl,hx,kw,hz,q⟩:=h;refine ⟨_,(@pss_cons _ _ _ _ _ (20,ao.nd,@pi1 K _ _ _ _ _ _ _ rfl (pv 0)) (@pss_cons _ _ _ _ _ (23,ao.nd,@pe_lst _ _ _ _ (12,pv 1,pe_str)) (@pss_cons _ _ _ _ _ (@ps_if _ _ _ _ _ _ _ _ (pt_cmpR op_eq (pv 1) pe_str (nomark _)) (@pss_one _ _ _ (ps_for PassesOwn.never rfl (pi_tupN (K:=K) rfl (@pi1 K _ _ _ _ _ _ _ rfl (pv 0))) (jx rfl (aJ (aj (i:=3) ao.nd rfl (Or.inl rfl)) (aJ (aj (i:=4) ao.nd rfl (Or.inl rfl)) dD)))
    (5,(23,ao.nd,(19,(19,(19,pv 2,@pe_lst _ _ _ _ (12,pv 3,pe_str)),(10,JT,J6,(9,pv 4))),@pe_lst _ _ _ _ (@pa1 _ _ _ pe_str (1))))))) (@pss_one _ _ _ (@ps_if _ _ _ _ _ _ _ _ (pt_cmpR op_eq (pv 1) pe_str (nomark _)) (@pss_one _ _ _ (ps_for PassesOwn.never rfl (pi_tupN (K:=K) rfl (@pi1 K _ _ _ _ _ _ _ rfl (pv 0))) (aj (i:=3) ao.nd rfl (Or.inl rfl))
    (5,(23,ao.nd,(19,pv 2,@pe_lst _ _ _ _ (12,pv 3,pe_str)))))) (@pss_one _ _ _ (@ps_if _ _ _ _ _ _ _ _ (pt_cmpR op_eq (pv 1) pe_str (nomark _)) (5,(23,ao.nd,(19,(19,(19,pv 2,@pe_lst _ _ _ _ (12,pe_callTy call_str_int rfl T.z_str boot_str (9,@pi1 K _ _ _ _ _ _ _ rfl (pv 0)),pe_str)),(10,JT,J6,(9,@pi1 K _ _ _ _ _ _ _ rfl (pv 0)))),@pe_lst _ _ _ _ (@pa1 _ _ _ pe_str (1))))) (@pss_one _ _ _ (@ps_if _ _ _ _ _ _ _ _ (pt_cmpR op_eq (pv 1) pe_str (nomark _)) (5,(23,ao.nd,(19,(19,(19,pv 2,@pe_lst _ _ _ _ (@av _ _ _ _ _ (@pi1 K _ _ _ _ _ _ _ rfl (pv 0)) (@pa3 _ _ _ _ _ _ _ pe_str (pe_callTy call_str_int rfl T.z_str boot_str (9,@pi1 K _ _ _ _ _ _ _ rfl (pv 0))) pe_str (1) (1) (1)) (1))),(10,JT,J6,(9,@pi1 K _ _ _ _ _ _ _ rfl (pv 0)))),@pe_lst _ _ _ _ (@pa1 _ _ _ pe_str (1))))) (@pss_one _ _ _ (ps_for PassesOwn.never rfl (pi_tupN (K:=K) rfl (pe_slice (eW (K:=K) rfl) (pv 0) (po_some pe_int) cp)) (aj (i:=5) ao.nd rfl (Or.inl rfl))
    (5,(23,ao.nd,(19,pv 2,@pe_lst _ _ _ _ (12,pe_callTy call_str_int rfl T.z_str boot_str (9,pv 5),pe_str))))))))))))) (6,(11,pt_cmpR op_eq (@pe_ix _ _ _ _ _ _ _ (aG (K:=K) rfl) (pv 2) (@pe_un _ _ _ _ _ _ un_neg pe_int) (λ_ _=>rfl)) pe_str (nomark _),(5,(23,ao.nd,pe_slice (iV (K:=K) rfl) (pv 2) cp (po_some (@pe_un _ _ _ _ _ _ un_neg pe_int))))),(5,(8,(19,pv 2,@pe_lst _ _ _ _ (@pa1 _ _ _ pe_str (1))))))))),?_⟩
 obtain ⟨wd,ds,wss,hd,rfl,alt⟩:∃ wd ds wss,d=.tup (.str wd :: ds)/\ws=brW wd (sepW wss)/\((wd= "record" /\∃ gs:List G3,ds=[.tup (gs.map pr3)]/\wss=gs.map fw3/\∀ g∈gs,KW n g.2.1 g.2.2)\/(wd= "choice" /\∃ zs:List Str,ds=[.tup (zs.map Dt.str)]/\wss=zs.map λz=>[z]) \/
   (wd= "list" /\∃ k0 kw i,ds=[k0,.int i]/\wss=[[aK i],kw]/\KW n k0 kw/\i.natAbs < 10 ^ 60)\/(wd= "rows" /\∃ z k0 kw i,ds=[.str z,k0,.int i]/\wss=[[z],[aK i],kw]/\KW n k0 kw/\i.natAbs < 10 ^ 60) \/
   ((¬ wd= "record" /\¬ wd= "choice" /\¬ wd= "list" /\¬ wd= "rows")/\∃ js:List Int,ds=js.map Dt.int/\wss=js.map (λi=>[aK i])/\∀ i∈js,i.natAbs < 10 ^ 60)):=by
  cases kw with
  | number _ i j hi hj=>exact ⟨_,_,[[aK i],[aK j]],rfl,rfl,.inr (.inr (.inr (.inr ⟨by decide +kernel,[i,j],rfl,rfl,λk hk=>by
    rcases aAn.mp hk with rfl | hk
    ·exact hi
    ·rw [aAp.mp hk];exact hj⟩)))⟩
  | text _ i hi=>exact ⟨_,_,[[aK i]],rfl,rfl,.inr (.inr (.inr (.inr ⟨by decide +kernel,[i],rfl,rfl,λk hk=>by rw [aAp.mp hk];exact hi⟩)))⟩
  | list hk hi=>exact ⟨_,_,_,rfl,rfl,.inr (.inr (.inl ⟨rfl,_,_,_,rfl,rfl,hk,hi⟩))⟩
  | rows hz0 hk hi=>exact ⟨_,_,_,rfl,rfl,.inr (.inr (.inr (.inl ⟨rfl,_,_,_,_,rfl,rfl,hk,hi⟩)))⟩
  | choice _ zs h0 h8 hzs=>exact ⟨_,_,_,rfl,rfl,.inr (.inl ⟨rfl,zs,rfl,rfl⟩)⟩
  | rcd h8 hzs hk=>exact ⟨_,_,_,rfl,rfl,.inl ⟨rfl,_,rfl,rfl,hk⟩⟩
 have wl:=bh (brW wd (sepW wss));rw [di] at wl;refine ⟨_,rfl,_,_,_,(hd ▸ hx),rfl,at0 _ _,isS ?_⟩;refine ⟨_,rfl,sz2,λl hl=>?_⟩;dsimp only [cR];refine gB λk hk=>?_;have fin:∀ (l':Addr) (H':Hp) (v3 v4 v5:Option V),Same H H'->H l'=none->H' l'=some (.lst (([wd,"("]++aD wss).map V.str))->k [some x,some (.str wd),some (.ref l'),v3,v4,v5] H':=λl' H' v3 v4 v5 g hn hl'=>hk _ _ (by
  have ret:∀ (l1:Addr) (H1:Hp),Same H H1->H1 l1=some (.lst (([wd,"("]++sepW wss).map V.str))->Bz (tOp (sY K) (iH 2) (uA (bO (tC (V.str (Str.ofString ")"))) iL))) { nx:=λx H'=>Q V.non H',rt:=Q } [some x,some (V.str wd),some (V.ref l1),v3,v4,v5] H1:=λl1 H1 g1 h1 =>
   ⟨_,rfl,sz1,a7 [(")" : Str)] h1 (by simp only [aAc,aAb,aAl];lia) λp H2 hp g2 h2=>q p H2 (none_of g1 hp) (g1.trans g2) h2⟩
  cases wss with
  | nil=>exact ⟨_,rfl,_,rfl,l',_,_,_,rfl,rfl,SqL.of hl',rfl,rfl,_,rfl,bt (aM (4)) (ret l' H' g hl')⟩
  | cons y r =>
   rw [cI,<- aAD,aAr] at hl';refine ⟨_,rfl,_,rfl,l',_,_,_,rfl,rfl,SqL.of hl',pk _ _,rfl,_,rfl,bS ⟨_,rfl,_,rfl,_,rfl,l',_,rfl,SqL.of hl',λp hp=>?_⟩⟩;refine ret p _ (g.trans (ag hp _)) ?_;rw [aa];exact congrArg (λz=>some (HO.lst z)) (mr _ _))
 have hx':IsP K H (.tup (.str wd :: ds)) x:=hd ▸ hx;have g1:Same H (upd H l (.lst [V.str wd,V.str "("])):=ag hl _;have h1:(upd H l (.lst [V.str wd,V.str "("])) l=some (.lst (([wd,"("]++aD (wss.take 0)).map V.str)):=aa
 revert g1 h1
 generalize upd H l (.lst [V.str wd,V.str "("])=H1
 intro g1 h1;have win:∀ {y:List Str},y∈wss->aC y<=50000:=λhy=>by
  have:=kS hy;rw [bW] at hz;lia
 have cl:=dJ wss;have sl:(sepW wss).length<=100000:=(3)
 have size:∀ (i:Nat) (m:Nat),m<=10->([wd,"("]++aD (wss.take i)).length+m<=200000:=λi m hm=>by
  have:=cl i;simp only [aAc,aAb,aAl];lia
 refine ⟨_,rfl,rfl,_,rfl,?_⟩;rcases alt with ⟨rfl,gs,rfl,rfl,hk⟩ | ⟨rfl,zs,rfl,rfl⟩ | ⟨rfl,k0,kz,i,rfl,rfl,hk,hi⟩ | ⟨rfl,z,k0,kz,i,rfl,rfl,hk,hi⟩ | ⟨⟨n1,n2,n3,n4⟩,js,rfl,rfl,hjs⟩
 ·refine bS ⟨_,rfl,_,_,_,hx'.same g1,rfl,rfl,λv2 hv2=>?_⟩;obtain ⟨b,xs,rfl,hb,_,rb⟩:=hv2.unref;refine ⟨b,rfl,⟨_,hb⟩,cQ (K:=K) (xs:=xs) (λi σ H'=>∃ l' v3 v4,Same H1 H'/\H l'=none/\H' l'=some (.lst (([("record" : Str),"("]++aD ((gs.map fw3).take i)).map V.str))/\σ=[some x,some (.str "record"),some (.ref l'),v3,v4,none]) ⟨l,_,_,Same.refl _,hl,h1,rfl⟩ (λi σ H' _ p=>by obtain ⟨_,_,_,g,_⟩:=p;exact g.tup hb) ?_ ?_⟩
  ·rintro i y σ H2 hy ⟨l',v3,v4,g2,hn,hl',rfl⟩;obtain ⟨d0,hd0,hdy⟩:=rb.get' hy;rw [aAg] at hd0;obtain ⟨g,hg,rfl⟩:=aAi.mp hd0;obtain ⟨c,c1,c2,rfl,hc,hc1,hc2⟩:=dS (show IsP K H1 (.tup [.str g.1,g.2.1]) y from hdy);obtain rfl:=bC hc1;have hgm:=aAs hg;have tk:(gs.map fw3).take (i+1)=(gs.map fw3).take i++[fw3 g]:=by rw [aAC,aAg,hg];rfl
   have wg:aC g.2.2<=50000:=by
    have:=win (aBA (f:=fw3) hgm);rw [aY] at this;lia
   have lg:=bh g.2.2;have ci:=cl i;refine ⟨c,_,rfl,g2.tup hc,rfl,_,_,rfl,_,_,rfl,rfl,?_⟩;refine ⟨_,rfl,_,rfl,sz2,a7 [g.1,":"] hl' (size i 2 (by decide)) λp1 H3 hp1 g3 h3=>?_⟩;refine ⟨_,rfl,g.2.1,c2,g.2.2,rfl,(hc2.same g2).same g3,hk g hgm,wg,λb1 H4 hb1 g4 h4=>bX (g4 _ _ h3) h4 (by simp only [aAc,aAb,aAl];lia) λp2 H5 hp2 g5 h5=>?_⟩;refine ⟨sz1,a7 [("," : Str)] h5 (by simp only [aAc,aAb,aAl];lia) λp3 H6 hp3 g6 h6=>?_⟩;have gg:=((g2.trans g3).trans g4).trans (g5.trans g6);refine ⟨p3,_,_,gg,none_of (g1.trans (((g2.trans g3).trans g4).trans g5)) hp3,?_,rfl⟩;rw [h6,tk,bH];simp
  ·rintro σ H2 ⟨l',v3,v4,g2,hn,hl',rfl⟩;have lx:=rb.length;rw [aAa] at lx;rw [aAx (by rw [aAa];lia)] at hl';exact fin l' H2 _ _ _ (g1.trans g2) hn hl'
 ·refine bt (aM (4)) ⟨_,rfl,rfl,_,rfl,bS ⟨_,rfl,_,_,_,hx'.same g1,rfl,rfl,λv2 hv2=>?_⟩⟩;obtain ⟨b,xs,rfl,hb,_,rb⟩:=hv2.unref;obtain rfl:=bT rb;refine ⟨b,rfl,⟨_,hb⟩,cQ (K:=K) (xs:=zs.map V.str) (λi σ H'=>∃ l' v3,Same H1 H'/\H l'=none/\H' l'=some (.lst (([("choice" : Str),"("]++aD ((zs.map λz=>[z]).take i)).map V.str))/\σ=[some x,some (.str "choice"),some (.ref l'),v3,none,none]) ⟨l,_,Same.refl _,hl,h1,rfl⟩ (λi σ H' _ p=>by obtain ⟨_,_,g,_⟩:=p;exact g.tup hb) ?_ ?_⟩
  ·rintro i y σ H2 hy ⟨l',v3,g2,hn,hl',rfl⟩;rw [aAg] at hy;obtain ⟨z,hz',rfl⟩:=aAi.mp hy;have tk:(zs.map λz=>[z]).take (i+1)=(zs.map λz=>[z]).take i++[[z]]:=by rw [aAC,aAg,hz'];rfl
   refine ⟨_,rfl,_,rfl,sz2,a7 [z,","] hl' (size i 2 (by decide)) λp1 H3 hp1 g3 h3=>?_⟩;refine ⟨p1,_,g2.trans g3,none_of (g1.trans g2) hp1,?_,rfl⟩;rw [h3,tk,bH];simp
  ·rintro σ H2 ⟨l',v3,g2,hn,hl',rfl⟩;rw [aAx (by rw [aAa,aAa];exact aAo _)] at hl';exact fin l' H2 _ _ _ (g1.trans g2) hn hl'
 ·have wk:=win (y:=kz) (by simp);have lk:=bh kz;refine bt (aM (4)) ⟨_,rfl,rfl,_,rfl,bt (aM (4)) ⟨_,rfl,rfl,_,rfl,bS ?_⟩⟩;refine ⟨_,rfl,_,rfl,_,_,_,hx'.same g1,rfl,rfl,isI ?_⟩;refine ⟨i,rfl,mm (aAk hi (4)),sz2,a7 [aK i,","] h1 (size 0 2 (by decide)) λp1 H3 hp1 g3 h3=>?_⟩;refine ⟨_,rfl,_,_,_,(hx'.same g1).same g3,rfl,rfl,λv3 hv3=>?_⟩;refine ⟨k0,v3,kz,rfl,hv3,hk,wk,λb1 H4 hb1 g4 h4=>bX (g4 _ _ h3) h4 (by simp only [aAc,aAb,aAl,aD,aBC,aBu];lia) λp2 H5 hp2 g5 h5=>?_⟩;refine ⟨sz1,a7 [("," : Str)] h5 (by simp only [aAc,aAb,aAl,aD,aBC,aBu];lia) λp3 H6 hp3 g6 h6=>?_⟩;refine fin p3 H6 _ _ _ (g1.trans ((g3.trans g4).trans (g5.trans g6))) (none_of (g1.trans ((g3.trans g4).trans g5)) hp3) ?_;rw [h6];simp [aD]
 ·have wk:=win (y:=kz) (by simp);have lk:=bh kz;refine bt (aM (4)) ⟨_,rfl,rfl,_,rfl,bt (aM (4)) ⟨_,rfl,rfl,_,rfl,bt (aM (4)) ⟨_,rfl,rfl,_,rfl,bS ?_⟩⟩⟩;refine ⟨_,rfl,_,rfl,_,_,_,hx'.same g1,rfl,rfl,isS ?_⟩;refine ⟨_,rfl,_,_,_,hx'.same g1,rfl,rfl,isI ?_⟩;refine ⟨i,rfl,mm (aAk hi (4)),(by show 4<=sizeLine;decide),a7 [z,",",aK i,","] h1 (size 0 4 (by decide)) λp1 H3 hp1 g3 h3=>?_⟩;refine ⟨_,rfl,_,_,_,(hx'.same g1).same g3,rfl,rfl,λv3 hv3=>?_⟩;refine ⟨k0,v3,kz,rfl,hv3,hk,wk,λb1 H4 hb1 g4 h4=>bX (g4 _ _ h3) h4 (by simp only [aAc,aAb,aAl,aD,aBC,aBu];lia) λp2 H5 hp2 g5 h5=>?_⟩;refine ⟨sz1,a7 [("," : Str)] h5 (by simp only [aAc,aAb,aAl,aD,aBC,aBu];lia) λp3 H6 hp3 g6 h6=>?_⟩;refine fin p3 H6 _ _ _ (g1.trans ((g3.trans g4).trans (g5.trans g6))) (none_of (g1.trans ((g3.trans g4).trans g5)) hp3) ?_;rw [h6];simp [aD]
 ·refine bt (aM n1) ⟨_,rfl,rfl,_,rfl,bt (aM n2) ⟨_,rfl,rfl,_,rfl,bt (aM n3) ⟨_,rfl,rfl,_,rfl,bt (aM n4) ?_⟩⟩⟩;refine ⟨_,rfl,_,rfl,_,hx'.same g1,λv2 H2 g2 hv2=>?_⟩;rw [w9] at hv2;obtain ⟨b,xs,rfl,hb,_,rb⟩:=hv2.unref;refine ⟨b,rfl,⟨_,hb⟩,cQ (K:=K) (xs:=xs) (λi σ H'=>∃ l' v5,Same H2 H'/\H l'=none/\H' l'=some (.lst (([wd,"("]++aD ((js.map λi=>[aK i]).take i)).map V.str))/\σ=[some x,some (.str wd),some (.ref l'),none,none,v5]) ⟨l,_,Same.refl _,hl,g2 _ _ h1,rfl⟩ (λi σ H' _ p=>by obtain ⟨_,_,g,_⟩:=p;exact g.tup hb) ?_ ?_⟩
  ·rintro i y σ H3 hy ⟨l',v5,g3,hn,hl',rfl⟩;obtain ⟨d0,hd0,hdy⟩:=rb.get' hy;rw [aAg] at hd0;obtain ⟨j,hj,rfl⟩:=aAi.mp hd0;obtain rfl:=lI hdy;have tk:(js.map λi=>[aK i]).take (i+1)=(js.map λi=>[aK i]).take i++[[aK j]]:=by rw [aAC,aAg,hj];rfl
   refine ⟨_,rfl,_,rfl,j,rfl,mm (aAk (hjs j (aAs hj)) (4)),sz2,a7 [aK j,","] hl' (size i 2 (by decide)) λp1 H4 hp1 g4 h4=>?_⟩;refine ⟨p1,_,g3.trans g4,none_of ((g1.trans g2).trans g3) hp1,?_,rfl⟩;rw [h4,tk,bH];simp
  ·rintro σ H3 ⟨l',v5,g3,hn,hl',rfl⟩;have lx:=rb.length;rw [aAa] at lx;rw [aAx (by rw [aAa];lia)] at hl';exact fin l' H3 _ _ _ ((g1.trans g2).trans g3) hn hl'
theorem ue (T:Tx K mg ad) {f:Addr} {fd:FuncData} (D:Gn K mg "_law_kind_words" bY ["kind"] f fd):∀ n,FnOk P w K mg base CX0 (n+2) f fd ["kind"] (Cn K n)
 | 0=>fn_none λ_ _ _ _ h=>by obtain ⟨_,_,_,_,_,kw,_⟩:=h;cases kw
 | n+1=>jd T n D (ue T D n)
def yx (K:W.Frag) (n:Nat):Sp:=λvs H Q _=>∃ (d:Dt) (x:V) (ws:List Str),vs=[x]/\IsP K H d x/\VW n d ws/\aC ws<=50000/\∀ l H',H l=none->Same H H'->H' l=some (.lst (ws.map V.str))->Q (.ref l) H'
theorem ei (T:Tx K mg ad) (n:Nat) {f:Addr} {fd:FuncData} (JX:Gn K mg "_law_value_words" bP ["value"] f fd) (G:∀ m,n=m+1->FnOk P w K mg base CX0 (m+3) f fd ["value"] (yx K m)):FnOk P w K mg base CX0 (n+3) f fd ["value"] (yx K n):=by
 have Kf:FnOk P w K mg base CX0 (n+2) f fd ["value"] (λvs H Q E=>∃ m,n=m+1/\yx K m vs H Q E):=by
  cases n with
  | zero=>exact fn_none λ_ _ _ _ h=>by obtain ⟨m,h,_⟩:=h;cases h
  | succ m=>exact (G m rfl).imp λvs H Q E h=>by obtain ⟨m',e,h⟩:=h;cases e;exact h
 refine JX.F.ok sc_law_value_words (λvs H Q E h=>?_) (λcdv A outer s H vs Q E hr h=>?_)
 ·obtain ⟨d,x,ws,rfl,_⟩:=h
  rfl
 obtain ⟨d,x,ws,rfl,hx,vw,hz,q⟩:=h;refine ⟨_,(@pss_cons _ _ _ _ _ (11,@pt_val _ _ _ (pe_callB (call_isiN' (K:=K) rfl) rfl T.z_isinstance boot_isinstance (@pa2 _ _ _ _ _ (pv 0) (om rfl T.z_str boot_str) (1) (1))) (by intro _;rfl),(5,(8,@pe_lst _ _ _ _ (9,(15,op_add_str,(15,op_add_str,pe_str,pv 0),pe_str))))) (@pss_cons _ _ _ _ _ (11,@pt_val _ _ _ (pe_callB (call_isiN' (K:=K) rfl) rfl T.z_isinstance boot_isinstance (@pa2 _ _ _ _ _ (pv 0) (om rfl T.z_int boot_int) (1) (1))) (by intro _;rfl),(5,(8,@pe_lst _ _ _ _ (9,pe_callTy call_str_int rfl T.z_str boot_str (@pa1 _ _ _ (pv 0) (1)))))) (@pss_cons _ _ _ _ _ (20,sc_law_value_words.nd,@pe_lst _ _ _ _ pa_nil) (@pss_cons _ _ _ _ _ (ps_for PassesOwn.never rfl (pi_tupN (K:=K) rfl (@pi1 K _ _ _ _ _ _ _ rfl (pv 0))) (aj (i:=2) sc_law_value_words.nd rfl (Or.inl rfl))
    (5,@ps_if _ _ _ _ _ _ _ _ (pt_cmpR op_eq (@pi1 K _ _ _ _ _ _ _ rfl (pv 0)) pe_str (nomark _)) (5,(20,sc_law_value_words.nd,(19,(19,(19,pv 1,@pe_lst _ _ _ _ (12,@pi1 K _ _ _ _ _ _ _ rfl (pv 2),pe_str)),(10,JX,Kf,(9,@pi1 K _ _ _ _ _ _ _ rfl (pv 2)))),@pe_lst _ _ _ _ (@pa1 _ _ _ pe_str (1))))) (5,(20,sc_law_value_words.nd,(19,(19,pv 1,(10,JX,Kf,(9,pv 2))),@pe_lst _ _ _ _ (@pa1 _ _ _ pe_str (1))))))) (6,(21,3,sc_law_value_words.nd,@x8 _ _ _ _ _ _ (u1 hr.units) (@ya _ _ _ _ _ (@lm _ _ _ _ _ _ _ _ _ pe_str (@pe_lst _ _ _ _ (12,pe_str,pe_str)) (@lm _ _ _ _ _ _ _ _ _ pe_str (@pe_lst _ _ _ _ (12,pe_str,pe_str)) (@lm _ _ _ _ _ _ _ _ _ pe_str (@pe_lst _ _ _ _ (12,pe_str,pe_str)) (@x9 _ _)))) rfl rfl (List.cons_ne_nil _ _) (show 3<=15 by decide)) (@pi1 K _ _ _ _ _ _ _ rfl (pv 0)) (λ_ _=>rfl)),(5,(8,(19,(19,@pe_lst _ _ _ _ (9,@pe_ix _ _ _ _ _ _ _ (aG (K:=K) rfl) (pv 3) pe_int (λ_ _=>rfl)),pe_slice (iV (K:=K) rfl) (pv 1) cp (po_some (pe_callB (mY rfl) rfl T.z_max boot_max (12,pe_int,(16,cc,pe_callB (bA (K:=K) rfl) rfl T.z_len PySem.boot_len (9,pv 1)))))),@pe_lst _ _ _ _ (9,@pe_ix _ _ _ _ _ _ _ (aG (K:=K) rfl) (pv 3) pe_int (λ_ _=>rfl)))))))))),?_⟩
 have key:(∃ i:Int,d=.int i/\ws=[aK i]/\i.natAbs < 10 ^ 60)\/(∃ z:Str,d=.str z/\ws=[quo z]/\z.length<=60)\/∃ (m:Nat) (wd a b:Str) (ds:List Dt) (wss:List (List Str)),n=m+1/\d=.tup [.str wd,.tup ds]/\ws=enc a (sepW wss) b/\((wd= "list" /\a= "[" /\b= "]")\/(wd= "rows" /\a= "(" /\b= ")")\/(wd= "record" /\a= "{" /\b= "}"))/\ds.length<=8/\wss.length=ds.length /\
   ∀ (i:Nat) (e:Dt) (y:List Str),ds[i]?=some e->wss[i]?=some y->(¬ wd= "record" /\VW m e y)\/(wd= "record" /\∃ (z:Str) (e':Dt) (y':List Str),e=.tup [.str z,e']/\y=[z,":"]++y'/\VW m e' y'):=by
  cases vw with
  | int _ i hi=>exact .inl ⟨i,rfl,rfl,hi⟩
  | str _ z _ hl=>exact .inr (.inl ⟨z,rfl,rfl,hl⟩)
  | @list m its h8 hk=>exact .inr (.inr ⟨m,_,_,_,_,_,rfl,rfl,rfl,.inl ⟨rfl,rfl,rfl⟩,by rw [aAa];exact h8,by rw [aAa,aAa],λi e y h1 h2=>by
    rw [aAg] at h1 h2;obtain ⟨it,hit,rfl⟩:=aAi.mp h1;rw [hit] at h2
    cases h2
    exact .inl ⟨by decide +kernel,hk it (aAs hit)⟩⟩)
  | @rows m its h8 hk=>exact .inr (.inr ⟨m,_,_,_,_,_,rfl,rfl,rfl,.inr (.inl ⟨rfl,rfl,rfl⟩),by rw [aAa];exact h8,by rw [aAa,aAa],λi e y h1 h2=>by
    rw [aAg] at h1 h2;obtain ⟨it,hit,rfl⟩:=aAi.mp h1;rw [hit] at h2
    cases h2
    exact .inl ⟨by decide +kernel,hk it (aAs hit)⟩⟩)
  | @rcd m gs h8 hzs hk=>exact .inr (.inr ⟨m,_,_,_,_,_,rfl,rfl,rfl,.inr (.inr ⟨rfl,rfl,rfl⟩),by rw [aAa];exact h8,by rw [aAa,aAa],λi e y h1 h2=>by
    rw [aAg] at h1 h2;obtain ⟨g,hg,rfl⟩:=aAi.mp h1;rw [hg] at h2
    cases h2
    exact .inr ⟨rfl,_,_,_,rfl,rfl,hk g (aAs hg)⟩⟩)
 rcases key with ⟨i,rfl,rfl,hi⟩ | ⟨z,rfl,rfl,hl⟩ | ⟨m,wd,a,b,ds,wss,rfl,rfl,rfl,ab,l8,lw,each⟩
 ·obtain rfl:=lI hx;exact ⟨_,rfl,_,_,_,rfl,.int_str,_,rfl,ce ⟨_,rfl,_,_,_,rfl,.int_int,_,rfl,df ⟨_,rfl,i,rfl,mm (aAk hi (4)),sz1,λl hl=>q l _ hl (ag hl _) aa⟩⟩⟩
 ·obtain rfl:=bC hx;refine ⟨_,rfl,_,_,_,rfl,.str_str,_,rfl,df ⟨_,rfl,_,_,rfl,rfl,bM (by rw [xu.2];lia),_,_,rfl,rfl,bM (by rw [aAd,xu.2];lia),sz1,λl hl=>q l _ hl (ag hl _) aa⟩⟩
 obtain ⟨ax,u1,u2,rfl,hax,hu1,hu2⟩:=dS hx;obtain rfl:=bC hu1;refine ⟨_,rfl,_,_,_,rfl,.tup_str hax,_,rfl,ce ⟨_,rfl,_,_,_,rfl,.tup_int hax,_,rfl,ce ?_⟩⟩;refine ⟨(by show 0<=sizeLine;decide),λl hl=>?_⟩;have g1:Same H (upd H l (.lst [])):=ag hl _;have h1:(upd H l (.lst [])) l=some (.lst ((aD (wss.take 0)).map V.str)):=aa;dsimp only [cR]
 revert g1 h1
 generalize upd H l (.lst [])=H1
 intro g1 h1;have wl:=bh (enc a (sepW wss) b);rw [kQ] at wl;have cl:=dJ wss;have win:∀ {y:List Str},y∈wss->aC y<=50000:=λhy=>by
  have h1:=kS hy;have h2:aC (sepW wss)<=aC (enc a (sepW wss) b):=by
   unfold enc;rw [aY,aY];lia
  lia
 refine ⟨_,rfl,_,_,_,hx.same g1,rfl,rfl,λv2 hv2=>?_⟩;obtain ⟨bx,xs,rfl,hb,_,rb⟩:=hv2.unref;have lx:=rb.length;refine ⟨bx,rfl,⟨_,hb⟩,cQ (K:=K) (xs:=xs) (λi σ H'=>∃ l' v2,Same H1 H'/\H l'=none/\H' l'=some (.lst ((aD (wss.take i)).map V.str))/\σ=[some (.ref ax),some (.ref l'),v2,none]) ⟨l,_,Same.refl _,hl,h1,rfl⟩ (λi σ H' _ p=>by obtain ⟨_,_,g,_⟩:=p;exact g.tup hb) ?_ ?_⟩
 ·rintro i y σ H2 hy ⟨l',v2,g2,hn,hl',rfl⟩;obtain ⟨d0,hd0,hdy⟩:=rb.get' hy;have il:=(aAj.mp hd0).1;obtain ⟨y0,hy0⟩:∃ y0,wss[i]?=some y0:=⟨_,aAv (3)⟩;have tk:wss.take (i+1)=wss.take i++[y0]:=by rw [aAC,hy0];rfl
  have wy:=win (aAs hy0);have ly:=bh y0;have ci:=cl i;have hx2:=(hx.same g1).same g2;refine ⟨_,rfl,_,_,_,hx2,rfl,at0 _ _,isS ?_⟩;refine ⟨rfl,_,rfl,?_⟩;rcases each i d0 y0 hd0 hy0 with ⟨nr,vw0⟩ | ⟨rfl,z,e',y',rfl,rfl,vw0⟩
  ·refine bt (aM nr) ⟨_,rfl,_,rfl,m,rfl,d0,y,y0,rfl,hdy.same g2,vw0,wy,λb1 H4 hb1 g4 h4=>bX (g4 _ _ hl') h4 (3) λp2 H5 hp2 g5 h5=>?_⟩;refine ⟨sz1,a7 [("," : Str)] h5 (by simp only [aAc,aAb,aAl];lia) λp3 H6 hp3 g6 h6=>?_⟩;refine ⟨p3,_,(g2.trans g4).trans (g5.trans g6),none_of (g1.trans ((g2.trans g4).trans g5)) hp3,?_,rfl⟩;rw [h6,tk,bH];simp
  ·have wy':aC y'<=50000:=by
    rw [aY] at wy;lia
   have ly':=bh y';obtain ⟨c,c1,c2,rfl,hc,hc1,hc2⟩:=dS hdy;obtain rfl:=bC hc1;refine bS ⟨_,rfl,_,rfl,_,_,_,hdy.same g2,rfl,at0 _ _,isS ?_⟩;refine ⟨sz2,a7 [z,":"] hl' (by simp only [aAb,aAl];lia) λp1 H3 hp1 g3 h3=>?_⟩;refine ⟨_,rfl,_,_,_,(hdy.same g2).same g3,rfl,rfl,λv5 hv5=>?_⟩;refine ⟨m,rfl,e',v5,y',rfl,hv5,vw0,wy',λb1 H4 hb1 g4 h4=>bX (g4 _ _ h3) h4 (by simp only [aAc,aAb,aAl] at *;lia) λp2 H5 hp2 g5 h5=>?_⟩;refine ⟨sz1,a7 [("," : Str)] h5 (by simp only [aAc,aAb,aAl] at *;lia) λp3 H6 hp3 g6 h6=>?_⟩;refine ⟨p3,_,((g2.trans g3).trans g4).trans (g5.trans g6),none_of (g1.trans (((g2.trans g3).trans g4).trans g5)) hp3,?_,rfl⟩;rw [h6,tk,bH];simp
 rintro σ H2 ⟨l',v2,g2,hn,hl',rfl⟩;rw [aAx (3)] at hl';intro p hp;refine ⟨sz2,λl1 k1=>⟨sz2,λl2 k2=>⟨sz2,λl3 k3=>?_⟩⟩⟩;have n1:p≠l1:=ah aa k1;have n2:p≠l2:=λc=>by rw [<- c,ac n1,aa] at k2;cases k2
 have n12:l1≠l2:=ah aa k2;have n3:p≠l3:=λc=>by rw [<- c,ac n2,ac n1,aa] at k3;cases k3
 have n13:l1≠l3:=λc=>by rw [<- c,ac n12,aa] at k3;cases k3
 have n23:l2≠l3:=ah aa k3;refine ⟨by rw [ac n3,ac n2,ac n1,aa],[(Sum.inr "list",.ref l1),(Sum.inr "record",.ref l2),(Sum.inr "rows",.ref l3)],rfl,(by show 3<=15;decide),?_⟩;have S0:Same H2 (upd (upd (upd (upd H2 p (.dK [])) l1 (.lst [V.str "[",V.str "]"])) l2 (.lst [V.str "{",V.str "}"])) l3 (.lst [V.str "(",V.str ")"])):=(((ag hp _).trans (ag k1 _)).trans (ag k2 _)).trans (ag k3 _);obtain ⟨li,ev,el,ni⟩:∃ li,hV (dP [] [(Sum.inr "list",.ref l1),(Sum.inr "record",.ref l2),(Sum.inr "rows",.ref l3)]) (Sum.inr wd)=some (.ref li)/\(upd (upd (upd (upd H2 p (.dK [])) l1 (.lst [V.str "[",V.str "]"])) l2 (.lst [V.str "{",V.str "}"])) l3 (.lst [V.str "(",V.str ")"])) li=some (.lst [V.str a,V.str b])/\li≠p:=by
  rcases ab with ⟨rfl,rfl,rfl⟩ | ⟨rfl,rfl,rfl⟩ | ⟨rfl,rfl,rfl⟩
  ·exact ⟨l1,(1),by rw [ac n13,ac n12,aa],n1.symm⟩
  ·exact ⟨l3,(1),aa,n3.symm⟩
  ·exact ⟨l2,(1),by rw [ac n23,aa],n2.symm⟩
 revert S0 el
 generalize upd (upd (upd (upd H2 p (.dK [])) l1 (.lst [V.str "[",V.str "]"])) l2 (.lst [V.str "{",V.str "}"])) l3 (.lst [V.str "(",V.str ")"])=H3
 intro S0 el;have S1:Same H2 (upd H3 p (.dK (dP [] [(Sum.inr "list",.ref l1),(Sum.inr "record",.ref l2),(Sum.inr "rows",.ref l3)]))):=bR hp S0;have el':(upd H3 p (.dK (dP [] [(Sum.inr "list",.ref l1),(Sum.inr "record",.ref l2),(Sum.inr "rows",.ref l3)]))) li=some (.lst ([a,b].map V.str)):=by rw [ac ni];exact el
 have ep:(upd H3 p (.dK (dP [] [(Sum.inr "list",.ref l1),(Sum.inr "record",.ref l2),(Sum.inr "rows",.ref l3)]))) p=some (.dK (dP [] [(Sum.inr "list",.ref l1),(Sum.inr "record",.ref l2),(Sum.inr "rows",.ref l3)])):=aa
 revert S1 el' ep
 generalize upd H3 p (.dK (dP [] [(Sum.inr "list",.ref l1),(Sum.inr "record",.ref l2),(Sum.inr "rows",.ref l3)]))=H4
 intro S1 el' ep;have S4:=(g1.trans g2).trans S1;refine ⟨_,rfl,_,_,_,hx.same S4,rfl,at0 _ _,isS ?_⟩;refine ⟨p,.ref li,rfl,ev ▸ DGet.k (k:=Sum.inr wd) ep,?_⟩;have hw4:=S1 _ _ hl';refine ⟨_,rfl,li,_,_,_,rfl,rfl,SqL.of el',rfl,sz1,λq1 hq1=>?_⟩;have G1:=ag (H:=H4) hq1 (.lst [V.str a]);have cutE:k7 ((aD wss).map V.str) none (some (if (((aD wss).map V.str).length:Int) - 1 > 0 then (((aD wss).map V.str).length:Int) - 1 else 0))=(sepW wss).map V.str:=by
  cases wss with
  | nil=>rfl
  | cons y r =>
   rw [cI,aAr];have e:(if ((((sepW (y :: r)).map V.str++[("," : Str)].map V.str).length:Nat):Int) - 1 > 0 then ((((sepW (y :: r)).map V.str++[("," : Str)].map V.str).length:Nat):Int) - 1 else 0)=(((sepW (y :: r)).map V.str).length:Int):=by
    simp only [aAc,aAa,aAb,aAl]
    split <;> lia
   rw [e];unfold k7;rw [HT.sIx_none,HT.sIx_nat];simp
 refine ⟨_,rfl,_,rfl,l',_,rfl,.inl (SqL.of (G1 _ _ hw4)),_,_,rfl,rfl,_,_,rfl,_,rfl,l',_,rfl,SqL.of (G1 _ _ hw4),λq2 hq2=>?_⟩;rw [cutE];have nq:q1≠q2:=ah aa hq2;have G2:=G1.trans (ag hq2 (.lst ((sepW wss).map V.str)));refine bX (xs:=[a]) (ys:=sepW wss) (by rw [ac nq,aa];rfl) aa (by simp only [aAb,aAl];lia) λp5 H5 hp5 g5 h5=>?_;have S5:=(S4.trans G2).trans g5;refine ⟨_,rfl,li,_,_,_,rfl,rfl,SqL.of (g5 _ _ (G2 _ _ el')),rfl,sz1,a7 [b] h5 (by simp only [aAc,aAb,aAl];lia) λp6 H6 hp6 g6 h6=>?_⟩;exact q p6 H6 (none_of S5 hp6) (S5.trans g6) h6
theorem uf (T:Tx K mg ad) {f:Addr} {fd:FuncData} (D:Gn K mg "_law_value_words" bP ["value"] f fd):∀ n,FnOk P w K mg base CX0 (n+3) f fd ["value"] (yx K n)
 | 0=>ei T 0 D λm h=>by cases h
 | n+1=>ei T (n+1) D λm h=>by cases h;exact uf T D n
def bw (p:Str×Nat):Str:=p.1++cG (List.replicate p.2 32)
theorem je:∀ zs:List Str,(Str.join (Str.ofString "") zs).cps.toList=zs.flatMap λz=>z.cps.toList
 | []=>rfl
 | [x]=>by simp [Str.join]
 | x :: y :: r=>by
  have:=je (y :: r);rw [PyProof.Rows.join_cons_cons,aI,aI,this];simp [show (Str.ofString "").cps.toList=[] from rfl]
theorem jU:∀ (ws:List Str) (bs:List Nat),(((ws.zip bs).map bw).flatMap λz=>z.cps.toList)=aW ws bs
 | [],_=>by simp [aW]
 | _ :: _,[]=>by simp [aW]
 | w :: ws,b :: bs=>by
  rw [aBc,aAq,aBl,jU ws bs];simp only [aW,bw,aI,dW,aAD]
theorem sI:∀ (ws:List Str) (bs:List Nat),(∀ b∈bs,b<=2)->(((ws.zip bs).map bw).map (·.length)).sum<=aC ws
 | [],_,_=>by simp
 | _ :: _,[],_=>by simp
 | w :: ws,b :: bs,h=>by
  have:=sI ws bs λx hx=>h x (aAf _ hx);have hb:=h b aAh;rw [aBc,aAq,aAq,aAV,au];have e:(bw (w,b)).length=w.length+b:=by
   unfold bw;rw [aAd,<- am (cG _),dW,aAW]
  lia
theorem pp (w:Str):blk w<=2:=by
 unfold blk
 split <;> decide
theorem jV {z:Str} {n:Nat} (h:z.cps.toList=(List.replicate ((n:Nat):Int).toNat (Str.ofString " ").cps.toList).flatten):z=cG (List.replicate n 32):=by
 rw [aBf,show (Str.ofString " ").cps.toList=[32] by decide +kernel] at h;apply bG;rw [h,dW]
 clear h
 induction n with
 | zero=>rfl
 | succ n ih=>rw [aAZ,aAZ,List.flatten_cons,ih];rfl
def pq (K:W.Frag) (_:Ads):Sp:=λvs H Q _=>∃ (l:Addr) (ws:List Str),vs=[.ref l]/\H l=some (.lst (ws.map V.str))/\aC ws<=50000/\∀ H',Same H H'->Q (.str (ai ws)) H'
theorem pz (T:Tx K mg ad) {f:Addr} {fd:FuncData} (F:Gn K mg "_law_tight" gP ["words"] f fd):FnOk P w K mg base CX0 1 f fd ["words"] (pq K ad):=by
 refine F.F.ok pL (λvs H Q E h=>?_) (λcdv A outer s H vs Q E hr h=>?_)
 ·obtain ⟨l,ws,rfl,_⟩:=h
  rfl
 obtain ⟨l,ws,rfl,hl,hw,q⟩:=h;refine ⟨_,(5,(8,pe_bm PySem.F.plainAttrs_str PySem.F.slot_str_join PySem.F.type_str_join cS pe_str (9,pe_comp rfl (cs0 (NL:=["word"]) rfl (4) (4)) (gi (K:=K) rfl (pv 0)) (λ_ _ _ _=>(aj (i:=0) (show List.Nodup (α:=Str) ["word"] by decide +kernel) rfl (Or.inl rfl))) (λ_ _ _ _=>(15,op_add_str,pv 0,(15,ip,pe_str,pe_callTy jz rfl T.z_int boot_int (9,fj (fv (K:=K) rfl) (pv 0) (@pe_lst _ _ _ _ (@pa3 _ _ _ _ _ _ _ pe_str pe_str pe_str (1) (1) (1))) rfl))))))),?_⟩;have lw:=bh ws;refine ⟨rfl,_,rfl,l,rfl,⟨_,SqL.of hl⟩,λp hp=>?_⟩;refine lu (K:=K) (xs:=ws.map V.str) (λi zs σ H'=>zs=(((ws.zip (ws.map blk)).map bw).take i).map V.str/\Same H H'/\H' p=some (.lst zs)/\∃ w1,σ=[w1]) ⟨rfl,ag hp _,aa,_,rfl⟩ (λi zs σ H' _ r=>SqL.of (r.2.1 _ _ hl)) ?_ ?_
 ·rintro i y zs σ H1 N hy ⟨rfl,g1,f1,w1,rfl⟩ next;rw [aAg] at hy;obtain ⟨z,hz,rfl⟩:=aAi.mp hy;have hzm:=qP (aAs hz);have hb0:((ws.zip (ws.map blk)).map bw)[i]?=some (bw (z,blk z)):=by
   rw [aAg,(aAT (z:=(z,blk z))).mpr ⟨hz,by rw [aAg,hz];rfl⟩]
   rfl
  refine ⟨_,rfl,_,rfl,sz3,λb hb=>?_⟩;have eb:(if inV (V.str z) ([(",": Str),":",";"].map V.str)=true then (1:Int) else 0)=((blk z:Nat):Int):=by
   rw [sD];unfold blk
   by_cases h:z= "," \/z= ":" \/z= ";"
   ·rw [if_pos (decide_eq_true (by simpa using h)),if_pos h]
    rfl
   ·rw [if_neg (by simpa using h),if_neg h]
    rfl
  refine ⟨b,[(",": Str),":",";"].map V.str,rfl,.inl (SqL.of aa),rfl,rfl,.inr ⟨_,rfl,_,_,rfl,rfl,(4),(4),?_,?_,λz' hz'=>?_⟩⟩
  ·show (0:Int)<=if inV (V.str z) _=true then 1 else 0
   split <;> decide
  ·show (if inV (V.str z) _=true then (1:Int) else 0)<=100
   split <;> decide
  obtain rfl:z'=cG (List.replicate (blk z) 32):=jV (by rw [<- eb];exact hz');have ll:(cG (List.replicate (blk z) 32)).length<=2:=by
   rw [<- am,dW,aAW];exact pp z
  refine ⟨_,_,rfl,rfl,bM (3),?_⟩;have nb:p≠b:=ah f1 hb;refine ⟨by rw [ac nb];exact f1,?_,next _ _ _ ⟨?_,bR hp (g1.trans (ag hb _)),aa,_,rfl⟩⟩
  ·rw [aAa,aAF,aAa,aBo,aAa];exact aBb (Nat.min_le_right _ _) (aBb (show min ws.length ws.length<=50000 by lia) (by decide))
  ·rw [aAC,hb0,aAr]
   rfl
 rintro zs σ H1 ⟨rfl,g1,f1,w1,rfl⟩;have ll:((ws.zip (ws.map blk)).map bw).length=ws.length:=by rw [aAa,aBo,aAa,aBQ]
 rw [aAx (by rw [ll];exact aBL (aAa _).symm)] at f1;have bl:=sI ws (ws.map blk) λb hb=>by
  obtain ⟨z,_,rfl⟩:=aAm.mp hb;exact pp z
 refine ⟨_,p,(ws.zip (ws.map blk)).map bw,rfl,rfl,.inl (SqL.of f1),by rw [ll,show (Str.ofString "").length=0 from rfl];lia,?_⟩;rw [ee,show Str.join (Str.ofString "") ((ws.zip (ws.map blk)).map bw)=ai ws from bG ((je _).trans (jU _ _))];exact q H1 g1
def pA (K:W.Frag) (_:Ads):Sp:=λvs H Q _=>∃ (l r:Addr) (n:Int) (ws:List Str),vs=[.ref l,.ref r]/\l≠r/\H l=some (.lst (ws.map V.str))/\H r=some (.lst [.int n])/\aC ws<=50000 /\
 ∀ (z:Str) (b:Nat) (bs:List Nat) (n':Int) H',But r H H'->H' r=some (.lst [.int n'])->bs.length=ws.length->z.cps.toList=List.replicate b 32++aW ws bs->z.length<=50002->Q (.str z) H'
theorem pB (T:Tx K mg ad) {f:Addr} {fd:FuncData} (F:Gn K mg "_law_loose" eI ["words","row"] f fd):FnOk P w K mg base CX0 2 f fd ["words","row"] (pA K ad):=by
 obtain ⟨_,_,JA⟩:=T.law_digit;have JC:=aF (P:=P) (w:=w) (base:=base) T JA;refine F.F.ok pM (λvs H Q E h=>?_) (λcdv A outer s H vs Q E hr h=>?_)
 ·obtain ⟨l,r,n,ws,rfl,_⟩:=h
  rfl
 obtain ⟨l,r,n,ws,rfl,hlr,hl,hr0,hw,q⟩:=h;refine ⟨_,(5,(8,(15,op_add_str,(15,ip,pe_str,pcl JA JC (7) rfl (@pa2 _ _ _ _ _ (pv 1) pe_int (1) (1))),pe_bm PySem.F.plainAttrs_str PySem.F.slot_str_join PySem.F.type_str_join cS pe_str (9,pe_comp rfl (csR (sc:=ae eI) (NL:=["word"]) (N:=["words","row"]) (ρ:=[1]) (N':=["word","row"]) rfl rfl rfl (4) (4) (4) rfl (4)) (gi (K:=K) rfl (pv 0)) (λ_ _ _ _=>(aj (i:=0) (show List.Nodup (α:=Str) ["word","row"] by decide +kernel) rfl (Or.inl rfl))) (λ_ _ _ _=>(15,op_add_str,pv 0,(15,ip,pe_str,pcl JA JC (7) rfl (@pa2 _ _ _ _ _ (pv 1) pe_int (1) (1))))))))),?_⟩;have lw:=bh ws;obtain ⟨m0,m1⟩:=mod_lt n (m:=3) (by decide);obtain ⟨b0,hb0⟩:∃ b0:Nat,n % 3=(b0:Int):=⟨(n % 3).toNat,(3)⟩;refine ⟨_,rfl,r,n,3,rfl,hr0,by decide,by decide,_,_,rfl,rfl,(4),(4),(3),(3),λz0 hz0=>?_⟩;rw [hb0] at hz0 m1;obtain rfl:=jV hz0;have B1:But r H (upd H r (.lst [.int (n / 3)])):=But.put;have R1:(upd H r (.lst [.int (n / 3)])) r=some (.lst [.int (n / 3)]):=aa
 revert B1 R1
 generalize upd H r (.lst [.int (n / 3)])=H1
 generalize n / 3=n1
 intro B1 R1;refine ⟨rfl,_,rfl,l,rfl,⟨_,SqL.of (B1 _ _ hlr hl)⟩,λp hp=>?_⟩;have npr:p≠r:=λc=>by rw [c,R1] at hp;cases hp
 have hpH:H p=none:=by
  cases c:H p with
  | none=>rfl
  | some o=>rw [B1 _ _ npr c] at hp;cases hp
 refine lu (K:=K) (xs:=ws.map V.str) (λi zs σ H'=>∃ (bs:List Nat) (k:Int),bs.length=i/\(∀ b∈bs,b<=2)/\zs=((((ws.take i).zip bs).map bw)).map V.str/\But r H H'/\H' r=some (.lst [.int k])/\H' p=some (.lst zs)/\∃ w1,σ=[w1,some (.ref r)]) ⟨[],n1,rfl,(λ_ h=>nomatch h),rfl,bB B1 hpH,by rw [ac (Ne.symm npr)];exact R1,aa,_,rfl⟩ (λi zs σ H' _ ⟨_,_,_,_,_,g,_⟩=>SqL.of (g _ _ hlr hl)) ?_ ?_
 ·rintro i y zs σ H2 N hy ⟨bs,k,lb,hb2,rfl,g2,r2,f2,w1,rfl⟩ next;rw [aAg] at hy;obtain ⟨z,hz,rfl⟩:=aAi.mp hy;have hzm:=qP (aAs hz);have hi:=(aAj.mp hz).1;obtain ⟨k0,k1⟩:=mod_lt k (m:=3) (by decide);obtain ⟨c,hc⟩:∃ c:Nat,k % 3=(c:Int):=⟨(k % 3).toNat,(3)⟩;refine ⟨_,rfl,_,rfl,r,k,3,rfl,r2,by decide,by decide,_,_,rfl,rfl,(4),(4),(3),(3),λz' hz'=>?_⟩;rw [hc] at hz';obtain rfl:=jV hz';have lc:(cG (List.replicate c 32)).length=c:=by rw [<- am,dW,aAW]
  refine ⟨_,_,rfl,rfl,bM (3),?_⟩;refine ⟨by rw [ac npr];exact f2,?_,next _ _ _ ⟨bs++[c],k / 3,by rw [aAc,lb];rfl,λb hb=>?_,?_,bB (g2.trans But.put) hpH,by rw [ac (Ne.symm npr),aa],aa,_,rfl⟩⟩
  ·rw [aAa,aAa,aBo,aAF];exact aBb (show min (min i ws.length) bs.length<=50000 by lia) (by decide)
  ·rcases aAG.mp hb with h | h
   ·exact hb2 b h
   ·rw [aAp.mp h];lia
  ·rw [aAC,hz];show _=((((ws.take i)++[z]).zip (bs++[c])).map bw).map V.str;rw [List.zip_append (by rw [aAF,lb];lia),aAr,aAr]
   rfl
 rintro zs σ H2 ⟨bs,k,lb,hb2,rfl,g2,r2,f2,w1,rfl⟩;rw [aAa] at lb;rw [aAx (by rw [aAa];exact aAo _)] at f2;have bl:=sI ws bs hb2;have sl:=fE ws bs hb2;have ll:((ws.zip bs).map bw).length=ws.length:=by rw [aAa,aBo,lb,aBQ]
 refine ⟨_,p,(ws.zip bs).map bw,rfl,rfl,.inl (SqL.of f2),by rw [ll,show (Str.ofString "").length=0 from rfl];lia,?_⟩;have ej:(Str.join (Str.ofString "") ((ws.zip bs).map bw)).cps.toList=aW ws bs:=(je _).trans (jU _ _);have lj:(Str.join (Str.ofString "") ((ws.zip bs).map bw)).length<=50000:=by
  rw [<- am,ej];lia
 have l0:(cG (List.replicate b0 32)).length=b0:=by rw [<- am,dW,aAW]
 rw [ee];refine ⟨_,_,rfl,rfl,bM (3),?_⟩;refine q _ b0 bs k H2 g2 r2 lb ?_ ?_
 ·rw [aI,ej,dW]
 ·show (cG (List.replicate b0 32)++Str.join (Str.ofString "") ((ws.zip bs).map bw)).length<=_;rw [aAd];lia
def nN (ns:List Str):Str:=Str.ofString "/" ++Str.join (Str.ofString "/") ns
theorem sl_cp:(Str.ofString "/").cps.toList=[47]/\blk "/" = 0/\blk " " = 0/\(Str.ofString " ").cps.toList=[32]:=(4)
theorem qW:∀ (n:Str) (ns:List Str),(∀ z∈n :: ns,NmC z)->(nN (n :: ns)).cps.toList=aX (slW (n :: ns))
 | n,[],h=>by
  unfold nN;rw [aI,show Str.join (Str.ofString "/") [n]=n from join_one _ _];show _=aX ["/",n];rw [a9,eZ (h n aAh).bk,sl_cp.2.1,sl_cp.1]
  rfl
 | n,m :: ns,h=>by
  have ih:=qW m ns λz hz=>h z (aAf _ hz);unfold nN at ih ⊢;rw [aI] at ih;rw [aI,PyProof.Rows.join_cons_cons,aI,aI,aAD,ih];show _=aX ("/" :: n :: slW (m :: ns));rw [a9,a9,(h n aAh).bk,sl_cp.2.1,sl_cp.1];simp
theorem iA {ns:List Str} (h:∀ z∈ns,NmC z):nN ns=ai (pathW ns):=by
 cases ns with
 | nil=>decide +kernel
 | cons n ns =>
  rw [cH];exact bG (qW n ns h)
theorem ug:∀ {ns:List Str},(∀ z∈ns,NmC z)->∀ w∈slW ns,blk w=0
 | n :: ns,h,w,hw=>by
  rcases aAn.mp hw with rfl | hw
  ·exact sl_cp.2.1
  rcases aAn.mp hw with rfl | hw
  ·exact (h _ aAh).bk
  ·exact ug (λz hz=>h z (aAf _ hz)) w hw
theorem xB {ns:List Str} (h:∀ z∈ns,NmC z):∀ w∈pathW ns,blk w=0:=by
 cases ns with
 | nil=>intro w hw;rw [aAp.mp hw];exact sl_cp.2.1
 | cons n ns=>rw [cH];exact ug h
theorem ms:∀ {ws:List Str},(∀ w∈ws,blk w=0)->(ws.flatMap λz=>z.cps.toList)=aX ws
 | [],_=>rfl
 | w :: ws,h=>by
  rw [aBl,ms λz hz=>h z (aAf _ hz),a9,h w aAh];simp
theorem vn {ns ws:List Str} (h:∀ z∈ns,NmC z):nN ns++Str.ofString " " ++ai ws=ai (chW ns ws):=by
 apply bG;rw [iA h];show _=aX _;rw [aI,aI,aS,aS,eZ sl_cp.2.2.1]
 rfl
theorem nO {ns:List Str} (h:∀ z∈ns,NmC z) (h8:ns.length<=8):aC (pathW ns)<=130:=by
 have key:∀ l:List Str,(∀ z∈l,NmC z)->aC (slW l)<=15*l.length:=by
  intro l
  induction l with
  | nil=>intro _;exact aAo _
  | cons z l ih =>
   intro hl;have:=ih λx hx=>hl x (aAf _ hx);have:=(hl z aAh).2.2;show aC ("/" :: z :: slW l)<=_;rw [au,au,aAb,show (Str.ofString "/").length=1 from rfl];lia
 cases ns with
 | nil=>decide +kernel
 | cons n ns =>
  rw [cH];exact aAz (key _ h) (3)
def pC (K:W.Frag) (_:Ads):Sp:=λvs H Q _=>∃ (ns:List Str) (x:V),vs=[x]/\IsP K H (.tup (ns.map Dt.str)) x/\ns.length<=8/\(∀ z∈ns,NmC z)/\Q (.str (ai (pathW ns))) H
theorem mv {ns:List Str} (h:∀ z∈ns,NmC z) (h8:ns.length<=8):(ai (pathW ns)).length<=130:=by
 rw [<- am];exact aAz (fE (pathW ns) ((pathW ns).map blk) λb hb=>by
  obtain ⟨z,_,rfl⟩:=aAm.mp hb;exact pp z) (nO h h8)
theorem jf (T:Tx K mg ad) {f:Addr} {fd:FuncData} (F:Gn K mg "path_text" gF ["path"] f fd):FnOk P w K mg base CX0 1 f fd ["path"] (pC K ad):=by
 refine F.F.ok pH (λvs H Q E h=>?_) (λcdv A outer s H vs Q E hr h=>?_)
 ·obtain ⟨ns,x,rfl,_⟩:=h
  rfl
 obtain ⟨ns,x,rfl,hx,hn,hz,q⟩:=h;refine ⟨_,(5,(8,(15,op_add_str,pe_str,pe_bm PySem.F.plainAttrs_str PySem.F.slot_str_join PySem.F.type_str_join cS pe_str (@pa1 _ _ _ (pv 0) (1))))),?_⟩;obtain ⟨a,xs,rfl,ha,_,ra⟩:=hx.unref;rw [bT ra] at ha;have l1:(Str.ofString "/").length=1:=(4)
 have pl:=mv hz hn;have e:=iA hz;rw [<- e] at pl q;unfold nN at pl q;rw [aAd] at pl;have js:=mj (Str.ofString "/") ns;refine ⟨rfl,_,rfl,_,a,ns,rfl,rfl,.inr ha,by rw [l1];lia,?_⟩;rw [ee];exact ⟨_,_,rfl,rfl,bM (3),q⟩
def mw (K:W.Frag) (_:Ads):Sp:=λvs H Q _=>∃ (ns:List Str) (d:Dt) (x:V) (ws:List Str),vs=[x]/\IsP K H (.tup [.tup (ns.map Dt.str),d]) x/\ns.length<=8/\(∀ z∈ns,NmC z)/\PW d ws/\(ai ws).length<=50000/\∀ H',Same H H'->Q (.str (ai (chW ns ws))) H'
theorem mx (T:Tx K mg ad) {f:Addr} {fd:FuncData} (F:Gn K mg "change_text" eL ["change"] f fd):FnOk P w K mg base CX0 30 f fd ["change"] (mw K ad):=by
 obtain ⟨f1,d1,KZ⟩:=T.piece_text;have Lq:=mQ (P:=P) (w:=w) (base:=base) T KZ;obtain ⟨f2,d2,Kq⟩:=T.path_text;have KN:=jf (P:=P) (w:=w) (base:=base) T Kq;refine F.F.ok mD (λvs H Q E h=>?_) (λcdv A outer s H vs Q E hr h=>?_)
 ·obtain ⟨ns,d,x,ws,rfl,_⟩:=h
  rfl
 obtain ⟨ns,d,x,ws,rfl,hx,h8,hz,pw,hw,q⟩:=h;refine ⟨_,(5,(8,(15,op_add_str,(15,op_add_str,(10,Kq,KN,(9,@pi1 K _ _ _ _ _ _ _ rfl (pv 0))),pe_str),(10,KZ,Lq,(9,@pi1 K _ _ _ _ _ _ _ rfl (pv 0)))))),?_⟩;have pl:=mv hz h8;refine ⟨_,rfl,_,_,_,hx,rfl,at0 _ _,λv1 hv1=>?_⟩;refine ⟨ns,v1,rfl,hv1,h8,hz,?_⟩;refine ⟨_,_,rfl,rfl,bM (by rw [show (Str.ofString " ").length=1 from rfl];lia),?_⟩;refine ⟨_,rfl,_,_,_,hx,rfl,rfl,λv2 hv2=>?_⟩;refine ⟨d,v2,ws,rfl,hv2,pw,(3),λH' g=>?_⟩;refine ⟨_,_,rfl,rfl,bM (by rw [aAd,show (Str.ofString " ").length=1 from rfl];lia),?_⟩;have e:=vn (ws:=ws) hz;rw [iA hz] at e;show Q (.str (ai (pathW ns)++Str.ofString " " ++ai ws)) H';rw [e];exact q H' g
theorem yy {α:Type} (l:List α) (a:α):ixN (l++[a]).length (-1)=some l.length:=by
 unfold ixN;rw [aAc,aA2,if_neg (by decide),if_pos (3),show ((-1:Int)+((l.length+1:Nat):Int)).toNat=l.length by lia]
theorem xC {α:Type} (l:List α) (a b:α):(l++[a]).set l.length b=l++[b]:=by simp
def Co (K:W.Frag) (n:Nat):Sp:=λvs H Q _=>∃ (d:Dt) (x:V) (ws:List Str),vs=[x]/\IsP K H d x/\TW n d ws/\aC ws<=50000/\∀ l H',H l=none->Same H H'->H' l=some (.lst (ws.map V.str))->Q (.ref l) H'
theorem jg (T:Tx K mg ad) (n:Nat) {f:Addr} {fd:FuncData} (J8:Gn K mg "_law_turn_words" bZ ["turn"] f fd) (Kt:FnOk P w K mg base CX0 (n+2) f fd ["turn"] (Co K n)):FnOk P w K mg base CX0 (n+3) f fd ["turn"] (Co K (n+1)):=by
 refine J8.F.ok aA (λvs H Q E h=>?_) (λcdv A outer s H vs Q E hr h=>?_)
 ·obtain ⟨d,x,ws,rfl,_⟩:=h
  rfl
 obtain ⟨d,x,ws,rfl,hx,tw,hz,q⟩:=h;refine ⟨_,(@pss_cons _ _ _ _ _ (20,aA.nd,@pe_lst _ _ _ _ (12,@pi1 K _ _ _ _ _ _ _ rfl (pv 0),pe_str)) (@pss_cons _ _ _ _ _ (11,pt_cmpR op_eq (@pi1 K _ _ _ _ _ _ _ rfl (pv 0)) pe_str (nomark _),(5,(8,(19,(19,pv 1,(10,J8,Kt,(9,@pi1 K _ _ _ _ _ _ _ rfl (pv 0)))),@pe_lst _ _ _ _ (@pa1 _ _ _ pe_str (1)))))) (@pss_cons _ _ _ _ _ (@ps_if _ _ _ _ _ _ _ _ (pt_cmpR op_eq (@pi1 K _ _ _ _ _ _ _ rfl (pv 0)) pe_str (nomark _)) (@pss_cons _ _ _ _ _ (ps_for PassesOwn.never rfl (pi_tupN (K:=K) rfl (@pi1 K _ _ _ _ _ _ _ rfl (pv 0))) (aj (i:=2) aA.nd rfl (Or.inl rfl))
    (5,(20,aA.nd,(19,pv 1,@pe_lst _ _ _ _ (12,pv 2,pe_str))))) (@pss_cons _ _ _ _ _ (nU pe_str (rf (pv 1) (@pe_un _ _ _ _ _ _ un_neg pe_int) k8)) (@pss_one _ _ _ (ps_for PassesOwn.never rfl (pi_tupN (K:=K) rfl (@pi1 K _ _ _ _ _ _ _ rfl (pv 0))) (jx rfl (aJ (aj (i:=3) aA.nd rfl (Or.inl rfl)) (aJ (aj (i:=4) aA.nd rfl (Or.inl rfl)) dD)))
    (5,(20,aA.nd,(19,pv 1,@pe_lst _ _ _ _ (@av _ _ _ _ _ (pv 3) (@pa3 _ _ _ _ _ _ _ pe_str (pv 4) pe_str (1) (1) (1)) (1))))))))) (@pss_one _ _ _ (ps_for PassesOwn.never rfl (pi_tupN (K:=K) rfl (pe_slice (eW (K:=K) rfl) (pv 0) (po_some pe_int) cp)) (aj (i:=5) aA.nd rfl (Or.inl rfl))
    (5,(20,aA.nd,(19,pv 1,@pe_lst _ _ _ _ (12,pe_callTy call_str_int rfl T.z_str boot_str (9,pv 5),pe_str))))))) (6,(11,pt_cmpR op_eq (@pe_ix _ _ _ _ _ _ _ (aG (K:=K) rfl) (pv 1) (@pe_un _ _ _ _ _ _ un_neg pe_int) (λ_ _=>rfl)) pe_str (nomark _),(5,(20,aA.nd,pe_slice (iV (K:=K) rfl) (pv 1) cp (po_some (@pe_un _ _ _ _ _ _ un_neg pe_int))))),(5,(8,(19,pv 1,@pe_lst _ _ _ _ (@pa1 _ _ _ pe_str (1))))))))),?_⟩
 obtain ⟨wd,ds,hd,alt⟩:∃ wd ds,d=.tup (.str wd :: ds)/\((wd= "items" /\∃ t tw,ds=[t]/\ws=brW "items" tw/\TW n t tw)\/(wd= "words" /\∃ (fo:List Str) (bk:List (Str×Str)),ds=[.tup (fo.map Dt.str),.tup (bk.map wyD)]/\ws=brW "words" ((sepW (fo.map λz=>[z])++[(";" : Str)])++sepW (bk.map wyW))/\fo≠[]) \/
   ((¬ wd= "items" /\¬ wd= "words")/\∃ js:List Int,ds=js.map Dt.int/\ws=brW wd (sepW (js.map λi=>[aK i]))/\∀ i∈js,i.natAbs < 10 ^ 60)):=by
  cases tw with
  | nums _ w js hw n1 hf hj=>exact ⟨_,_,rfl,.inr (.inr ⟨⟨λc=>by
    rw [c,show aP "turn" "items" = some [("turn" : Str)] by decide +kernel] at hf
    cases js with
    | nil=>cases hf
    | cons a r=>exact absurd (List.cons.inj (Option.some.inj hf)).1 (show ¬ (Str.ofString "turn" = Str.ofString "number") by decide +kernel),n1⟩,js,rfl,rfl,hj⟩)⟩
  | items ht=>exact ⟨_,_,rfl,.inl ⟨rfl,_,_,rfl,rfl,ht⟩⟩
  | words _ fo bk h0 _ _ _ _ _=>exact ⟨_,_,rfl,.inr (.inl ⟨rfl,fo,bk,rfl,rfl,h0⟩)⟩
 have wl:=aAz (bh ws) hz;have hx':IsP K H (.tup (.str wd :: ds)) x:=hd ▸ hx;refine ⟨_,rfl,_,_,_,hx',rfl,at0 _ _,isS ?_⟩;refine ⟨sz2,λl hl=>?_⟩;dsimp only [cR];have g1:Same H (upd H l (.lst [V.str wd,V.str "("])):=ag hl _;have h1:(upd H l (.lst [V.str wd,V.str "("])) l=some (.lst ([wd,"("].map V.str)):=aa
 revert g1 h1
 generalize upd H l (.lst [V.str wd,V.str "("])=H1
 intro g1 h1;refine ⟨_,rfl,_,_,_,hx'.same g1,rfl,at0 _ _,isS ?_⟩;refine ⟨rfl,_,rfl,?_⟩;rcases alt with ⟨rfl,t,tz,rfl,rfl,ht⟩ | alt
 ·rw [di] at wl;rw [bW] at hz;refine bS ⟨_,rfl,_,rfl,_,_,_,hx'.same g1,rfl,rfl,λv2 hv2=>?_⟩;refine ⟨t,v2,tz,rfl,hv2,ht,(3),λb1 H4 hb1 g4 h4=>bX (g4 _ _ h1) h4 (by simp only [aAb,aAl];lia) λp2 H5 hp2 g5 h5=>?_⟩;refine ⟨sz1,a7 [(")" : Str)] h5 (by simp only [aAc,aAb,aAl];lia) λp3 H6 hp3 g6 h6=>?_⟩;exact q p3 H6 (none_of (g1.trans (g4.trans g5)) hp3) (g1.trans (g4.trans (g5.trans g6))) h6
 have ni:¬ wd= "items" :=by
  rcases alt with ⟨rfl,_⟩ | ⟨⟨h,_⟩,_⟩
  ·decide +kernel
  ·exact h
 refine bt (aM ni) ?_;dsimp only [yJ];refine gB λk hk=>?_;have fin:∀ (pre:List Str) (c:Str) (wss:List (List Str)) (l':Addr) (H':Hp) (v2 v3 v4 v5:Option V),c≠ "," ->ws=((pre++[c])++sepW wss)++[(")" : Str)]->Same H H'->H l'=none->H' l'=some (.lst (((pre++[c])++aD wss).map V.str))->k [some x,some (.ref l'),v2,v3,v4,v5] H':=λpre c wss l' H' v2 v3 v4 v5 hc hw g hn hl'=>hk _ _ (by
  have wl':(pre++[c]++sepW wss).length+1<=50000:=by
   have:ws.length=(pre++[c]++sepW wss).length+1:=by rw [hw,aAc];rfl
   lia
  have ret:∀ (l1:Addr) (H1:Hp),Same H H1->H1 l1=some (.lst (((pre++[c])++sepW wss).map V.str))->Bz (tOp (sY K) (iH 1) (uA (bO (tC (V.str (Str.ofString ")"))) iL))) { nx:=λx H'=>Q V.non H',rt:=Q } [some x,some (V.ref l1),v2,v3,v4,v5] H1:=λl1 H1 g1 h1 =>
   ⟨_,rfl,sz1,a7 [(")" : Str)] h1 (by simp only [aAb,aAl] at *;lia) λp H2 hp g2 h2=>q p H2 (none_of g1 hp) (g1.trans g2) (hw ▸ h2)⟩
  cases wss with
  | nil =>
   have hl2:H' l'=some (.lst (pre.map V.str++[V.str c])):=by rw [hl'];simp [aD]
   exact ⟨_,rfl,_,rfl,l',_,_,_,rfl,rfl,SqL.of hl2,pk _ _,rfl,_,rfl,bt (aM hc) (ret l' H' g (by rw [hl'];rfl))⟩
  | cons y r =>
   rw [cI,<- aAD,aAr] at hl';refine ⟨_,rfl,_,rfl,l',_,_,_,rfl,rfl,SqL.of hl',pk _ _,rfl,_,rfl,bS ⟨_,rfl,_,rfl,_,rfl,l',_,rfl,SqL.of hl',λp hp=>?_⟩⟩;refine ret p _ (g.trans (ag hp _)) ?_;rw [aa];exact congrArg (λz=>some (HO.lst z)) (mr _ _))
 refine ⟨_,rfl,_,_,_,hx'.same g1,rfl,at0 _ _,isS ?_⟩;refine ⟨rfl,_,rfl,?_⟩;rcases alt with ⟨rfl,fo,bk,rfl,rfl,h0⟩ | ⟨⟨_,n2⟩,js,rfl,rfl,hjs⟩
 ·rw [di,aAc,aAc] at wl;refine bS (gB λk2 hk2=>?_);refine ⟨_,rfl,_,_,_,hx'.same g1,rfl,rfl,λv2 hv2=>?_⟩;obtain ⟨b,xs,rfl,hb,_,rb⟩:=hv2.unref;obtain rfl:=bT rb;have cl:=dJ (fo.map λz=>[z]);refine ⟨b,rfl,⟨_,hb⟩,cQ (K:=K) (xs:=fo.map V.str) (λi σ H'=>∃ l' v3,Same H1 H'/\H l'=none/\H' l'=some (.lst (([("words" : Str),"("]++aD ((fo.map λz=>[z]).take i)).map V.str))/\σ=[some x,some (.ref l'),v3,none,none,none]) ⟨l,_,Same.refl _,hl,h1,rfl⟩ (λi σ H' _ p=>by obtain ⟨_,_,g,_⟩:=p;exact g.tup hb) ?_ ?_⟩
  ·rintro i y σ H2 hy ⟨l',v3,g2,hn,hl',rfl⟩;rw [aAg] at hy;obtain ⟨z,hz',rfl⟩:=aAi.mp hy;have ci:=cl i;have tk:(fo.map λz=>[z]).take (i+1)=(fo.map λz=>[z]).take i++[[z]]:=by rw [aAC,aAg,hz'];rfl
   refine ⟨_,rfl,_,rfl,sz2,a7 [z,","] hl' (by simp only [aAc,aAb,aAl];lia) λp1 H3 hp1 g3 h3=>?_⟩;refine ⟨p1,_,g2.trans g3,none_of (g1.trans g2) hp1,?_,rfl⟩;rw [h3,tk,bH];simp
  rintro σ H2 ⟨l',v3,g2,hn,hl',rfl⟩;rw [aAx (by rw [aAa,aAa];exact aAo _)] at hl';refine hk2 _ _ ?_;obtain ⟨f0,fr,rfl⟩:∃ f0 fr,fo=f0 :: fr:=by
   cases fo with
   | nil=>exact absurd rfl h0
   | cons a r=>exact ⟨a,r,rfl⟩
  rw [aAq,cI,<- aAD,aAr] at hl';rw [aAq] at wl;have hl2:H2 l'=some (.lst (([("words" : Str),"("]++sepW ([f0] :: fr.map λz=>[z])).map V.str++[V.str ","])):=hl';refine ⟨_,rfl,_,rfl,l',_,_,_,rfl,rfl,hl2,yy _ _,?_⟩;rw [xC];have S2:=bR hn (g1.trans g2) (o:=.lst (([("words" : Str),"("]++sepW ([f0] :: fr.map λz=>[z])).map V.str++[V.str ";"]));have h2:(upd H2 l' (.lst (([("words" : Str),"("]++sepW ([f0] :: fr.map λz=>[z])).map V.str++[V.str ";"]))) l'=some (.lst ((([("words" : Str),"("]++sepW ([f0] :: fr.map λz=>[z]))++[(";" : Str)]).map V.str)):=by rw [aa];simp
  revert S2 h2
  generalize upd H2 l' (.lst (([("words" : Str),"("]++sepW ([f0] :: fr.map λz=>[z])).map V.str++[V.str ";"]))=H3
  intro S2 h2;refine ⟨_,rfl,_,_,_,hx'.same S2,rfl,rfl,λv2 hv2=>?_⟩;obtain ⟨b',xs,rfl,hb',_,rb'⟩:=hv2.unref;have cl:=dJ (bk.map wyW);refine ⟨b',rfl,⟨_,hb'⟩,cQ (K:=K) (xs:=xs) (λi σ H'=>∃ l' v3 v4 v5,Same H3 H'/\H l'=none/\H' l'=some (.lst ((([("words" : Str),"("]++sepW ([f0] :: fr.map λz=>[z]))++[(";" : Str)]++aD ((bk.map wyW).take i)).map V.str))/\σ=[some x,some (.ref l'),v3,v4,v5,none]) ⟨l',_,_,_,Same.refl _,hn,by rw [h2];simp [aD],rfl⟩ (λi σ H' _ p=>by obtain ⟨_,_,_,_,g,_⟩:=p;exact g.tup hb') ?_ ?_⟩
  ·rintro i y σ H4 hy ⟨l',v3,v4,v5,g4,hn,hl',rfl⟩;obtain ⟨d0,hd0,hdy⟩:=rb'.get' hy;rw [aAg] at hd0;obtain ⟨g,hg,rfl⟩:=aAi.mp hd0;obtain ⟨c,c1,c2,rfl,hc,hc1,hc2⟩:=dS (show IsP K H3 (.tup [.str g.1,.str g.2]) y from hdy);obtain rfl:=bC hc1;obtain rfl:=bC hc2;have ci:=cl i;have tk:(bk.map wyW).take (i+1)=(bk.map wyW).take i++[wyW g]:=by rw [aAC,aAg,hg];rfl
   refine ⟨c,_,rfl,g4.tup hc,rfl,_,_,rfl,_,_,rfl,rfl,?_⟩;refine ⟨_,rfl,_,rfl,_,rfl,(by show 4<=sizeLine;decide),a7 [g.1,":",g.2,","] hl' (by simp only [aAc,aAb,aAl] at *;lia) λp1 H5 hp1 g5 h5=>?_⟩;refine ⟨p1,_,_,_,g4.trans g5,none_of (S2.trans g4) hp1,?_,rfl⟩;rw [h5,tk,bH];simp
  rintro σ H4 ⟨l',v3,v4,v5,g4,hn,hl',rfl⟩;have lx:=rb'.length;rw [aAa] at lx;rw [aAx (by rw [aAa];lia)] at hl';exact fin _ _ _ l' H4 _ _ _ _ (4) (by simp [brW]) (S2.trans g4) hn hl'
 ·refine bt (aM n2) ?_;rw [di] at wl;have cl:=dJ (js.map λi=>[aK i]);refine ⟨_,rfl,_,rfl,_,hx'.same g1,λv2 H2 g2 hv2=>?_⟩;rw [w9] at hv2;obtain ⟨b,xs,rfl,hb,_,rb⟩:=hv2.unref;refine ⟨b,rfl,⟨_,hb⟩,cQ (K:=K) (xs:=xs) (λi σ H'=>∃ l' v5,Same H2 H'/\H l'=none/\H' l'=some (.lst ((([wd]++[("(" : Str)])++aD ((js.map λi=>[aK i]).take i)).map V.str))/\σ=[some x,some (.ref l'),none,none,none,v5]) ⟨l,_,Same.refl _,hl,g2 _ _ h1,rfl⟩ (λi σ H' _ p=>by obtain ⟨_,_,g,_⟩:=p;exact g.tup hb) ?_ ?_⟩
  ·rintro i y σ H3 hy ⟨l',v5,g3,hn,hl',rfl⟩;obtain ⟨d0,hd0,hdy⟩:=rb.get' hy;rw [aAg] at hd0;obtain ⟨j,hj,rfl⟩:=aAi.mp hd0;obtain rfl:=lI hdy;have ci:=cl i;have tk:(js.map λi=>[aK i]).take (i+1)=(js.map λi=>[aK i]).take i++[[aK j]]:=by rw [aAC,aAg,hj];rfl
   refine ⟨_,rfl,_,rfl,j,rfl,mm (aAk (hjs j (aAs hj)) (4)),sz2,a7 [aK j,","] hl' (by simp only [aAc,aAb,aAl];lia) λp1 H4 hp1 g4 h4=>?_⟩;refine ⟨p1,_,g3.trans g4,none_of ((g1.trans g2).trans g3) hp1,?_,rfl⟩;rw [h4,tk,bH];simp
  ·rintro σ H3 ⟨l',v5,g3,hn,hl',rfl⟩;have lx:=rb.length;rw [aAa] at lx;rw [aAx (by rw [aAa];lia)] at hl';exact fin _ _ _ l' H3 _ _ _ _ (4) (by simp [brW]) ((g1.trans g2).trans g3) hn hl'
theorem uh (T:Tx K mg ad) {f:Addr} {fd:FuncData} (D:Gn K mg "_law_turn_words" bZ ["turn"] f fd):∀ n,FnOk P w K mg base CX0 (n+2) f fd ["turn"] (Co K n)
 | 0=>fn_none λ_ _ _ _ h=>by obtain ⟨_,_,_,_,_,kw,_⟩:=h;cases kw
 | n+1=>jg T n D (uh T D n)
theorem bc {A B:Prop} {p:Prop} [Decidable p] (h1:p->A) (h2:¬ p->B):if decide p=true then A else B:=by
 by_cases c:p
 ·rw [if_pos (decide_eq_true c)];exact h1 c
 ·rw [if_neg (λe=>c (of_decide_eq_true e))];exact h2 c
def pcS (w:Str) (k:Int):Str:=if w= "put" /\k=2 then "kind" else if (w= "put" \/w= "drop")/\1 < k then "value" else if w= "turn" /\k=2 then "turn" else if (w= "split" /\k=2)\/(w= "join" /\k=3) then "text" else ""
theorem my {k:Str} {fs:List Str}:∀ {F:List (Str×List Str)},dz k F=some fs->(k,fs)∈F
 | [],h=>nomatch h
 | (x,b) :: F,h=>by
  unfold dz at h
  by_cases e:k=x
  ·rw [if_pos e] at h;cases h;rw [e];exact aAh
  ·rw [if_neg e] at h;exact aAf _ (my h)
theorem Cp:∀ p∈pieceF,∀ i∈List.range 6,∀ s∈p.2[i]?,if pcS p.1 ((i:Nat)+1:Int)= "" then s= "word" \/s= "number" else s=pcS p.1 ((i:Nat)+1:Int):=(4)
theorem sJ:∀ p∈pieceF,p.2.length<=6/\p.2≠[]:=(4)
theorem yz {wd s:Str} {fs:List Str} {i:Nat} (h:aP "piece" wd=some fs) (hs:fs[i]?=some s):if pcS wd ((i:Nat)+1:Int)= "" then s= "word" \/s= "number" else s=pcS wd ((i:Nat)+1:Int):=by
 have hm:(wd,fs)∈pieceF:=my h;have hl:=(sJ _ hm).1;have il:=(aAj.mp hs).1;exact Cp _ hm i (aBB.mpr (aAk il hl)) s hs
theorem pD {α:Type} [BEq α] [LawfulBEq α] [DecidableEq α] (a b:α):(a == b)=decide (b=a):=by
 by_cases h:b=a
 ·subst h;simp
 ·rw [decide_eq_false h,beq_eq_false_iff_ne];exact Ne.symm h
theorem za {K:W.Frag} {H:Hp} {x y l':V} {wd:Str} {ds:List Dt} {j:Int} {Q:Bool->Hp->Prop} (c:Str) (m:Int) (hx:IsP K H (.tup (.str wd :: ds)) x) (q1:wd=c/\j=m->Q true H) (q2:¬ (wd=c/\j=m)->Q false H) :
  Bx (mX (tOp rEq (tOp (wj K) (iH 0) (tC (V.int 0))) (tC (V.str c)))) (mX (tOp rEq (iH 2) (tC (V.int m)))) [some x,some l',some (.int j),some y] H Q:=by
 refine ⟨_,rfl,_,_,_,hx,rfl,at0 _ _,isS ?_⟩;refine ⟨rfl,_,rfl,bc (λe=>⟨_,rfl,rfl,_,rfl,?_⟩) λe=>q2 λc=>e (congrArg V.str c.1)⟩
 by_cases ej:j=m
 ·rw [show (decide (V.int j=V.int m))=true from decide_eq_true (congrArg V.int ej)];exact q1 ⟨V.str.inj e,ej⟩
 ·rw [show (decide (V.int j=V.int m))=false from decide_eq_false λc=>ej (V.int.inj c)];exact q2 λc=>ej c.2
theorem IS {K:W.Frag} {H:Hp} {x y l':V} {wd:Str} {ds:List Dt} {j:Int} {Q:Bool->Hp->Prop} (hx:IsP K H (.tup (.str wd :: ds)) x) (q1:(wd= "put" \/wd= "drop")/\1 < j->∀ H',Same H H'->Q true H') (q2:¬ ((wd= "put" \/wd= "drop")/\1 < j)->∀ H',Same H H'->Q false H') :
  Bx (mX (tOp (rIn K false) (tOp (wj K) (iH 0) (tC (V.int 0))) (uA (bO (tC (V.str (Str.ofString "put"))) (bO (tC (V.str (Str.ofString "drop"))) iL))))) (mX (tOp (rI0 λi j=>V.bl (decide (j < i))) (iH 2) (tC (V.int 1)))) [some x,some l',some (.int j),some y] H Q:=by
 refine ⟨_,rfl,_,_,_,hx,rfl,at0 _ _,isS ?_⟩;refine ⟨sz2,λp hp=>⟨p,_,rfl,.inl (SqL.of aa),rfl,rfl,_,rfl,?_⟩⟩;have g:=ag hp (.lst [V.str "put",V.str "drop"]);have e0:inV (V.str wd) [V.str "put",V.str "drop"]=decide (wd= "put" \/wd= "drop"):=by
  by_cases a:wd= "put"
  ·subst a;decide +kernel
  ·by_cases b:wd= "drop"
   ·subst b;decide +kernel
   ·rw [decide_eq_false (by rintro (h | h);exact a h;exact b h)];show (Str.ofString "put" == wd || (Str.ofString "drop" == wd || false))=false;rw [beq_eq_false_iff_ne.mpr (Ne.symm a),beq_eq_false_iff_ne.mpr (Ne.symm b)]
    rfl
 show if inV (V.str wd) [V.str "put",V.str "drop"]=true then _ else _
 rw [e0];refine bc (λe=>⟨_,rfl,_,_,rfl,rfl,_,rfl,?_⟩) λe=>q2 (λc=>e c.1) _ g
 by_cases ej:1 < j
 ·rw [decide_eq_true ej];exact q1 ⟨e,ej⟩ _ g
 ·rw [decide_eq_false ej];exact q2 (λc=>ej c.2) _ g
theorem Cq {K:W.Frag} {H:Hp} {x y l':V} {wd:Str} {ds:List Dt} {j:Int} {Q:Bool->Hp->Prop} (hx:IsP K H (.tup (.str wd :: ds)) x) (q1:(wd= "split" /\j=2)\/(wd= "join" /\j=3)->∀ H',Same H H'->Q true H') (q2:¬ ((wd= "split" /\j=2)\/(wd= "join" /\j=3))->∀ H',Same H H'->Q false H') :
  mX (tOp (Iz K) (v0 K (bO (tOp (wj K) (iH 0) (tC (V.int 0))) (bO (iH 2) iL))) (uA (bO (BH (bO (tC (V.str (Str.ofString "split"))) (bO (tC (V.int 2)) iL))) (bO (BH (bO (tC (V.str (Str.ofString "join"))) (bO (tC (V.int 3)) iL))) iL)))) [some x,some l',some (.int j),some y] H Q:=by
 refine ⟨_,rfl,_,_,_,hx,rfl,at0 _ _,isS ?_⟩;refine ⟨_,rfl,[.str wd,.int j],.cons .str (.cons .int .nil),sz2,λv H1 g1 hv=>?_⟩;refine ⟨sz2,λp1 h1=>⟨sz2,λp2 h2=>⟨sz2,λp3 h3=>?_⟩⟩⟩;have n12:p1≠p2:=ah aa h2;have k1:(upd (upd H1 p1 (.tup [V.str "split",V.int 2])) p2 (.tup [V.str "join",V.int 3])) p1=some (.tup [V.str "split",V.int 2]):=by rw [ac n12,aa]
 have G:=((ag h1 (.tup [V.str "split",V.int 2])).trans (ag h2 (.tup [V.str "join",V.int 3]))).trans (ag h3 (.lst [V.ref p1,V.ref p2]));have e1:=ag h3 (.lst [V.ref p1,V.ref p2]) _ _ k1;have e2:=ag h3 (.lst [V.ref p1,V.ref p2]) _ _ (aa (H:=upd H1 p1 (.tup [V.str "split",V.int 2])) (a:=p2) (o:=.tup [V.str "join",V.int 3]));refine ⟨p3,[p1,p2],[.tup [.str "split",.int 2],.tup [.str "join",.int 3]],.tup [.str wd,.int j],rfl,SqL.of aa,by simp [n12],.cons (.tup (SqT.of e1) (.cons .str (.cons .int .nil))) (.cons (.tup (SqT.of e2) (.cons .str (.cons .int .nil))) .nil),(hv.same G).d,by decide,_,rfl,?_⟩;have e0:([Dt.tup [.str "split",.int 2],Dt.tup [.str "join",.int 3]].any λe=>eqD e (.tup [.str wd,.int j]))=decide ((wd= "split" /\j=2)\/(wd= "join" /\j=3)):=by
  simp [eqD,iR,Bool.decide_or,Bool.decide_and,pD]
 rw [e0]
 by_cases e:(wd= "split" /\j=2)\/(wd= "join" /\j=3)
 ·rw [decide_eq_true e];exact q1 e _ (g1.trans G)
 ·rw [decide_eq_false e];exact q2 e _ (g1.trans G)
theorem kT {H:Hp} {l:Addr} {ws:List Str} {z:Str} {Q:VK} (hl:H l=some (.lst (ws.map V.str))) (hn:ws.length<=200000) (q:∀ H',(∀ G:Hp,G l=none->Same G H->Same G H')->H' l=some (.lst ((ws++[z]).map V.str))->Q .non H'):sS (.ref l) [.str z] H Q :=
 ⟨l,_,_,rfl,rfl,hl,by rw [aAa];exact aBb hn (by decide),q _ (λG hg g=>bR hg g) (by rw [aa,aAr];rfl)⟩
def iB (K:W.Frag) (_:Ads):Sp:=λvs H Q _=>∃ (d:Dt) (x:V) (ws:List Str),vs=[x]/\IsP K H d x/\PW d ws/\aC ws<=50000/\∀ l H',H l=none->Same H H'->H' l=some (.lst (ws.map V.str))->Q (.ref l) H'
theorem iC (T:Tx K mg ad) {f:Addr} {fd:FuncData} (F:Gn K mg "_law_piece_words" cD ["piece"] f fd):FnOk P w K mg base CX0 8 f fd ["piece"] (iB K ad):=by
 obtain ⟨f1,d1,JT⟩:=T.law_kind_words;have J6:=ue (P:=P) (w:=w) (base:=base) T JT 5;obtain ⟨f2,d2,JX⟩:=T.law_value_words;have Kf:=uf (P:=P) (w:=w) (base:=base) T JX 4;obtain ⟨f3,d3,J8⟩:=T.law_turn_words;have Kt:=uh (P:=P) (w:=w) (base:=base) T J8 5;refine F.F.ok aQ (λvs H Q E h=>?_) (λcdv A outer s H vs Q E hr h=>?_)
 ·obtain ⟨d,x,ws,rfl,_⟩:=h
  rfl
 obtain ⟨d,x,ws,rfl,hx,pw,hz,q⟩:=h;refine ⟨_,(@pss_cons _ _ _ _ _ (20,aQ.nd,@pe_lst _ _ _ _ (12,@pi1 K _ _ _ _ _ _ _ rfl (pv 0),pe_str)) (@pss_cons _ _ _ _ _ (ps_for PassesOwn.never rfl (uw rfl T.z_range (12,pe_int,pe_callB (ik (K:=K) rfl) rfl T.z_len PySem.boot_len (@pa1 _ _ _ (pv 0) (1)))) (aj (i:=2) aQ.nd rfl (Or.inl rfl))
    (6,(21,3,aQ.nd,@pe_ix _ _ _ _ _ _ _ (iT (K:=K) rfl) (pv 0) (pv 2) (λ_ _=>rfl)),(6,@ps_if _ _ _ _ _ _ _ _ (PW.pt (@pw_and _ _ _ _ _ _ _ (pt_cmpR op_eq (@pi1 K _ _ _ _ _ _ _ rfl (pv 0)) pe_str (nomark _)) (@pw_and1 _ _ _ _ (pt_cmpR op_eq (pv 2) pe_int (nomark _))))) (5,(20,aQ.nd,(19,pv 1,(10,JT,J6,(9,pv 3))))) (5,@ps_if _ _ _ _ _ _ _ _ (PW.pt (@pw_and _ _ _ _ _ _ _ (pt_cmpR (fv (K:=K) rfl) (@pi1 K _ _ _ _ _ _ _ rfl (pv 0)) (@pe_lst _ _ _ _ (12,pe_str,pe_str)) rfl) (@pw_and1 _ _ _ _ (pt_cmpR mW (pv 2) pe_int (nomark _))))) (5,(20,aQ.nd,(19,pv 1,(10,JX,Kf,(9,pv 3))))) (5,@ps_if _ _ _ _ _ _ _ _ (PW.pt (@pw_and _ _ _ _ _ _ _ (pt_cmpR op_eq (@pi1 K _ _ _ _ _ _ _ rfl (pv 0)) pe_str (nomark _)) (@pw_and1 _ _ _ _ (pt_cmpR op_eq (pv 2) pe_int (nomark _))))) (5,(20,aQ.nd,(19,pv 1,(10,J8,Kt,(9,pv 3))))) (5,@ps_if _ _ _ _ _ _ _ _ (pt_cmpR (Cd (K:=K) rfl hr.units) (@pe_tupPK _ K _ _ _ _ rfl (12,@pi1 K _ _ _ _ _ _ _ rfl (pv 0),pv 2)) (@pe_lst _ _ _ _ (12,vE (@pa2 _ _ _ _ _ pe_str pe_int (1) (1)),vE (@pa2 _ _ _ _ _ pe_str pe_int (1) (1)))) rfl) (5,@ps_expr _ _ _ _ (pe_bm PySem.F.plainAttrs_list PySem.F.slot_list_append PySem.F.type_list_append bL (pv 1) (9,(15,op_add_str,(15,op_add_str,pe_str,pv 3),pe_str))) (1)) (5,@ps_expr _ _ _ _ (pe_bm PySem.F.plainAttrs_list PySem.F.slot_list_append PySem.F.type_list_append bL (pv 1) (9,pe_callTy rZ rfl T.z_str boot_str (9,pv 3))) (1))))),(5,@ps_expr _ _ _ _ (pe_bm PySem.F.plainAttrs_list PySem.F.slot_list_append PySem.F.type_list_append bL (pv 1) (@pa1 _ _ _ pe_str (1))) (1))))) (5,(8,(19,pe_slice (iV (K:=K) rfl) (pv 1) cp (po_some (@pe_un _ _ _ _ _ _ un_neg pe_int)),@pe_lst _ _ _ _ (@pa1 _ _ _ pe_str (1))))))),?_⟩
 obtain ⟨wd,fs,its,nm,hf,lf,hp,rfl,rfl⟩:=pw;have hm:(wd,fs)∈pieceF:=my hf;obtain ⟨l6,l0⟩:=sJ _ hm;dsimp only at l6 l0;have wl:=aAz (bh _) hz;rw [di] at wl;refine ⟨_,rfl,_,_,_,hx,rfl,at0 _ _,isS ?_⟩;refine ⟨sz2,λl hl=>?_⟩;dsimp only [cR];have g1:Same H (upd H l (.lst [V.str wd,V.str "("])):=ag hl _;have h1:(upd H l (.lst [V.str wd,V.str "("])) l=some (.lst (([wd,"("]++aD ((its.map (·.2)).take 0)).map V.str)):=aa
 revert g1 h1
 generalize upd H l (.lst [V.str wd,V.str "("])=H1
 intro g1 h1;have en:((((Dt.str wd :: its.map (·.1)).length:Nat):Int) - 1).toNat=its.length:=by
  rw [aAb,aAa];lia
 have cl:=dJ (its.map (·.2));have win:∀ {y:List Str},y∈its.map (·.2)->aC y<=50000:=λhy=>by
  have:=kS hy;rw [bW] at hz;lia
 refine ⟨_,rfl,x,_,rfl,(hx.same g1).d,1,_,rfl,⟨by decide,by decide,by rw [aAb,aAa];lia,by rw [aAb,aAa];lia⟩,gT (lo:=1) (λi σ H'=>∃ l' v2 v3,Same H H'/\H l'=none/\H' l'=some (.lst (([wd,"("]++aD ((its.map (·.2)).take i)).map V.str))/\σ=[some x,some (.ref l'),v2,v3]) ⟨l,_,_,g1,hl,h1,rfl⟩ ?_ ?_⟩
 ·rintro i σ H2 hi ⟨l',v2,v3,g2,hn,hl',rfl⟩;rw [en] at hi;obtain ⟨⟨d0,w0⟩,hit⟩:∃ it,its[i]?=some it:=⟨_,aAv hi⟩;obtain ⟨so,hso⟩:∃ so,fs[i]?=some so:=⟨_,aAv (3)⟩;have pt:PartW 5 so d0 w0:=hp (so,(d0,w0)) (aAs ((aAT (z:=(so,(d0,w0)))).mpr ⟨hso,hit⟩));have ps:=yz hf hso;have ej:(1:Int)+(i:Int)=((i:Nat)+1:Int):=(3)
  have wi:=win (aBA (f:=(·.2)) (aAs hit));dsimp only at wi;have li:=bh w0;have ci:=cl i;have tk:(its.map (·.2)).take (i+1)=(its.map (·.2)).take i++[w0]:=by rw [aAC,aAg,hit];rfl
  unfold cR;rw [ej];refine ⟨_,rfl,_,rfl,_,_,_,hx.same g2,rfl,fq (j:=i+1) (v:=d0) (by rw [List.getElem?_cons_succ,aAg,hit];rfl),λy hy=>?_⟩;dsimp only [cR];refine gB λk hk=>?_;have lb:([wd,("(" : Str)]++aD ((its.map (·.2)).take i)).length<=60000:=by
   simp only [aAc,aAb,aAl];lia
  have fin:∀ l1 H3,Same H H3->H l1=none->H3 l1=some (.lst ((([wd,"("]++aD ((its.map (·.2)).take i))++w0).map V.str))->k [some x,some (.ref l1),some (.int ((i:Nat)+1:Int)),some y] H3:=λl1 H3 g3 hn3 h3=>hk _ _ ⟨_,rfl,.inl ⟨rfl,_,SqL.of h3⟩,kT h3 (by rw [aAc];lia) λH4 g4 h4=>⟨l1,_,_,g4 _ hn3 g3,hn3,by rw [h4,tk,bH];simp,rfl⟩⟩;refine za _ _ (hx.same g2) (λc=>?_) λc1=>?_
  ·have e:pcS wd ((i:Nat)+1:Int)= "kind" :=by unfold pcS;rw [if_pos c]
   rw [e,if_neg (4)] at ps;subst ps
   cases pt with
   | kind kw=>exact ⟨_,rfl,_,rfl,d0,y,w0,rfl,hy,kw,wi,λb1 H4 hb1 g4 h4=>bX (g4 _ _ hl') h4 (3) λp2 H5 hp2 g5 h5=>fin p2 H5 ((g2.trans g4).trans g5) (none_of (g2.trans g4) hp2) h5⟩
  refine IS (hx.same g2) (λc H3 g3=>?_) λc2 H3 g3=>?_
  ·have e:pcS wd ((i:Nat)+1:Int)= "value" :=by unfold pcS;rw [if_neg c1,if_pos c]
   rw [e,if_neg (4)] at ps;subst ps
   cases pt with
   | value vw=>exact ⟨_,rfl,_,rfl,d0,y,w0,rfl,hy.same g3,vw,wi,λb1 H4 hb1 g4 h4=>bX (g4 _ _ (g3 _ _ hl')) h4 (3) λp2 H5 hp2 g5 h5=>fin p2 H5 (((g2.trans g3).trans g4).trans g5) (none_of ((g2.trans g3).trans g4) hp2) h5⟩
  refine za _ _ (hx.same (g2.trans g3)) (λc=>?_) λc3=>?_
  ·have e:pcS wd ((i:Nat)+1:Int)= "turn" :=by unfold pcS;rw [if_neg c1,if_neg c2,if_pos c]
   rw [e,if_neg (4)] at ps;subst ps
   cases pt with
   | turn tw=>exact ⟨_,rfl,_,rfl,d0,y,w0,rfl,hy.same g3,tw,wi,λb1 H4 hb1 g4 h4=>bX (g4 _ _ (g3 _ _ hl')) h4 (3) λp2 H5 hp2 g5 h5=>fin p2 H5 (((g2.trans g3).trans g4).trans g5) (none_of ((g2.trans g3).trans g4) hp2) h5⟩
  refine Cq (hx.same (g2.trans g3)) (λc H4 g4=>?_) λc4 H4 g4=>?_
  ·have e:pcS wd ((i:Nat)+1:Int)= "text" :=by unfold pcS;rw [if_neg c1,if_neg c2,if_neg c3,if_pos c]
   rw [e,if_neg (4)] at ps;subst ps
   cases pt with
   | @text z ht hz60 =>
    obtain rfl:=bC hy;have q1:(Str.ofString "\"").length=1:=rfl;have q2:(Str.ofString "\"" ++z).length=1+z.length:=by rw [aAd,q1]
    refine ⟨_,rfl,.inl ⟨rfl,_,SqL.of (g4 _ _ (g3 _ _ hl'))⟩,_,rfl,_,_,rfl,rfl,bM (3),_,_,rfl,rfl,bM (3),kT (g4 _ _ (g3 _ _ hl')) (3) λH5 g5 h5=>fin _ _ (g5 _ hn ((g2.trans g3).trans g4)) hn ?_⟩;rw [h5]
    rfl
  ·have e:pcS wd ((i:Nat)+1:Int)= "" :=by unfold pcS;rw [if_neg c1,if_neg c2,if_neg c3,if_neg c4]
   rw [e,if_pos rfl] at ps;rcases ps with rfl | rfl
   ·cases pt with
    | @word z hw =>
     obtain rfl:=bC hy;exact ⟨_,rfl,.inl ⟨rfl,_,SqL.of (g4 _ _ (g3 _ _ hl'))⟩,_,rfl,.inr ⟨z,rfl,kT (g4 _ _ (g3 _ _ hl')) (3) λH5 g5 h5=>fin _ _ (g5 _ hn ((g2.trans g3).trans g4)) hn h5⟩⟩
   ·cases pt with
    | @num z hw =>
     obtain rfl:=lI hy;exact ⟨_,rfl,.inl ⟨rfl,_,SqL.of (g4 _ _ (g3 _ _ hl'))⟩,_,rfl,.inl ⟨z,rfl,mm (aAk hw (4)),kT (g4 _ _ (g3 _ _ hl')) (3) λH5 g5 h5=>fin _ _ (g5 _ hn ((g2.trans g3).trans g4)) hn h5⟩⟩
 ·rintro σ H2 ⟨l',v2,v3,g2,hn,hl',rfl⟩;rw [en,aAx (by rw [aAa];exact aAo _)] at hl';obtain ⟨y,r,er⟩:∃ y r,its.map (·.2)=y :: r:=by
   cases its with
   | nil=>exact absurd (aAY.mp lf.symm) l0
   | cons y r=>exact ⟨_,_,rfl⟩
  rw [er] at hl' wl q;rw [cI,<- aAD,aAr] at hl';refine ⟨_,rfl,_,rfl,_,rfl,l',_,rfl,SqL.of hl',λp hp=>?_⟩;have h3:(upd H2 p (.lst (k7 (([wd,"("]++sepW (y :: r)).map V.str++[("," : Str)].map V.str) none (some (-1))))) p=some (.lst (([wd,"("]++sepW (y :: r)).map V.str)):=by
   rw [aa];exact congrArg (λz=>some (HO.lst z)) (mr _ _)
  refine ⟨sz1,a7 [(")" : Str)] h3 (by simp only [aAc,aAb,aAl];lia) λp5 H5 hp5 g5 h5=>q p5 H5 (none_of (g2.trans (ag hp _)) hp5) ((g2.trans (ag hp _)).trans g5) h5⟩
def jh (K:W.Frag) (_:Ads):Sp:=λvs H Q _=>∃ (ns:List Str) (x:V),vs=[x]/\IsP K H (.tup (ns.map Dt.str)) x/\ns.length<=8/\∀ l H',H l=none->Same H H'->H' l=some (.lst ((pathW ns).map V.str))->Q (.ref l) H'
theorem uk:∀ (l:List Str) (z:Str),slW (l++[z])=slW l++[("/" : Str),z]
 | [],z=>rfl
 | x :: l,z=>by
  show ("/" : Str) :: x :: slW (l++[z])=_;rw [uk l z]
  rfl
theorem ji (T:Tx K mg ad) {f:Addr} {fd:FuncData} (F:Gn K mg "_law_path_words" cL ["path"] f fd):FnOk P w K mg base CX0 1 f fd ["path"] (jh K ad):=by
 refine F.F.ok bQ (λvs H Q E h=>?_) (λcdv A outer s H vs Q E hr h=>?_)
 ·obtain ⟨ns,x,rfl,_⟩:=h
  rfl
 obtain ⟨ns,x,rfl,hx,h8,q⟩:=h;refine ⟨_,(@pss_cons _ _ _ _ _ (20,bQ.nd,@pe_lst _ _ _ _ pa_nil) (@pss_cons _ _ _ _ _ (ps_for PassesOwn.never rfl (pi_tupN (K:=K) rfl (pv 0)) (aj (i:=2) bQ.nd rfl (Or.inl rfl))
    (5,(20,bQ.nd,(19,pv 1,@pe_lst _ _ _ _ (12,pe_str,pv 2))))) (5,(8,(19,pv 1,(15,ww,@pe_lst _ _ _ _ (@pa1 _ _ _ pe_str (1)),pe_callTy jz rfl T.z_int boot_int (9,fj op_eq (pe_callB (ik (K:=K) rfl) rfl T.z_len PySem.boot_len (@pa1 _ _ _ (pv 0) (1))) pe_int (nomark _)))))))),?_⟩
 obtain ⟨a,xs,rfl,ha,_,ra⟩:=hx.unref;obtain rfl:=bT ra;refine ⟨(by show 0<=sizeLine;decide),λl hl=>?_⟩;dsimp only [cR];refine ⟨_,rfl,a,rfl,⟨_,(ag hl _).tup ha⟩,cQ (K:=K) (xs:=ns.map V.str) (λi σ H'=>∃ l' v3,Same H H'/\H l'=none/\H' l'=some (.lst ((slW (ns.take i)).map V.str))/\σ=[some (.ref a),some (.ref l'),v3]) ⟨l,_,ag hl _,hl,aa,rfl⟩ (λi σ H' _ p=>by obtain ⟨_,_,g,_⟩:=p;exact g.tup ha) ?_ ?_⟩
 ·rintro i y σ H2 hy ⟨l',v3,g2,hn,hl',rfl⟩;rw [aAg] at hy;obtain ⟨z,hz',rfl⟩:=aAi.mp hy;have il:=(aAj.mp hz').1;have tk:ns.take (i+1)=ns.take i++[z]:=by rw [aAC,hz'];rfl
  refine ⟨_,rfl,_,rfl,sz2,a7 ["/",z] hl' (by rw [kR,aAF];simp only [aAb,aAl];lia) λp1 H3 hp1 g3 h3=>?_⟩;refine ⟨p1,_,g2.trans g3,none_of g2 hp1,?_,rfl⟩;rw [h3,tk,uk]
 rintro σ H2 ⟨l',v3,g2,hn,hl',rfl⟩;rw [aAx (by rw [aAa];exact aAo _)] at hl';refine ⟨_,rfl,sz1,λp hp=>?_⟩;have g3:=g2.trans (ag hp (.lst [V.str "/"]));refine ⟨_,rfl,.ref a,_,rfl,(hx.same g3).d,rfl,.inr ⟨_,rfl,p,_,_,rfl,aa,rfl,?_,?_,λp2 hp2=>?_⟩⟩
 ·split <;> decide
 ·split <;> decide
 have e1:(List.replicate (Int.toNat (if decide (V.int ((ns.map Dt.str).length:Int)=V.int 0)=true then 1 else 0)) (V.str "/"))=(if ns=[] then [("/" : Str)] else []).map V.str:=by
  cases ns with
  | nil=>rfl
  | cons n ns=>rw [if_neg (by simp;lia),if_neg (λc=>nomatch c)];rfl
 have n2:H2 p2=none:=none_of (ag hp _) hp2;rw [e1];refine bX (xs:=slW ns) (ys:=if ns=[] then [("/" : Str)] else []) ?_ aa ?_ λp3 H4 hp3 g4 h4=>?_
 ·rw [ac (ah hl' n2),ac (ah hl' hp)];exact hl'
 ·rw [kR]
  split <;> simp only [aAb,aAl] <;> lia
 ·have g5:=g3.trans (ag hp2 (.lst ((if ns=[] then [("/" : Str)] else []).map V.str)));refine q p3 H4 (none_of g5 hp3) (g5.trans g4) ?_;rw [h4];unfold pathW
  split
  ·rename_i c
   rw [c]
   rfl
  ·rw [aAJ]
inductive IDg (vs:List V) (H:Hp) (Q:VK):Prop
 | mk (r:Addr) (n m:Int):(vs=[.ref r,.int m])->(H r=some (.lst [.int n]))->(0 < m)->(m < 10000000000000000000000000000000000000000000000000000000000000)->(∀ d n' H',0<=d->d < m->But r H H'->H' r=some (.lst [.int n'])->Q (.int d) H')->IDg vs H Q
def sDg:Sp:=λvs H Q _=>IDg vs H Q
theorem jW {ad:Ads} (vs:List V) (H:Hp) (Q:VK) (E:XK) (h:sDg vs H Q E):iW K ad vs H Q E:=by
 obtain ⟨r,n,m,e,hr,h0,h1,q⟩:=h;exact ⟨r,n,m,e,hr,h0,h1,q _ _ _ (mod_lt n h0).1 (mod_lt n h0).2 But.put aa⟩
theorem qX:∀ l:List Str,(∀ z∈l,z.length=1)->(l.map (·.length)).sum=l.length
 | [],_=>rfl
 | z :: l,h=>by
  rw [aAq,aAV,qX l λx hx=>h x (aAf _ hx),h z aAh,aAb];lia
theorem fg {r p:Addr} {H H':Hp} (n:p≠r) (B:But r H H') (hp:H' p=none):H p=none:=by
 cases c:H p with
 | none=>rfl
 | some o=>rw [B _ _ n c] at hp;cases hp
abbrev wordL:List Str:=["each","number","text","record","words","put","name","list"]
abbrev tailL:List Str:=["","","s","x"]
abbrev abcS:Str:= "abcdefghijklmnopqrstuvwxyz"
theorem yC:∀ z∈wordL,∀ t∈tailL,NmC (z++t)/\z.length+t.length<=8:=by unfold NmC;decide +kernel
theorem Cr:∀ c∈abcS.cps.toList,aR letS c=true:=(4)
inductive I_sp_law_word (vs:List V) (H:Hp) (Q:VK):Prop
 | mk (r:Addr) (c:Int):(vs=[.ref r])->(H r=some (.lst [.int c]))->(∀ z c' H',But r H H'->H' r=some (.lst [.int c'])->NmC z->Q (.str z) H')->I_sp_law_word vs H Q
def qY (_:W.Frag) (_:Ads):Sp:=λvs H Q _=>I_sp_law_word vs H Q
theorem eE (T:Tx K mg ad) {f:Addr} {fd:FuncData} (F:Gn K mg "_law_word" fK ["row"] f fd):FnOk P w K mg base CX0 2 f fd ["row"] (qY K ad):=by
 obtain ⟨_,_,JA⟩:=T.law_digit;have JC:=aF (P:=P) (w:=w) (base:=base) T JA;refine F.F.ok kt (λvs H Q E h=>?_) (λcdv A outer s H vs Q E hr h=>?_)
 ·obtain ⟨r,c,rfl,_⟩:=h
  rfl
 obtain ⟨r,c,rfl,hr0,q⟩:=h;have JC:=JC.imp jW;refine ⟨_,(6,(11,pt_cmpR op_eq (18) pe_int (nomark _),(6,(20,kt.nd,@pe_ix _ _ _ _ _ _ _ (aG (K:=K) rfl) (@pe_lst _ _ _ _ (@av _ _ _ _ _ pe_str (@av _ _ _ _ _ pe_str (@av _ _ _ _ _ pe_str (@av _ _ _ _ _ pe_str (@av _ _ _ _ _ pe_str (@pa3 _ _ _ _ _ _ _ pe_str pe_str pe_str (1) (1) (1)) (1)) (1)) (1)) (1)) (1))) (18) (λ_ _=>rfl)),(5,(8,(15,op_add_str,pv 1,@pe_ix _ _ _ _ _ _ _ (aG (K:=K) rfl) (@pe_lst _ _ _ _ (@av _ _ _ _ _ pe_str (@pa3 _ _ _ _ _ _ _ pe_str pe_str pe_str (1) (1) (1)) (1))) (18) (λ_ _=>rfl)))))),(5,(8,pe_bm PySem.F.plainAttrs_str PySem.F.slot_str_join PySem.F.type_str_join cS pe_str (9,pe_comp rfl (csR (sc:=ae fK) (NL:=["k"]) (N:=["row","word"]) (ρ:=[0]) (N':=["k","row"]) rfl rfl rfl (4) (4) (4) rfl (4)) (bf rfl T.z_range (9,(15,aZ,pe_int,(18)))) (λ_ _ _ _=>(aj (i:=0) (show List.Nodup (α:=Str) ["k","row"] by decide +kernel) rfl (Or.inl rfl))) (λ_ _ _ _=>(@pe_ix _ _ _ _ _ _ _ ix_str pe_str (pcl JA JC (7) rfl (@pa2 _ _ _ _ _ (pv 1) pe_int (1) (1))) (λ_ _=>rfl))))))),?_⟩;refine ⟨_,rfl,r,_,_,rfl,hr0,by decide,by decide,λd n1 H1 d0 d1 B1 R1=>⟨rfl,_,rfl,bc (λ_=>?_) λ_=>?_⟩⟩
 ·refine ⟨(by show 8<=sizeLine;decide),λp hp=>?_⟩;have np:p≠r:=λc=>by rw [c,R1] at hp;cases hp
  refine ⟨_,rfl,r,n1,_,rfl,(by rw [ac np.symm];exact R1),by decide,by decide,λd n2 H2 d0 d1 B2 R2=>?_⟩;obtain ⟨v,hv,ev⟩:=lK (xs:=wordL.map V.str) d0 d1;obtain ⟨z,hz,rfl⟩:=aAm.mp hv;refine ⟨p,_,_,_,rfl,rfl,SqL.of (B2 _ _ np aa),ev,?_⟩;have B3:But r H H2:=(B1.trans (But.same (ag hp _))).trans B2;dsimp only [cR];refine ⟨_,rfl,(by show 4<=sizeLine;decide),λp' hp'=>?_⟩;have np':p'≠r:=λc=>by rw [c,R2] at hp';cases hp'
  refine ⟨_,rfl,r,n2,_,rfl,(by rw [ac np'.symm];exact R2),by decide,by decide,λd n3 H3 d0 d1 B4 R3=>?_⟩;obtain ⟨v,hv,ev⟩:=lK (xs:=tailL.map V.str) d0 d1;obtain ⟨t,ht,rfl⟩:=aAm.mp hv;obtain ⟨ok,ol⟩:=yC z hz t ht;exact ⟨p',_,_,_,rfl,rfl,SqL.of (B4 _ _ np' aa),ev,_,_,rfl,rfl,bM (3),q _ _ _ ((B3.trans (But.same (ag hp' _))).trans B4) R3 ok⟩
 ·refine ⟨rfl,_,rfl,r,_,_,rfl,R1,by decide,by decide,λd n2 H2 d0 d1 B2 R2=>⟨_,_,rfl,rfl,_,rfl,(3),(3),λl hln=>?_⟩⟩;have nl:l≠r:=λc=>by rw [c,R2] at hln;cases hln
  have lH:=fg nl (B1.trans B2) hln;refine be (lo:=0) (n:=(1+d).toNat) (λj ys σ H'=>∃ (zs:List Str) (c':Int),But r H H'/\H' r=some (.lst [.int c'])/\H' l=some (.lst ys)/\ys=zs.map V.str/\(∀ z∈zs,z.length=1/\∀ c∈z.cps.toList,aR letS c=true)/\zs.length=j/\∃ v1,σ=[v1,some (.ref r)])
   ⟨[],n2,(B1.trans B2).trans (But.same (ag hln _)),(by rw [ac nl.symm];exact R2),aa,rfl,(by intro z hz;cases hz),rfl,none,rfl⟩ ?_ ?_
  ·rintro j ys σ H3 N hj ⟨zs,c',b1,e1,e2,rfl,hz,hle,v1,rfl⟩ next;refine ⟨_,rfl,r,_,_,rfl,e1,by decide,by decide,λd' n4 H4 g0 g1 B4 R4=>?_⟩;obtain ⟨ch,hm,hc⟩:=yZ (z:=abcS) g0 g1;refine ⟨_,_,_,rfl,rfl,(4),hc,?_⟩;have e3:=B4 _ _ nl e2;refine ⟨e3,(by rw [aAa];exact ay (3)),next _ _ _ ⟨zs++[⟨#[ch]⟩],n4,bB (b1.trans B4) lH,(by rw [ac nl.symm];exact R4),aa,(by rw [aAr];rfl),λz hz'=>?_,(by rw [aAc,hle];rfl),_,rfl⟩⟩;rcases aAG.mp hz' with h3 | h3
   ·exact hz z h3
   ·obtain rfl:=aAp.mp h3;refine ⟨rfl,λc hc'=>?_⟩;obtain rfl:c=ch:=by simpa using hc'
    exact Cr c hm
  ·intro ys σ H3 hI9;obtain ⟨zs,c',b1,e1,e2,rfl,hz,hle,v1,rfl⟩:=hI9;have sm:(zs.map (·.length)).sum=zs.length:=qX zs λz h=>(hz z h).1;refine ⟨_,l,zs,rfl,rfl,.inl (SqL.of e2),(by rw [show (Str.ofString "").length=0 from rfl];lia),?_⟩;have lj:=W.KT.join_ones zs λz h=>(hz z h).1;refine q _ c' H3 b1 e1 ⟨aAP.mpr λc hc=>?_,(3),(3)⟩;rw [ee] at hc;obtain ⟨z,hz',h1⟩:=lT hc;exact (hz z hz').2 c h1
abbrev e60:Int:=1000000000000000000000000000000000000000000000000000000000000
theorem p60:(10:Int) ^ (60:Int).toNat=e60:=(4)
theorem n60:10 ^ 60=e60.toNat:=(4)
inductive I_sp_law_any_number (vs:List V) (H:Hp) (Q:VK):Prop
 | mk (r:Addr) (c:Int):(vs=[.ref r])->(H r=some (.lst [.int c]))->(∀ i c' H',But r H H'->H' r=some (.lst [.int c'])->Int.natAbs i < 10 ^ 60->Q (.int i) H')->I_sp_law_any_number vs H Q
def eG (_:W.Frag) (_:Ads):Sp:=λvs H Q _=>I_sp_law_any_number vs H Q
theorem cB (T:Tx K mg ad) {f:Addr} {fd:FuncData} (F:Gn K mg "_law_any_number" cM ["row"] f fd):FnOk P w K mg base CX0 2 f fd ["row"] (eG K ad):=by
 obtain ⟨_,_,JA⟩:=T.law_digit;have JC:=aF (P:=P) (w:=w) (base:=base) T JA;refine F.F.ok jv (λvs H Q E h=>?_) (λcdv A outer s H vs Q E hr h=>?_)
 ·obtain ⟨r,c,rfl,_⟩:=h
  rfl
 obtain ⟨r,c,rfl,hr0,q⟩:=h;have JC:=JC.imp jW;refine ⟨_,(6,(11,pt_cmpR op_eq (18) pe_int (nomark _),(5,(8,(16,aZ,(15,cc,pcl JA JC (7) rfl (@pa2 _ _ _ _ _ (pv 0) (16,cc,(15,oq,pe_int,(16,eK,pe_int))) (1) (1)),(16,eK,pe_int)))))),(5,(8,(16,cc,(18))))),?_⟩;refine ⟨_,rfl,r,_,_,rfl,hr0,by decide,by decide,λd n1 H1 d0 d1 B1 R1=>⟨rfl,_,rfl,bc (λ_=>?_) λ_=>?_⟩⟩
 ·refine ⟨_,rfl,_,_,rfl,rfl,⟨by decide,by decide,by decide⟩,?_⟩;refine ⟨_,_,rfl,rfl,mulOk_of_bits (m:=2) (n:=200) (4) (4) (by decide),_,_,rfl,rfl,r,_,_,rfl,R1,by rw [p60];decide,by rw [p60];decide,λd' n2 H2 g0 g1 B2 R2=>?_⟩;rw [p60] at g1;refine ⟨_,_,rfl,rfl,⟨by decide,by decide,by decide⟩,_,_,rfl,rfl,_,_,rfl,rfl,q _ _ _ (B1.trans B2) R2 ?_⟩;rw [p60,n60];show (d' - e60+1).natAbs < e60.toNat;lia
 ·refine ⟨_,rfl,r,_,_,rfl,R1,by decide,by decide,λd' n2 H2 g0 g1 B2 R2=>⟨_,_,rfl,rfl,q _ _ _ (B1.trans B2) R2 (aAk (m:=100) (3) (4))⟩⟩
theorem nP {i:Int} (h:i.natAbs < 10 ^ 60):(aK i).length<=61:=by
 rw [<- am,gq];have:=ou 59 i.natAbs h;unfold eU
 split
 ·rw [aAb];lia
 ·lia
theorem VW.up {n:Nat} {d:Dt} {ws:List Str} (h:VW n d ws):VW (n+1) d ws:=by
 induction h with
 | int n i hi=>exact .int _ i hi
 | str n z h1 h2=>exact .str _ z h1 h2
 | list h8 _ ih=>exact .list h8 ih
 | rows h8 _ ih=>exact .rows h8 ih
 | rcd h8 hz _ ih=>exact .rcd h8 hz ih
theorem mz (a b:Str) (ws:List Str):aC (enc a ws b)=a.length+b.length+6+aC ws:=by
 unfold enc;rw [aY,aY,au,au];simp [aC];lia
theorem dM {b:Nat}:∀ {wss:List (List Str)},(∀ y∈wss,aC y<=b)->aC (sepW wss)<=wss.length*(b+4):=λ{wss} h=>aAz (cV wss) (by
 induction wss with
 | nil=>exact aAE _
 | cons y r ih =>
  have h1:=h y aAh;have h2:=ih λy hy=>h y (aAf _ hy);rw [aAq,aAV,aAb,Nat.add_mul];lia)
theorem qZ {K:W.Frag} {ad:Ads} {σ:L2.St} {H:Hp} {Q:VK} {r:Addr} {c way:Int} {n:Nat} (h0:σ[0]?=some (some (.ref r))) (h2:σ[2]?=some (some (.int way))) (hr:H r=some (.lst [.int c])) (q:∀ (d:Dt) (ws:List Str) (y:V) (c':Int) H',But r H H'->H' r=some (.lst [.int c'])->IsP K H' d y->VW n d ws->aC ws<=100->Q y H') :
  tOp (BJ K) (uA (bO (sQ (eG K ad) [] E0 (bO (iH 0) iL)) (bO (sQ (kh K ad) [] E0 (bO (iH 0) (bO (tC (V.int 9)) iL))) iL))) (tOp (rI (λx j=>0 < j) λi j=>V.int (i % j)) (iH 2) (tC (V.int 2))) σ H Q:=by
 refine ⟨_,h0,r,_,rfl,hr,λi c1 H1 B1 R1 hi=>⟨_,h0,r,_,9,rfl,R1,by decide,by decide,λz c2 H2 B2 R2 lz okz=>⟨sz2,λp hp=>⟨_,h2,_,_,rfl,rfl,by decide,?_⟩⟩⟩⟩;have np:p≠r:=λc=>by rw [c,R2] at hp;cases hp
 obtain ⟨w0,w1⟩:=mod_lt way (m:=2) (by decide);obtain ⟨v,hv,ev⟩:=lK (xs:=[V.int i,V.str z]) w0 w1;refine ⟨p,_,_,v,rfl,rfl,SqL.of aa,ev,?_⟩;have B:=(B1.trans B2).trans (But.same (ag hp (.lst [V.int i,V.str z])));have R:(upd H2 p (.lst [V.int i,V.str z])) r=some (.lst [.int c2]):=by rw [ac np.symm];exact R2
 rcases aAn.mp hv with rfl | hv
 ·have:=nP hi;exact q _ _ _ _ _ B R .int (.int n i hi) (by rw [au];simp [aC];lia)
 ·obtain rfl:=aAp.mp hv;refine q _ _ _ _ _ B R .str (.str n z okz (3)) ?_;have q1:(quo z).length=z.length+2:=by
   unfold quo;rw [aAd,aAd,show (Str.ofString "\"").length=1 from rfl];lia
  rw [au,q1];simp [aC];lia
def sAV (K:W.Frag) (n:Nat):Sp:=λvs H Q _=>∃ (r:Addr) (c:Int),vs=[.ref r,.int n]/\H r=some (.lst [.int c])/\∀ (d:Dt) (ws:List Str) (y:V) (c':Int) H',But r H H'->H' r=some (.lst [.int c'])->IsP K H' d y->VW n d ws->aC ws<=100*4 ^ n->Q y H'
theorem fh (T:Tx K mg ad) (n:Nat) (hn:n<=3) {f:Addr} {fd:FuncData} (JW:Gn K mg "_law_any_value" bo ["row","deep"] f fd) (G:∀ m,n=m+1->FnOk P w K mg base CX0 (m+5) f fd ["row","deep"] (sAV K m)):FnOk P w K mg base CX0 (n+5) f fd ["row","deep"] (sAV K n):=by
 obtain ⟨f1,d1,JA⟩:=T.law_digit;have JC:=(aF (P:=P) (w:=w) (base:=base) T JA).imp jW;obtain ⟨f2,d2,JK⟩:=T.law_any_number;have JP:=cB (P:=P) (w:=w) (base:=base) T JK;obtain ⟨f3,d3,JO⟩:=T.law_word;have JU:=eE (P:=P) (w:=w) (base:=base) T JO;obtain ⟨f4,d4,Kl⟩:=T.law_text;have KH:=ki (P:=P) (w:=w) (base:=base) T Kl;have Ka:FnOk P w K mg base CX0 (n+4) f fd ["row","deep"] (λvs H Q E=>∃ m,n=m+1/\sAV K m vs H Q E):=by
  cases n with
  | zero=>exact fn_none λ_ _ _ _ h=>by obtain ⟨m,h,_⟩:=h;cases h
  | succ m=>exact (G m rfl).imp λvs H Q E h=>by obtain ⟨m',e,h⟩:=h;cases e;exact h
 refine JW.F.ok cP (λvs H Q E h=>?_) (λcdv A outer s H vs Q E hr h=>?_)
 ·obtain ⟨r,c,rfl,_⟩:=h
  rfl
 obtain ⟨r,c,rfl,hr0,q⟩:=h;refine ⟨_,(6,(23,cP.nd,(18)),(6,(11,PW.pt (@j6 _ _ _ _ _ _ _ (pt_cmpR fQ (pv 2) pe_int (nomark _)) (@ii _ _ _ _ (pt_cmpR op_eq (pv 1) pe_int (nomark _)))),(5,(8,@pe_ix _ _ _ _ _ _ _ (aG (K:=K) rfl) (@pe_lst _ _ _ _ (12,(10,JK,JP,@pa1 _ _ _ (pv 0) (1)),pcl Kl KH (7) rfl (17))) (16,dO,pv 2) (λ_ _=>rfl)))),(6,(21,3,cP.nd,(18)),(6,(11,pt_cmpR fQ (pv 2) pe_int (nomark _),(5,(8,@pe_tupPK _ K _ _ _ _ rfl (12,@pe_ix _ _ _ _ _ _ _ (aG (K:=K) rfl) (@pe_lst _ _ _ _ (12,pe_str,pe_str)) (16,cc,pv 2) (λ_ _=>rfl),pe_callTy (aU (K:=K) rfl) rfl T.z_tuple boot_tuple (9,pe_comp rfl (csR (sc:=ae bo) (NL:=["k"]) (N:=["row","deep","way","many"]) (ρ:=[0,1]) (N':=["k","row","deep"]) rfl rfl rfl (4) (4) (4) rfl (4)) (bf rfl T.z_range (9,pv 3)) (λ_ _ _ _=>(aj (i:=0) (show List.Nodup (α:=Str) ["k","row","deep"] by decide +kernel) rfl (Or.inl rfl))) (λ_ _ _ _=>(10,JW,Ka,(12,pv 1,(16,cc,pv 2))))))))),(5,(8,@pe_tupPK _ K _ _ _ _ rfl (12,pe_str,pe_callTy (aU (K:=K) rfl) rfl T.z_tuple boot_tuple (9,pe_comp rfl (csR (sc:=ae bo) (NL:=["k"]) (N:=["row","deep","way","many"]) (ρ:=[0,1]) (N':=["k","row","deep"]) rfl rfl rfl (4) (4) (4) rfl (4)) (bf rfl T.z_range (9,pv 3)) (λ_ _ _ _=>(aj (i:=0) (show List.Nodup (α:=Str) ["k","row","deep"] by decide +kernel) rfl (Or.inl rfl))) (λ_ _ _ _=>(pe_tupPK (K:=K) rfl (12,(10,JO,JU,(9,pv 1)),(10,JW,Ka,(12,pv 1,(16,cc,pv 2)))))))))))))),?_⟩;refine ⟨_,rfl,r,_,_,rfl,hr0,by decide,by decide,λway n1 H1 d0 d1 B1 R1=>?_⟩;dsimp only [cR];have p4:100<=100*4 ^ n:=Nat.le_mul_of_pos_right _ (Nat.pow_pos (by decide));refine ⟨_,rfl,_,_,rfl,rfl,_,rfl,bc (λc1=>?_) λc1=>⟨_,rfl,rfl,_,rfl,bc (λc2=>?_) λc2=>?_⟩⟩
 ·dsimp only;rw [if_pos rfl];exact qZ rfl rfl R1 λd ws y c' H' B R hy vw hw=>q d ws y c' H' (B1.trans B) R hy vw (aAz hw p4)
 ·exact qZ rfl rfl R1 λd ws y c' H' B R hy vw hw=>q d ws y c' H' (B1.trans B) R hy vw (aAz hw p4)
 obtain ⟨m,rfl⟩:∃ m,n=m+1:=by
  cases n with
  | zero=>exact absurd rfl c2
  | succ m=>exact ⟨m,rfl⟩
 refine ⟨_,rfl,r,_,_,rfl,R1,by decide,by decide,λmany n2 H2 m0 m1 B2 R2=>?_⟩;dsimp only [cR];have B12:=B1.trans B2;have pw:100*4 ^ (m+1)=4*(100*4 ^ m):=by rw [Nat.pow_succ];lia
 have p1:1<=4 ^ m:=Nat.pow_pos (by decide);refine ⟨_,rfl,_,_,rfl,rfl,_,rfl,bc (λc3=>?_) λc3=>?_⟩
 ·refine ⟨sz2,λp hp=>⟨_,rfl,_,_,rfl,rfl,?_⟩⟩;have np:p≠r:=λc=>by rw [c,R2] at hp;cases hp
  have c1':¬ way < 2:=c1;obtain ⟨v,hv,ev⟩:=lK (xs:=[V.str "list",V.str "rows"]) (d:=way - 2) (3) (by show way - 2 < 2;lia);obtain ⟨wd,rfl,hwd⟩:∃ wd,v=V.str wd/\(wd= "list" \/wd= "rows"):=by
   rcases aAn.mp hv with rfl | hv
   ·exact ⟨_,rfl,.inl rfl⟩
   ·exact ⟨_,aAp.mp hv,.inr rfl⟩
  refine ⟨p,_,_,_,rfl,rfl,SqL.of aa,ev,?_⟩;have B3:=B12.trans (But.same (ag hp (.lst [V.str "list",V.str "rows"])));have R3:(upd H2 p (.lst [V.str "list",V.str "rows"])) r=some (.lst [.int n2]):=by rw [ac np.symm];exact R2
  revert B3 R3
  generalize upd H2 p (.lst [V.str "list",V.str "rows"])=H3
  intro B3 R3;refine ⟨_,rfl,_,rfl,(3),(3),λl hln=>?_⟩;have nl:l≠r:=λc=>by rw [c,R3] at hln;cases hln
  have lH:=fg nl B3 hln;refine be (lo:=0) (n:=many.toNat) (λj ys σ H'=>∃ (its:List (Dt×List Str)) (c':Int),But r H H'/\H' r=some (.lst [.int c'])/\H' l=some (.lst ys)/\IsPs K H' (its.map (·.1)) ys/\(∀ it∈its,VW m it.1 it.2/\aC it.2<=100*4 ^ m)/\its.length=j/\∃ v1,σ=[v1,some (.ref r),some (.int ((m+1:Nat):Int))])
   ⟨[],n2,bB B3 lH,(by rw [ac nl.symm];exact R3),aa,.nil,(λ_ h=>nomatch h),rfl,none,rfl⟩ ?_ ?_
  ·rintro j ys σ H4 N hj ⟨its,c',b4,e4,f4,is4,hi4,hle,v1,rfl⟩ next;refine ⟨_,rfl,_,rfl,_,_,rfl,rfl,m,rfl,r,c',by rw [show ((m+1:Nat):Int) - 1=(m:Int) by lia];rfl,e4,λd ws y c5 H5 B5 R5 hy vw hw=>?_⟩;have f5:=B5 _ _ nl f4;have l4:=is4.length;rw [aAa] at l4;refine ⟨f5,ay (3),next _ _ _ ⟨its++[(d,ws)],c5,bB (b4.trans B5) lH,(by rw [ac nl.symm];exact R5),aa,?_,λit hit=>?_,(by rw [aAc,hle];rfl),_,rfl⟩⟩
   ·rw [aAr];exact ((is4.but e4 B5).append (.cons hy .nil)).but f5 But.put
   ·rcases aAG.mp hit with h | h
    ·exact hi4 it h
    ·rw [aAp.mp h];exact ⟨vw,hw⟩
  rintro ys σ H4 ⟨its,c',b4,e4,f4,is4,hi4,hle,v1,rfl⟩;refine ⟨l,ys,_,rfl,SqL.of f4,is4,λv2 H5 g5 hv2=>⟨[.str wd,.tup (its.map (·.1))],.cons .str (.cons hv2 .nil),sz2,λv3 H6 g6 hv3=>?_⟩⟩;have B6:=b4.trans (But.same (g5.trans g6));have R6:=g6 _ _ (g5 _ _ e4);have sw:=dM (wss:=its.map (·.2)) (b:=100*4 ^ m) λy hy=>by
   obtain ⟨it,hit,rfl⟩:=aAm.mp hy;exact (hi4 it hit).2
  rw [aAa] at sw;have l3:its.length<=3:=(3)
  have sw':=aAz sw (Nat.mul_le_mul_right _ l3);rcases hwd with rfl | rfl
  ·exact q _ _ v3 _ H6 B6 R6 hv3 (.list (3) λit h=>(hi4 it h).1) (by rw [mz,show (Str.ofString "[").length=1 from rfl,show (Str.ofString "]").length=1 from rfl];lia)
  ·exact q _ _ v3 _ H6 B6 R6 hv3 (.rows (3) λit h=>(hi4 it h).1) (by rw [mz,show (Str.ofString "(").length=1 from rfl,show (Str.ofString ")").length=1 from rfl];lia)
 ·refine ⟨_,rfl,_,rfl,(3),(3),λl hln=>?_⟩;have nl:l≠r:=λc=>by rw [c,R2] at hln;cases hln
  have lH:=fg nl B12 hln;refine be (lo:=0) (n:=many.toNat) (λj ys σ H'=>∃ (gs:List G3) (c':Int),But r H H'/\H' r=some (.lst [.int c'])/\H' l=some (.lst ys)/\IsPs K H' (gs.map pr3) ys/\(∀ g∈gs,NmC g.1/\VW m g.2.1 g.2.2/\aC g.2.2<=100*4 ^ m)/\gs.length=j/\∃ v1,σ=[v1,some (.ref r),some (.int ((m+1:Nat):Int))])
   ⟨[],n2,bB B12 lH,(by rw [ac nl.symm];exact R2),aa,.nil,(λ_ h=>nomatch h),rfl,none,rfl⟩ ?_ ?_
  ·rintro j ys σ H4 N hj ⟨gs,c',b4,e4,f4,is4,hi4,hle,v1,rfl⟩ next;refine ⟨_,rfl,r,c',rfl,e4,λz c5 H5 B5 R5 nz=>⟨_,rfl,_,rfl,_,_,rfl,rfl,m,rfl,r,c5,by rw [show ((m+1:Nat):Int) - 1=(m:Int) by lia];rfl,R5,λd ws y c6 H6 B6 R6 hy vw hw=>⟨[.str z,d],.cons .str (.cons hy .nil),sz2,λv7 H7 g7 hv7=>?_⟩⟩⟩;have B7:=(B5.trans B6).trans (But.same g7);have f7:=B7 _ _ nl f4;have l4:=is4.length;rw [aAa] at l4;refine ⟨f7,ay (3),next _ _ _ ⟨gs++[(z,d,ws)],c6,bB (b4.trans B7) lH,(by rw [ac nl.symm];exact g7 _ _ R6),aa,?_,λg hg=>?_,(by rw [aAc,hle];rfl),_,rfl⟩⟩
   ·rw [aAr];exact ((is4.but e4 B7).append (.cons hv7 .nil)).but f7 But.put
   ·rcases aAG.mp hg with h | h
    ·exact hi4 g h
    ·rw [aAp.mp h];exact ⟨nz,vw,hw⟩
  rintro ys σ H4 ⟨gs,c',b4,e4,f4,is4,hi4,hle,v1,rfl⟩;refine ⟨l,ys,_,rfl,SqL.of f4,is4,λv2 H5 g5 hv2=>⟨[.str "record",.tup (gs.map pr3)],.cons .str (.cons hv2 .nil),sz2,λv3 H6 g6 hv3=>?_⟩⟩;have sw:=dM (wss:=gs.map fw3) (b:=100*4 ^ m+15) λy hy=>by
   obtain ⟨g,hg,rfl⟩:=aAm.mp hy;obtain ⟨h1,_,h2⟩:=hi4 g hg;have:=h1.2.2;rw [aY,au,au,vg.2.2.2,show aC []=0 from rfl];lia
  rw [aAa] at sw;have l3:gs.length<=3:=(3)
  have sw':=aAz sw (Nat.mul_le_mul_right _ l3);exact q _ _ v3 _ H6 (b4.trans (But.same (g5.trans g6))) (g6 _ _ (g5 _ _ e4)) hv3 (.rcd (3) (λg h=>(hi4 g h).1) λg h=>(hi4 g h).2.1) (by rw [mz,show (Str.ofString "{").length=1 from rfl,show (Str.ofString "}").length=1 from rfl];lia)
theorem xD (T:Tx K mg ad) {f:Addr} {fd:FuncData} (D:Gn K mg "_law_any_value" bo ["row","deep"] f fd):∀ n,n<=3->FnOk P w K mg base CX0 (n+5) f fd ["row","deep"] (sAV K n)
 | 0,h=>fh T 0 h D λm h=>by cases h
 | n+1,h=>fh T (n+1) h D λm e=>by cases e;exact xD T D n (3)
theorem TW.up {n:Nat} {d:Dt} {ws:List Str} (h:TW n d ws):TW (n+1) d ws:=by
 induction h with
 | nums n w js h1 h2 h3 h4=>exact .nums _ w js h1 h2 h3 h4
 | items _ ih=>exact .items ih
 | words n fo bk h1 h2 h3 h4 h5 h6=>exact .words _ fo bk h1 h2 h3 h4 h5 h6
abbrev twoL:List Str:=["bounds","number"]
abbrev sixL:List Str:=["scale","shrink","figures","cut","first","one"]
theorem Cs:∀ z∈twoL,NmC z/\¬ z= "words" /\aP "turn" z=some [("number" : Str),"number"]:=by unfold NmC;decide +kernel
theorem Ct:∀ z∈sixL,NmC z/\¬ z= "words" /\aP "turn" z=some [("number" : Str)]:=by unfold NmC;decide +kernel
theorem pE:NmC "out" /\¬ (Str.ofString "out" = "words")/\aP "turn" "out" = some []:=by unfold NmC;decide +kernel
theorem q8 {i:Int} (h:i.natAbs < 10 ^ 60):aC [aK i]<=64:=by
 have:=nP h;rw [au,show aC []=0 from rfl];lia
theorem jX {js:List Int} (h:∀ i∈js,i.natAbs < 10 ^ 60) {w:Str} (hw:NmC w):aC (brW w (sepW (js.map λi=>[aK i])))<=19+js.length*68:=by
 have sw:=dM (wss:=js.map λi=>[aK i]) (b:=64) λy hy=>by
  obtain ⟨i,hi,rfl⟩:=aAm.mp hy;exact q8 (h i hi)
 rw [aAa] at sw;rw [bW];have:=hw.2.2;lia
theorem Jw {A B:Prop} {way:Int} (h1:way=0\/way=2->A) (h2:¬ (way=0\/way=2)->B):if inV (V.int way) [V.int 0,V.int 2]=true then A else B:=by
 have e:inV (V.int way) [V.int 0,V.int 2]=decide (way=0\/way=2):=by
  show ((0:Int) == way || ((2:Int) == way || false))=_;rw [pD,pD,aB2,Bool.decide_or]
 rw [e];exact bc h1 h2
def sAT (K:W.Frag) (n:Nat):Sp:=λvs H Q _=>∃ (r:Addr) (c:Int),vs=[.ref r,.int n]/\H r=some (.lst [.int c])/\∀ (d:Dt) (ws:List Str) (y:V) (c':Int) H',But r H H'->H' r=some (.lst [.int c'])->IsP K H' d y->TW (n+1) d ws->aC ws<=300*(n+1)->Q y H'
theorem fX (T:Tx K mg ad) (n:Nat) (hn:n<=3) {f:Addr} {fd:FuncData} (Ki:Gn K mg "_law_any_turn" bD ["row","deep"] f fd) (G:∀ m,n=m+1->FnOk P w K mg base CX0 (m+5) f fd ["row","deep"] (sAT K m)):FnOk P w K mg base CX0 (n+5) f fd ["row","deep"] (sAT K n):=by
 obtain ⟨f1,d1,JA⟩:=T.law_digit;have JC:=(aF (P:=P) (w:=w) (base:=base) T JA).imp jW;obtain ⟨f2,d2,JK⟩:=T.law_any_number;have JP:=cB (P:=P) (w:=w) (base:=base) T JK;obtain ⟨f3,d3,JO⟩:=T.law_word;have JU:=eE (P:=P) (w:=w) (base:=base) T JO;have Kx:FnOk P w K mg base CX0 (n+4) f fd ["row","deep"] (λvs H Q E=>∃ m,n=m+1/\sAT K m vs H Q E):=by
  cases n with
  | zero=>exact fn_none λ_ _ _ _ h=>by obtain ⟨m,h,_⟩:=h;cases h
  | succ m=>exact (G m rfl).imp λvs H Q E h=>by obtain ⟨m',e,h⟩:=h;cases e;exact h
 refine Ki.F.ok dr (λvs H Q E h=>?_) (λcdv A outer s H vs Q E hr h=>?_)
 ·obtain ⟨r,c,rfl,_⟩:=h
  rfl
 obtain ⟨r,c,rfl,hr0,q⟩:=h;refine ⟨_,(6,(23,dr.nd,(18)),(6,(11,PW.pt (@pw_and _ _ _ _ _ _ _ (pt_cmpR op_eq (pv 2) pe_int (nomark _)) (@pw_and1 _ _ _ _ (pt_cmpR mW (pv 1) pe_int (nomark _)))),(5,(8,@pe_tupPK _ K _ _ _ _ rfl (12,pe_str,(10,Ki,Kx,@pa2 _ _ _ _ _ (pv 0) (16,cc,pv 1) (1) (1)))))),(6,(11,pt_cmpR op_eq (pv 2) pe_int (nomark _),(6,(21,3,dr.nd,pe_callTy (aU (K:=K) rfl) rfl T.z_tuple boot_tuple (9,pe_comp rfl (csR (sc:=ae bD) (NL:=["k"]) (N:=["row","deep","way","forth"]) (ρ:=[0]) (N':=["k","row"]) rfl rfl rfl (4) (4) (4) rfl (4)) (bf rfl T.z_range (9,(15,aZ,pe_int,(18)))) (λ_ _ _ _=>(aj (i:=0) (show List.Nodup (α:=Str) ["k","row"] by decide +kernel) rfl (Or.inl rfl))) (λ_ _ _ _=>(10,JO,JU,(9,pv 1))))),(5,(8,@pe_tupPK _ K _ _ _ _ rfl (@pa3 _ _ _ _ _ _ _ pe_str (pv 3) (pe_callTy (aU (K:=K) rfl) rfl T.z_tuple boot_tuple (9,pe_comp rfl (csR (sc:=ae bD) (NL:=["k"]) (N:=["row","deep","way","forth"]) (ρ:=[0]) (N':=["k","row"]) rfl rfl rfl (4) (4) (4) rfl (4)) (bf rfl T.z_range (9,(15,aZ,pe_int,(18)))) (λ_ _ _ _=>(aj (i:=0) (show List.Nodup (α:=Str) ["k","row"] by decide +kernel) rfl (Or.inl rfl))) (λ_ _ _ _=>(pe_tupPK (K:=K) rfl (12,(10,JO,JU,(9,pv 1)),(10,JO,JU,(9,pv 1))))))) (1) (1) (1)))))),(6,(11,pt_cmpR (fv (K:=K) rfl) (pv 2) (@pe_lst _ _ _ _ (@pa2 _ _ _ _ _ pe_int pe_int (1) (1))) rfl,(5,(8,@pe_tupPK _ K _ _ _ _ rfl (@pa1 _ _ _ pe_str (1))))),(6,(11,pt_cmpR fQ (pv 2) pe_int (nomark _),(5,(8,@pe_tupPK _ K _ _ _ _ rfl (@pa3 _ _ _ _ _ _ _ (@pe_ix _ _ _ _ _ _ _ (aG (K:=K) rfl) (@pe_lst _ _ _ _ (12,pe_str,pe_str)) (16,cc,pv 2) (λ_ _=>rfl)) (10,JK,JP,@pa1 _ _ _ (pv 0) (1)) (10,JK,JP,@pa1 _ _ _ (pv 0) (1)) (1) (1) (1))))),(5,(8,@pe_tupPK _ K _ _ _ _ rfl (12,@pe_ix _ _ _ _ _ _ _ (aG (K:=K) rfl) (@pe_lst _ _ _ _ (@av _ _ _ _ _ pe_str (@av _ _ _ _ _ pe_str (@av _ _ _ _ _ pe_str (@pa3 _ _ _ _ _ _ _ pe_str pe_str pe_str (1) (1) (1)) (1)) (1)) (1))) (16,dO,(15,aZ,pv 2,pv 1)) (λ_ _=>rfl),(10,JK,JP,@pa1 _ _ _ (pv 0) (1)))))))))),?_⟩;refine ⟨_,rfl,r,_,_,rfl,hr0,by decide,by decide,λway n1 H1 d0 d1 B1 R1=>?_⟩;dsimp only [cR];refine gB λk hk=>?_;have rest:k [some (.ref r),some (.int (n:Int)),some (.int way),none] H1:=by
  refine hk _ _ ⟨_,rfl,rfl,_,rfl,bc (λc1=>?_) λc1=>?_⟩
  ·refine ⟨_,rfl,r,_,_,rfl,R1,by decide,by decide,λm1 n2 H2 g0 g1 B2 R2=>⟨_,_,rfl,rfl,_,rfl,(3),(3),λl hln=>?_⟩⟩;have nl:l≠r:=λc=>by rw [c,R2] at hln;cases hln
   have lH:=fg nl (B1.trans B2) hln;refine be (lo:=0) (n:=(1+m1).toNat) (λj ys σ H'=>∃ (zs:List Str) (c':Int),But r H H'/\H' r=some (.lst [.int c'])/\H' l=some (.lst ys)/\ys=zs.map V.str/\(∀ z∈zs,NmC z)/\zs.length=j/\∃ v1,σ=[v1,some (.ref r)])
    ⟨[],n2,bB (B1.trans B2) lH,(by rw [ac nl.symm];exact R2),aa,rfl,(λ_ h=>nomatch h),rfl,none,rfl⟩ ?_ ?_
   ·rintro j ys σ H3 N hj ⟨zs,c',b3,e3,f3,rfl,hz,hle,v1,rfl⟩ next;refine ⟨_,rfl,r,c',rfl,e3,λz c4 H4 B4 R4 nz=>?_⟩;refine ⟨B4 _ _ nl f3,(by rw [aAa];exact ay (3)),next _ _ _ ⟨zs++[z],c4,bB (b3.trans B4) lH,(by rw [ac nl.symm];exact R4),aa,(by rw [aAr];rfl),λz' hz'=>?_,(by rw [aAc,hle];rfl),_,rfl⟩⟩;rcases aAG.mp hz' with h | h
    ·exact hz z' h
    ·rw [aAp.mp h];exact nz
   rintro ys σ H3 ⟨fo,c3,b3,e3,f3,rfl,hfo,hle,v1,rfl⟩;refine ⟨l,_,fo.map Dt.str,rfl,SqL.of f3,iX fo,λvf H4 g4 hvf=>?_⟩;have B4:=b3.trans (But.same g4);have R4:=g4 _ _ e3;dsimp only [cR];refine ⟨_,rfl,_,rfl,r,_,_,rfl,R4,by decide,by decide,λm2 n5 H5 h0 h1 B5 R5=>⟨_,_,rfl,rfl,_,rfl,(3),(3),λl2 hl2=>?_⟩⟩;have nl2:l2≠r:=λc=>by rw [c,R5] at hl2;cases hl2
   have lH2:=fg nl2 (B4.trans B5) hl2;have vf5:=hvf.but R4 B5;refine be (lo:=0) (n:=(1+m2).toNat) (λj ys σ H'=>∃ (ps:List (Str×Str)) (c':Int),But r H5 H'/\H' r=some (.lst [.int c'])/\H' l2=some (.lst ys)/\IsPs K H' (ps.map wyD) ys/\(∀ p∈ps,NmC p.1/\NmC p.2)/\ps.length=j/\∃ v1,σ=[v1,some (.ref r)])
    ⟨[],n5,But.same (ag hl2 _),(by rw [ac nl2.symm];exact R5),aa,.nil,(λ_ h=>nomatch h),rfl,none,rfl⟩ ?_ ?_
   ·rintro j ys σ H6 N hj ⟨ps,c',b6,e6,f6,is6,hp6,hle6,v1,rfl⟩ next;refine ⟨_,rfl,r,c',rfl,e6,λz1 c7 H7 B7 R7 nz1=>⟨_,rfl,r,c7,rfl,R7,λz2 c8 H8 B8 R8 nz2=>⟨[.str z1,.str z2],.cons .str (.cons .str .nil),sz2,λv9 H9 g9 hv9=>?_⟩⟩⟩;have B9:=(B7.trans B8).trans (But.same g9);have f9:=B9 _ _ nl2 f6;have l6:=is6.length;rw [aAa] at l6;refine ⟨f9,ay (3),next _ _ _ ⟨ps++[(z1,z2)],c8,bB (b6.trans B9) hl2,(by rw [ac nl2.symm];exact g9 _ _ R8),aa,?_,λp hp=>?_,(by rw [aAc,hle6];rfl),_,rfl⟩⟩
    ·rw [aAr];exact ((is6.but e6 B9).append (.cons hv9 .nil)).but f9 But.put
    ·rcases aAG.mp hp with h | h
     ·exact hp6 p h
     ·rw [aAp.mp h];exact ⟨nz1,nz2⟩
   rintro ys σ H6 ⟨bk,c6,b6,e6,f6,is6,hp6,hle6,v1,rfl⟩;refine ⟨l2,ys,_,rfl,SqL.of f6,is6,λvb H7 g7 hvb=>⟨[.str "words",.tup (fo.map Dt.str),.tup (bk.map wyD)],.cons .str (.cons ((vf5.but R5 b6).same g7) (.cons hvb .nil)),sz3,λv8 H8 g8 hv8=>?_⟩⟩;refine q _ _ v8 _ H8 (((B4.trans B5).trans b6).trans (But.same (g7.trans g8))) (g8 _ _ (g7 _ _ e6)) hv8 (.words n fo bk (λc=>by rw [c] at hle;simp at hle;lia) (λc=>by rw [c] at hle6;simp at hle6;lia) (3) (3) hfo hp6) ?_;have s1:=dM (wss:=fo.map λz=>[z]) (b:=11) λy hy=>by
    obtain ⟨z,hz,rfl⟩:=aAm.mp hy;have:=(hfo z hz).2.2;rw [au,show aC []=0 from rfl];lia
   have s2:=dM (wss:=bk.map wyW) (b:=26) λy hy=>by
    obtain ⟨p,hp,rfl⟩:=aAm.mp hy;have h1:=(hp6 p hp).1.2.2;have h2:=(hp6 p hp).2.2.2;rw [au,au,au,vg.2.2.2,show aC []=0 from rfl];lia
   rw [aAa] at s1 s2;rw [bW,aY,aY,au,show (Str.ofString ";").length=1 from rfl,show (Str.ofString "words").length=5 from rfl,show aC []=0 from rfl];lia
  refine ⟨_,rfl,sz2,λp hp=>⟨p,_,rfl,.inl (SqL.of aa),rfl,rfl,_,rfl,?_⟩⟩;have np:p≠r:=λc=>by rw [c,R1] at hp;cases hp
  have B2:=B1.trans (But.same (ag hp (.lst [V.int 0,V.int 2])));have R2:(upd H1 p (.lst [V.int 0,V.int 2])) r=some (.lst [.int n1]):=by rw [ac np.symm];exact R1
  revert B2 R2
  show But r H (upd H1 p (.lst [V.int 0,V.int 2]))->_->if inV (V.int way) [V.int 0,V.int 2]=true then _ else _
  generalize upd H1 p (.lst [V.int 0,V.int 2])=H2
  intro B2 R2;refine Jw (λc2=>?_) λc2=>?_
  ·refine ⟨[.str "out"],.cons .str .nil,sz1,λv8 H8 g8 hv8=>q _ _ v8 _ H8 (B2.trans (But.same g8)) (g8 _ _ R2) hv8 (.nums n "out" [] pE.1 pE.2.1 pE.2.2 λ_ h=>nomatch h) (aAz (jX (js:=[]) (λ_ h=>nomatch h) pE.1) (by simp;lia))⟩
  refine ⟨_,rfl,_,_,rfl,rfl,_,rfl,bc (λc3=>?_) λc3=>?_⟩
  ·refine ⟨sz2,λp hp=>⟨_,rfl,_,_,rfl,rfl,?_⟩⟩;have np:p≠r:=λc=>by rw [c,R2] at hp;cases hp
   have c1':¬ way=1:=λc=>c1 (congrArg V.int c);obtain ⟨v,hv,ev⟩:=lK (xs:=twoL.map V.str) (d:=way - 3) (3) (by show way - 3 < 2;lia);obtain ⟨wd,hwd,rfl⟩:=aAm.mp hv;obtain ⟨k1,k2,k3⟩:=Cs wd hwd;refine ⟨p,_,_,_,rfl,rfl,SqL.of aa,ev,?_⟩;refine ⟨_,rfl,r,n1,rfl,(by rw [ac np.symm];exact R2),λi c4 H4 B4 R4 hi=>⟨_,rfl,r,c4,rfl,R4,λj c5 H5 B5 R5 hj=>⟨[.str wd,.int i,.int j],.cons .str (.cons .int (.cons .int .nil)),sz3,λv8 H8 g8 hv8=>?_⟩⟩⟩;have hjs:∀ x∈[i,j],x.natAbs < 10 ^ 60:=λx hx=>by
    rcases aAn.mp hx with rfl | hx
    ·exact hi
    ·rw [aAp.mp hx];exact hj
   exact q _ _ v8 _ H8 ((((B2.trans (But.same (ag hp _))).trans B4).trans B5).trans (But.same g8)) (g8 _ _ R5) hv8 (.nums n wd [i,j] k1 k2 k3 hjs) (aAz (jX hjs k1) (by simp only [aAb,aAl];lia))
  ·refine ⟨(by show 6<=sizeLine;decide),λp hp=>⟨_,rfl,_,rfl,_,_,rfl,rfl,_,_,rfl,rfl,by decide,?_⟩⟩;have np:p≠r:=λc=>by rw [c,R2] at hp;cases hp
   obtain ⟨w0,w1⟩:=mod_lt (way+(n:Int)) (m:=6) (by decide);obtain ⟨v,hv,ev⟩:=lK (xs:=sixL.map V.str) w0 w1;obtain ⟨wd,hwd,rfl⟩:=aAm.mp hv;obtain ⟨k1,k2,k3⟩:=Ct wd hwd;refine ⟨p,_,_,_,rfl,rfl,SqL.of aa,ev,?_⟩;refine ⟨_,rfl,r,n1,rfl,(by rw [ac np.symm];exact R2),λi c4 H4 B4 R4 hi=>⟨[.str wd,.int i],.cons .str (.cons .int .nil),sz2,λv8 H8 g8 hv8=>?_⟩⟩;have hjs:∀ x∈[i],x.natAbs < 10 ^ 60:=λx hx=>by rw [aAp.mp hx];exact hi
   exact q _ _ v8 _ H8 (((B2.trans (But.same (ag hp _))).trans B4).trans (But.same g8)) (g8 _ _ R4) hv8 (.nums n wd [i] k1 k2 k3 hjs) (aAz (jX hjs k1) (by simp only [aAb,aAl];lia))
 refine ⟨_,rfl,rfl,_,rfl,bc (λc1=>⟨_,rfl,_,_,rfl,rfl,_,rfl,bc (λc2=>?_) λc2=>rest⟩) λc1=>?_⟩
 ·obtain ⟨m,rfl⟩:∃ m,n=m+1:=⟨n - 1,(3)⟩;refine ⟨_,rfl,_,rfl,_,_,rfl,rfl,m,rfl,r,n1,by rw [show ((m+1:Nat):Int) - 1=(m:Int) by lia];rfl,R1,λd ws y c' H' B R hy tw hw=>⟨[.str "items",d],.cons .str (.cons hy .nil),sz2,λv8 H8 g8 hv8=>?_⟩⟩;refine q _ _ v8 _ H8 ((B1.trans B).trans (But.same g8)) (g8 _ _ R) hv8 (.items tw) ?_;rw [bW,show (Str.ofString "items").length=5 from rfl];show 5+11+aC ws<=_;lia
 ·dsimp only;rw [if_neg (by decide)];exact rest
theorem xE (T:Tx K mg ad) {f:Addr} {fd:FuncData} (D:Gn K mg "_law_any_turn" bD ["row","deep"] f fd):∀ n,n<=3->FnOk P w K mg base CX0 (n+5) f fd ["row","deep"] (sAT K n)
 | 0,h=>fX T 0 h D λm h=>by cases h
 | n+1,h=>fX T (n+1) h D λm e=>by cases e;exact xE T D n (3)
theorem Cu {k N:Nat} {f:Addr} {fd:FuncData} {ps:List Str} {sp:Nat->Sp} (h:∀ n,n<=N->FnOk P w K mg base CX0 k f fd ps (sp n)):FnOk P w K mg base CX0 k f fd ps (λvs H Q E=>∃ n,n<=N/\sp n vs H Q E) :=
 ⟨λvs H Q E ⟨n,hn,z⟩=>(h n hn).len vs H Q E z,λA outer s H args us vs Q E hr e0 hb r ⟨n,hn,z⟩=>(h n hn).run A outer s H args us vs Q E hr e0 hb r z⟩
inductive PL (b:Nat):List Str->List (Dt×List Str)->Prop
 | nil:PL b [] []
 | cons {s:Str} {d:Dt} {w:List Str} {fs:List Str} {its:List (Dt×List Str)}:PartW 5 s d w->aC w<=b->PL b fs its->PL b (s :: fs) ((d,w) :: its)
theorem PL.all {b:Nat} {fs:List Str} {its:List (Dt×List Str)} (h:PL b fs its):its.length=fs.length/\(∀ x∈fs.zip its,PartW 5 x.1 x.2.1 x.2.2)/\∀ y∈its.map (·.2),aC y<=b:=by
 induction h with
 | nil=>exact ⟨rfl,(λ_ h=>nomatch h),λ_ h=>nomatch h⟩
 | cons h1 h2 _ ih =>
  obtain ⟨i1,i2,i3⟩:=ih;refine ⟨by rw [aAb,aAb,i1],λx hx=>?_,λy hy=>?_⟩
  ·rw [aBc] at hx;rcases aAn.mp hx with rfl | hx
   ·exact h1
   ·exact i2 x hx
  ·rw [aAq] at hy;rcases aAn.mp hy with rfl | hy
   ·exact h2
   ·exact i3 y hy
theorem IT:∀ p∈pieceF,NmC p.1/\aP "piece" p.1=some p.2:=by unfold NmC;decide +kernel
theorem PL.pw {b:Nat} {wd:Str} {fs:List Str} {its:List (Dt×List Str)} (hm:(wd,fs)∈pieceF) (hb:fs.length*(b+4)<=39900) (h:PL b fs its):PW (.tup (.str wd :: its.map (·.1))) (brW wd (sepW (its.map (·.2))))/\aC (brW wd (sepW (its.map (·.2))))<=40000/\its.length<=6:=by
 obtain ⟨n1,n2⟩:=IT _ hm;obtain ⟨i1,i2,i3⟩:=h.all;have l6:=(sJ _ hm).1;have sw:=dM i3;rw [aAa] at sw;rw [i1] at sw;have:=n1.2.2;refine ⟨⟨wd,fs,its,n1,n2,i1,i2,rfl,rfl⟩,?_,by dsimp only at l6;lia⟩;rw [bW];dsimp only at this;lia
theorem pF {z:Str} (h:NmC z):aC [z]<=6500:=by
 have:=h.2.2;rw [au,show aC []=0 from rfl];lia
theorem pG {i:Int} (h:i.natAbs < 10 ^ 60):aC [aK i]<=6500:=aAz (q8 h) (by decide)
theorem q9 {z:Str} (h:z.length<=60):aC [quo z]<=6500:=by
 have q1:(quo z).length=z.length+2:=by
  unfold quo;rw [aAd,aAd,show (Str.ofString "\"").length=1 from rfl];lia
 rw [au,q1,show aC []=0 from rfl];lia
abbrev nslL:List Str:=["name","sink","lift"]
theorem Cv:∀ z∈nslL,(z,[("word" : Str),"word"])∈pieceF:=(4)
inductive I_sp_law_any_piece (K:W.Frag) (vs:List V) (H:Hp) (Q:VK):Prop
 | mk (r:Addr) (c:Int):(vs=[.ref r])->(H r=some (.lst [.int c]))->(∀ (d:Dt) (ws:List Str) (y:V) (c':Int) H',But r H H'->H' r=some (.lst [.int c'])->IsP K H' d y->PW d ws->aC ws<=40000->Q y H')->I_sp_law_any_piece K vs H Q
def jY (K:W.Frag) (_:Ads):Sp:=λvs H Q _=>I_sp_law_any_piece K vs H Q
theorem jZ (T:Tx K mg ad) {f:Addr} {fd:FuncData} (F:Gn K mg "_law_any_piece" dm ["row"] f fd):FnOk P w K mg base CX0 19 f fd ["row"] (jY K ad):=by
 obtain ⟨f1,d1,JA⟩:=T.law_digit;have JC:=(aF (P:=P) (w:=w) (base:=base) T JA).imp jW;obtain ⟨f2,d2,JK⟩:=T.law_any_number;have JP:=cB (P:=P) (w:=w) (base:=base) T JK;obtain ⟨f3,d3,JO⟩:=T.law_word;have JU:=eE (P:=P) (w:=w) (base:=base) T JO;obtain ⟨f4,d4,Kl⟩:=T.law_text;have KH:=ki (P:=P) (w:=w) (base:=base) T Kl;obtain ⟨f5,d5,J3⟩:=T.law_kind;obtain ⟨e1,e2,D1⟩:=T.law_record_kind;obtain ⟨e3,e4,D2⟩:=T.law_rows_kind;have Kk:=nA (P:=P) (w:=w) (base:=base) T J3 D1 D2 4;obtain ⟨f6,d6,JW⟩:=T.law_any_value;have Ka:=Cu λn hn=>(xD (P:=P) (w:=w) (base:=base) T JW n hn).mono (k:=8) (3);obtain ⟨f7,d7,Ki⟩:=T.law_any_turn;have Kx:=xE (P:=P) (w:=w) (base:=base) T Ki 3 (by decide);refine F.F.ok bg (λvs H Q E h=>?_) (λcdv A outer s H vs Q E hr h=>?_)
 ·obtain ⟨r,c,rfl,_⟩:=h
  rfl
 obtain ⟨r,c,rfl,hr0,q⟩:=h;refine ⟨_,(6,(20,bg.nd,(18)),(6,nU (@pe_tupPK _ K _ _ _ _ rfl (@av _ _ _ _ _ (10,JO,JU,@pa1 _ _ _ (pv 0) (1)) (@pa3 _ _ _ _ _ _ _ (10,JO,JU,@pa1 _ _ _ (pv 0) (1)) (10,JO,JU,@pa1 _ _ _ (pv 0) (1)) (10,JK,JP,@pa1 _ _ _ (pv 0) (1)) (1) (1) (1)) (1))) (jx rfl (aJ (aj (i:=2) bg.nd rfl (Or.inl rfl)) (aJ (aj (i:=3) bg.nd rfl (Or.inl rfl)) (aJ (aj (i:=4) bg.nd rfl (Or.inl rfl)) (aJ (aj (i:=5) bg.nd rfl (Or.inl rfl)) dD))))),(6,(11,pt_cmpR op_eq (pv 1) pe_int (nomark _),(5,(8,@pe_tupPK _ K _ _ _ _ rfl (@av _ _ _ _ _ pe_str (@pa3 _ _ _ _ _ _ _ (pv 2) (10,J3,Kk,@pa3 _ _ _ _ _ _ _ (pv 0) pe_int (@pe_lst _ _ _ _ (9,pe_int)) (1) (1) (1)) (pcl JW Ka (7) rfl (17)) (1) (1) (1)) (1))))),(6,(11,pt_cmpR op_eq (pv 1) pe_int (nomark _),(5,(8,@pe_tupPK _ K _ _ _ _ rfl (@pa3 _ _ _ _ _ _ _ pe_str (pv 2) (pcl JW Ka (7) rfl (17)) (1) (1) (1))))),(6,(11,pt_cmpR fQ (pv 1) pe_int (nomark _),(5,(8,@pe_tupPK _ K _ _ _ _ rfl (@pa3 _ _ _ _ _ _ _ (@pe_ix _ _ _ _ _ _ _ (aG (K:=K) rfl) (@pe_lst _ _ _ _ (@pa3 _ _ _ _ _ _ _ pe_str pe_str pe_str (1) (1) (1))) (16,cc,pv 1) (λ_ _=>rfl)) (pv 2) (pv 3) (1) (1) (1))))),(6,(11,pt_cmpR op_eq (pv 1) pe_int (nomark _),(5,(8,@pe_tupPK _ K _ _ _ _ rfl (@pa3 _ _ _ _ _ _ _ pe_str (pv 2) (pcl Ki Kx (7) rfl (17)) (1) (1) (1))))),(6,(11,pt_cmpR op_eq (pv 1) pe_int (nomark _),(5,(8,@pe_tupPK _ K _ _ _ _ rfl (@av _ _ _ _ _ pe_str (@av _ _ _ _ _ (pv 2) (@pa3 _ _ _ _ _ _ _ (pcl Kl KH (7) rfl (17)) (pv 3) (pv 4) (1) (1) (1)) (1)) (1))))),(6,(11,pt_cmpR op_eq (pv 1) pe_int (nomark _),(5,(8,@pe_tupPK _ K _ _ _ _ rfl (@av _ _ _ _ _ pe_str (@av _ _ _ _ _ (pv 2) (@pa3 _ _ _ _ _ _ _ (pv 3) (pcl Kl KH (7) rfl (17)) (pv 4) (1) (1) (1)) (1)) (1))))),(6,(11,pt_cmpR op_eq (pv 1) pe_int (nomark _),(5,(8,@pe_tupPK _ K _ _ _ _ rfl (@av _ _ _ _ _ pe_str (@av _ _ _ _ _ (pv 2) (@pa3 _ _ _ _ _ _ _ (pv 5) (pv 3) (pv 4) (1) (1) (1)) (1)) (1))))),(5,(8,@pe_tupPK _ K _ _ _ _ rfl (@av _ _ _ _ _ pe_str (@av _ _ _ _ _ (pv 2) (@av _ _ _ _ _ (pv 3) (@av _ _ _ _ _ (pv 5) (@pa3 _ _ _ _ _ _ _ (pv 4) (10,JK,JP,@pa1 _ _ _ (pv 0) (1)) (10,JK,JP,@pa1 _ _ _ (pv 0) (1)) (1) (1) (1)) (1)) (1)) (1)) (1))))))))))))),?_⟩;refine ⟨_,rfl,r,_,_,rfl,hr0,by decide,by decide,λway n1 H1 d0 d1 B1 R1=>?_⟩;dsimp only [cR];refine ⟨_,rfl,r,n1,rfl,R1,λz1 c2 H2 B2 R2 k1=>⟨_,rfl,r,c2,rfl,R2,λz2 c3 H3 B3 R3 k2=>⟨_,rfl,r,c3,rfl,R3,λz3 c4 H4 B4 R4 k3=>⟨_,rfl,r,c4,rfl,R4,λi c5 H5 B5 R5 hi=>⟨[.str z1,.str z2,.str z3,.int i],.cons .str (.cons .str (.cons .str (.cons .int .nil))),(by show 4<=sizeLine;decide),λvt H6 g6 hvt=>?_⟩⟩⟩⟩⟩;obtain ⟨b,xs,rfl,hb,_,rb⟩:=hvt.unref;obtain rfl:xs=[.str z1,.str z2,.str z3,.int i]:=by
  cases rb with | cons h1 rb=>cases rb with | cons h2 rb=>cases rb with | cons h3 rb=>cases rb with | cons h4 rb=>cases rb;cases h1;cases h2;cases h3;cases h4;rfl
 have B6:But r H H6:=((((B1.trans B2).trans B3).trans B4).trans B5).trans (But.same g6);have R6:=g6 _ _ R5;have w1:=pF k1;have w2:=pF k2;have w3:=pF k3;have w4:=pG hi;refine ⟨b,_,rfl,hb,rfl,_,_,rfl,_,_,rfl,_,_,rfl,_,_,rfl,rfl,?_⟩;have fin:∀ {b:Nat} {wd:Str} {fs:List Str} {its:List (Dt×List Str)} {xs:List V} {c':Int} {H':Hp},(wd,fs)∈pieceF->fs.length*(b+4)<=39900->PL b fs its->But r H H'->H' r=some (.lst [.int c'])->IsPs K H' (.str wd :: its.map (·.1)) xs->ITup K xs H' Q:=λ{b wd fs its xs c' H'} hm hb pl B R is=>by
  obtain ⟨h1,h2,h3⟩:=pl.pw hm hb;have lx:=is.length;rw [aAb,aAa] at lx;exact ⟨_,is,bM (3),λv8 H8 g8 hv8=>q _ _ v8 _ H8 (B.trans (But.same g8)) (g8 _ _ R) hv8 h1 h2⟩
 refine ⟨_,rfl,rfl,_,rfl,bc (λc=>?_) λe0=>?_⟩
 ·refine ⟨_,rfl,_,rfl,sz1,λp hp=>?_⟩;have nrp:r≠p:=ah R6 hp;refine ⟨r,p,c5,25,4,by decide,by decide,rfl,nrp,by rw [ac nrp];exact R6,aa,λv d ka kc n4 x4 H7 b7 r7 p7 hv fk hka hkc=>?_⟩;have B7:But r H6 H7:=λx o n e=>b7 x o n (ah e hp) (ag hp _ x o e);have bk:bud 25=5:=by decide
  obtain ⟨ws,kw,hw⟩:=fk.kw 5 (3);refine ⟨_,rfl,2,by decide,r,n4,rfl,r7,λd2 ws2 y2 c9 H9 B9 R9 hy2 vw2 hw2=>?_⟩;exact fin (by decide +kernel:((("put" : Str),[("word" : Str),"kind","value"])∈pieceF)) (b:=8500) (by decide) (.cons (.word k1) (3) (.cons (.kind kw) (3) (.cons (.value vw2.up.up) (3) .nil))) ((B6.trans B7).trans B9) R9 (.cons .str (.cons .str (.cons (hv.but r7 B9) (.cons hy2 .nil))))
 refine ⟨_,rfl,rfl,_,rfl,bc (λc=>?_) λe1=>?_⟩
 ·refine ⟨_,rfl,_,rfl,3,by decide,r,c5,rfl,R6,λd2 ws2 y2 c9 H9 B9 R9 hy2 vw2 hw2=>?_⟩;exact fin (by decide +kernel:((("drop" : Str),[("word" : Str),"value"])∈pieceF)) (b:=6500) (by decide) (.cons (.word k1) w1 (.cons (.value vw2.up) (3) .nil)) (B6.trans B9) R9 (.cons .str (.cons .str (.cons hy2 .nil)))
 refine ⟨_,rfl,_,_,rfl,rfl,_,rfl,bc (λc=>?_) λe2=>?_⟩
 ·refine ⟨sz3,λp hp=>⟨_,rfl,_,_,rfl,rfl,?_⟩⟩;have np:p≠r:=λc=>by rw [c,R6] at hp;cases hp
  have e0':¬ way=0:=λc=>e0 (congrArg V.int c);have e1':¬ way=1:=λc=>e1 (congrArg V.int c);obtain ⟨v,hv,ev⟩:=lK (xs:=nslL.map V.str) (d:=way - 2) (3) (by show way - 2 < 3;lia);obtain ⟨wd,hwd,rfl⟩:=aAm.mp hv;refine ⟨p,_,_,_,rfl,rfl,SqL.of aa,ev,_,rfl,_,rfl,?_⟩;exact fin (Cv wd hwd) (b:=6500) (by decide) (.cons (.word k1) w1 (.cons (.word k2) w2 .nil)) (B6.trans (But.same (ag hp _))) (by rw [ac np.symm];exact R6) (.cons .str (.cons .str (.cons .str .nil)))
 refine ⟨_,rfl,rfl,_,rfl,bc (λc=>?_) λe3=>?_⟩
 ·refine ⟨_,rfl,_,rfl,r,c5,rfl,R6,λd2 ws2 y2 c9 H9 B9 R9 hy2 tw2 hw2=>?_⟩;exact fin (by decide +kernel:((("turn" : Str),[("word" : Str),"turn"])∈pieceF)) (b:=6500) (by decide) (.cons (.word k1) w1 (.cons (.turn tw2.up) (3) .nil)) (B6.trans B9) R9 (.cons .str (.cons .str (.cons hy2 .nil)))
 refine ⟨_,rfl,rfl,_,rfl,bc (λc=>?_) λe4=>?_⟩
 ·refine ⟨_,rfl,_,rfl,r,c5,3,rfl,R6,by decide,by decide,λz c9 H9 B9 R9 lz okz=>⟨_,rfl,_,rfl,?_⟩⟩;exact fin (by decide +kernel:((("split" : Str),[("word" : Str),"text","word","word"])∈pieceF)) (b:=6500) (by decide) (.cons (.word k1) w1 (.cons (.text okz (3)) (q9 (3)) (.cons (.word k2) w2 (.cons (.word k3) w3 .nil)))) (B6.trans B9) R9 (.cons .str (.cons .str (.cons .str (.cons .str (.cons .str .nil)))))
 refine ⟨_,rfl,rfl,_,rfl,bc (λc=>?_) λe5=>?_⟩
 ·refine ⟨_,rfl,_,rfl,_,rfl,r,c5,3,rfl,R6,by decide,by decide,λz c9 H9 B9 R9 lz okz=>⟨_,rfl,?_⟩⟩;exact fin (by decide +kernel:((("join" : Str),[("word" : Str),"word","text","word"])∈pieceF)) (b:=6500) (by decide) (.cons (.word k1) w1 (.cons (.word k2) w2 (.cons (.text okz (3)) (q9 (3)) (.cons (.word k3) w3 .nil)))) (B6.trans B9) R9 (.cons .str (.cons .str (.cons .str (.cons .str (.cons .str .nil)))))
 refine ⟨_,rfl,rfl,_,rfl,bc (λc=>?_) λe6=>?_⟩
 ·refine ⟨_,rfl,_,rfl,_,rfl,_,rfl,?_⟩;exact fin (by decide +kernel:((("part" : Str),[("word" : Str),"number","word","word"])∈pieceF)) (b:=6500) (by decide) (.cons (.word k1) w1 (.cons (.num hi) w4 (.cons (.word k2) w2 (.cons (.word k3) w3 .nil)))) B6 R6 (.cons .str (.cons .str (.cons .int (.cons .str (.cons .str .nil)))))
 refine ⟨_,rfl,_,rfl,_,rfl,_,rfl,_,rfl,r,c5,rfl,R6,λi2 c7 H7 B7 R7 hi2=>⟨_,rfl,r,c7,rfl,R7,λi3 c8 H8 B8 R8 hi3=>?_⟩⟩;exact fin (by decide +kernel:((("whole" : Str),[("word" : Str),"word","number","word","number","number"])∈pieceF)) (b:=6500) (by decide) (.cons (.word k1) w1 (.cons (.word k2) w2 (.cons (.num hi) w4 (.cons (.word k3) w3 (.cons (.num hi2) (pG hi2) (.cons (.num hi3) (pG hi3) .nil)))))) ((B6.trans B7).trans B8) R8 (.cons .str (.cons .str (.cons .str (.cons .int (.cons .str (.cons .int (.cons .int .nil)))))))
def kG (K:W.Frag) (_:Ads):Sp:=λvs H Q _=>∃ (r:Addr) (c:Int),vs=[.ref r]/\H r=some (.lst [.int c])/\∀ (ns:List Str) (y:V) (c':Int) H',But r H H'->H' r=some (.lst [.int c'])->IsP K H' (.tup (ns.map Dt.str)) y->(∀ z∈ns,NmC z)->ns.length<=8->Q y H'
theorem kH (T:Tx K mg ad) {f:Addr} {fd:FuncData} (F:Gn K mg "_law_any_path" cE ["row"] f fd):FnOk P w K mg base CX0 3 f fd ["row"] (kG K ad):=by
 obtain ⟨_,_,JO⟩:=T.law_word;have JU:=eE (P:=P) (w:=w) (base:=base) T JO;obtain ⟨_,_,JA⟩:=T.law_digit;have JC:=aF (P:=P) (w:=w) (base:=base) T JA;refine F.F.ok kL (λvs H Q E h=>?_) (λcdv A outer s H vs Q E hr h=>?_)
 ·obtain ⟨r,c,rfl,_⟩:=h
  rfl
 obtain ⟨r,c,rfl,hr0,q⟩:=h;have JC:=JC.imp jW;refine ⟨_,(5,(8,pe_callTy (aU (K:=K) rfl) rfl T.z_tuple boot_tuple (9,pe_comp rfl (csR (sc:=ae cE) (NL:=["k"]) (N:=["row"]) (ρ:=[0]) (N':=["k","row"]) rfl rfl rfl (4) (4) (4) rfl (4)) (bf rfl T.z_range (9,(18))) (λ_ _ _ _=>(aj (i:=0) (show List.Nodup (α:=Str) ["k","row"] by decide +kernel) rfl (Or.inl rfl))) (λ_ _ _ _=>(10,JO,JU,(9,pv 1)))))),?_⟩;refine ⟨_,rfl,r,_,_,rfl,hr0,by decide,by decide,λm1 n2 H2 g0 g1 B2 R2=>⟨_,rfl,(3),(3),λl hln=>?_⟩⟩;have nl:l≠r:=λc=>by rw [c,R2] at hln;cases hln
 have lH:=fg nl B2 hln;refine be (lo:=0) (n:=m1.toNat) (λj ys σ H'=>∃ (zs:List Str) (c':Int),But r H H'/\H' r=some (.lst [.int c'])/\H' l=some (.lst ys)/\ys=zs.map V.str/\(∀ z∈zs,NmC z)/\zs.length=j/\∃ v1,σ=[v1,some (.ref r)])
  ⟨[],n2,bB B2 lH,(by rw [ac nl.symm];exact R2),aa,rfl,(λ_ h=>nomatch h),rfl,none,rfl⟩ ?_ ?_
 ·rintro j ys σ H3 N hj ⟨zs,c',b3,e3,f3,rfl,hz,hle,v1,rfl⟩ next;refine ⟨_,rfl,r,c',rfl,e3,λz c4 H4 B4 R4 nz=>?_⟩;refine ⟨B4 _ _ nl f3,(by rw [aAa];exact ay (3)),next _ _ _ ⟨zs++[z],c4,bB (b3.trans B4) lH,(by rw [ac nl.symm];exact R4),aa,(by rw [aAr];rfl),λz' hz'=>?_,(by rw [aAc,hle];rfl),_,rfl⟩⟩;rcases aAG.mp hz' with h | h
  ·exact hz z' h
  ·rw [aAp.mp h];exact nz
 rintro ys σ H3 ⟨fo,c3,b3,e3,f3,rfl,hfo,hle,v1,rfl⟩;exact ⟨l,_,fo.map Dt.str,rfl,SqL.of f3,iX fo,λvf H4 g4 hvf=>q fo vf _ H4 (b3.trans (But.same g4)) (g4 _ _ e3) hvf hfo (3)⟩
theorem eH {b:Nat}:∀ {l:List Dt},(∀ x∈l,x.dep<=b)->cz l<=b
 | [],_=>aAE _
 | x :: l,h=>by
  have h1:=h x aAh;have h2:=eH λy hy=>h y (aAf _ hy);simp only [cz];lia
theorem hG (zs:List Str):cz (zs.map Dt.str)=0:=Nat.le_zero.mp (eH λx hx=>by
 obtain ⟨z,_,rfl⟩:=aAm.mp hx;exact aAo _)
theorem vo (js:List Int):cz (js.map Dt.int)=0:=Nat.le_zero.mp (eH λx hx=>by
 obtain ⟨z,_,rfl⟩:=aAm.mp hx;exact aAo _)
theorem ul {b:Nat} {gs:List G3} (h:∀ g∈gs,g.2.1.dep<=b):cz (gs.map pr3)<=b+1:=eH λx hx=>by
 obtain ⟨g,hg,rfl⟩:=aAm.mp hx;have:=h g hg;simp only [pr3,Dt.dep,cz];lia
theorem KW.dp {n:Nat} {d:Dt} {ws:List Str} (h:KW n d ws):d.dep<=3*n:=by
 induction h with
 | number n i j=>simp only [Dt.dep,cz];lia
 | text n i=>simp only [Dt.dep,cz];lia
 | choice n zs=>simp only [Dt.dep,cz,hG];lia
 | list _ _ ih=>simp only [Dt.dep,cz];lia
 | rows _ _ _ ih=>simp only [Dt.dep,cz];lia
 | rcd _ _ _ ih =>
  have:=ul ih;simp only [Dt.dep,cz];lia
theorem VW.dp {n:Nat} {d:Dt} {ws:List Str} (h:VW n d ws):d.dep<=3*n:=by
 induction h with
 | int n i=>exact aAE _
 | str n z=>exact aAE _
 | @list n its _ _ ih =>
  have:=eH (l:=its.map (·.1)) (b:=3*n) λx hx=>by
   obtain ⟨it,h,rfl⟩:=aAm.mp hx;exact ih it h
  simp only [mk2,Dt.dep,cz];lia
 | @rows n its _ _ ih =>
  have:=eH (l:=its.map (·.1)) (b:=3*n) λx hx=>by
   obtain ⟨it,h,rfl⟩:=aAm.mp hx;exact ih it h
  simp only [mk2,Dt.dep,cz];lia
 | rcd _ _ _ ih =>
  have:=ul ih;simp only [mk2,Dt.dep,cz];lia
theorem TW.dp {n:Nat} {d:Dt} {ws:List Str} (h:TW n d ws):d.dep<=3*n:=by
 induction h with
 | nums n w js=>simp only [Dt.dep,cz,vo];lia
 | items _ ih=>simp only [Dt.dep,cz];lia
 | words n fo bk =>
  have:=eH (l:=bk.map wyD) (b:=1) λx hx=>by
   obtain ⟨p,h,rfl⟩:=aAm.mp hx;simp [wyD,Dt.dep,cz]
  simp only [Dt.dep,cz,hG];lia
theorem PartW.dp {s:Str} {d:Dt} {ws:List Str} (h:PartW 5 s d ws):d.dep<=15:=by
 cases h with
 | word=>exact aAE _
 | num=>exact aAE _
 | text=>exact aAE _
 | value h=>have:=h.dp;lia
 | kind h=>have:=h.dp;lia
 | turn h=>have:=h.dp;lia
theorem PW.dp {d:Dt} {ws:List Str} (h:PW d ws):d.dep<=40:=by
 obtain ⟨w,fs,its,hw,hf,hl,hp,rfl,rfl⟩:=h;have:=eH (l:=its.map (·.1)) (b:=15) λx hx=>by
  obtain ⟨it,h,rfl⟩:=aAm.mp hx;obtain ⟨i,hi⟩:=aBj h;have il:=(aAj.mp hi).1;exact (hp (fs[i]'(3),it) (aAs (i:=i) ((aAT (z:=(_,it))).mpr ⟨aAv (3),hi⟩))).dp
 simp only [Dt.dep,cz];lia
theorem um {so:Str} {cs:List Nat} {d:Dt} (hd:dC 60 so cs=some d):yo 60 so cs:=by
 intro toks h1 h2 h3;unfold dC at hd;rw [h1] at hd;dsimp only at hd;rw [if_pos h2,h3] at hd
 cases hd
theorem mB {ws:List Str} (h:aC ws<=50000):(ai ws).length<=50000:=by
 rw [<- am];exact aAz (fE ws (ws.map blk) λb hb=>by
  obtain ⟨z,_,rfl⟩:=aAm.mp hb;exact pp z) h
abbrev Cw (K:W.Frag) (_:Ads):Sp:=IA K
theorem nQ {ns:List Str} (h:∀ z∈ns,NmC z):Str.join (Str.ofString "") (pathW ns)=ai (pathW ns):=bG ((je _).trans (ms (xB h)))
theorem Jx (ns:List Str):(Dt.tup (ns.map Dt.str)).dep<=2:=by simp only [Dt.dep,hG];lia
theorem Jy {ns:List Str} {d:Dt} (h:d.dep<=40):(Dt.tup [.tup (ns.map Dt.str),d]).dep<=60:=by simp only [Dt.dep,cz,hG];lia
theorem Jz (T:Tx K mg ad) {f:Addr} {fd:FuncData} (F:Gn K mg "law" uo ["script"] f fd):FnOk P w K mg base CX0 depth f fd ["script"] (Cw K ad):=by
 obtain ⟨f1,d1,Lk⟩:=T.law_own;have LH:=sj (P:=P) (w:=w) (base:=base) T Lk;obtain ⟨f2,d2,KQ⟩:=T.law_any_path;have Lh:=kH (P:=P) (w:=w) (base:=base) T KQ;obtain ⟨f3,d3,KK⟩:=T.law_path_words;have Lc:=ji (P:=P) (w:=w) (base:=base) T KK;obtain ⟨f4,d4,La⟩:=T.law_tight;have Lu:=pz (P:=P) (w:=w) (base:=base) T La;obtain ⟨f5,d5,KO⟩:=T.law_loose;have K9:=pB (P:=P) (w:=w) (base:=base) T KO;obtain ⟨f6,d6,Kq⟩:=T.path_text;have KN:=jf (P:=P) (w:=w) (base:=base) T Kq;obtain ⟨f7,d7,Kc⟩:=T.read_path;have K7:=oY (P:=P) (w:=w) (base:=base) T Kc;obtain ⟨f8,d8,KL⟩:=T.law_any_piece;have Le:=jZ (P:=P) (w:=w) (base:=base) T KL;obtain ⟨f9,d9,KG⟩:=T.law_piece_words;have K5:=iC (P:=P) (w:=w) (base:=base) T KG;obtain ⟨fA,dA,KS⟩:=T.change_text;have Ln:=mx (P:=P) (w:=w) (base:=base) T KS;obtain ⟨fB,dB,JZ⟩:=T.read_change;have KY:=lW (P:=P) (w:=w) (base:=base) T JZ;refine F.F.ok fP (λvs H Q E h=>?_) (λcdv A outer s H vs Q E hr h=>?_)
 ·obtain ⟨a,ns,rfl,_⟩:=h
  rfl
 obtain ⟨a,ns,rfl,hS,h63,q⟩:=h;refine ⟨_,(@pss_cons _ _ _ _ _ (ps_for PassesOwn.never rfl (bf rfl T.z_range (9,pe_callB (mZ rfl) rfl T.z_min boot_min (12,pe_int,(15,aZ,pe_int,pe_callB (bA (K:=K) rfl) rfl T.z_len PySem.boot_len (@pa1 _ _ _ (pv 0) (1)))))) (aj (i:=1) fP.nd rfl (Or.inl rfl))
    (@pss_one _ _ _ (ps_for PassesOwn.never rfl (bf rfl T.z_range (9,pe_int)) (aj (i:=2) fP.nd rfl (Or.inl rfl))
    (6,(21,3,fP.nd,(10,Lk,LH,@pa3 _ _ _ _ _ _ _ (pv 0) (pv 1) (pv 2) (1) (1) (1))),(6,(21,4,fP.nd,(10,KQ,Lh,(9,pv 3))),(6,(21,5,fP.nd,(10,KK,Lc,(9,pv 4))),(6,(11,PW.pt (@j6 _ _ _ _ _ _ _ (pt_cmpR op_ne (10,Kq,KN,(9,pv 4)) (pe_bm PySem.F.plainAttrs_str PySem.F.slot_str_join PySem.F.type_str_join cS pe_str (9,pv 5)) (nomark _)) (@ii _ _ _ _ (pt_cmpR (iU (K:=K) rfl hr.units) (pe_call K7 (13) rfl Kc.m Kc.F.kp Kc.b .nil sX (9,pe_bm PySem.F.plainAttrs_str PySem.F.slot_str_join PySem.F.type_str_join cS pe_str (9,pv 5))) (pv 4) (nomark _)))),(5,(8,pQ))),(6,(11,pt_cmpR (iU (K:=K) rfl hr.units) (pe_call K7 (13) rfl Kc.m Kc.F.kp Kc.b .nil sX (9,(10,KO,K9,(12,pv 5,pv 3)))) (pv 4) (nomark _),(5,(8,pQ))),(6,(21,6,fP.nd,(10,KL,Le,(9,pv 3))),(6,(21,5,fP.nd,(19,(19,pv 5,@pe_lst _ _ _ _ (@pa1 _ _ _ pe_str (1))),(10,KG,K5,(9,pv 6)))),(6,(21,7,fP.nd,(10,La,Lu,(9,pv 5))),(6,(11,PW.pt (@j6 _ _ _ _ _ _ _ (pt_cmpR op_ne (10,KS,Ln,(9,@pe_tupPK _ K _ _ _ _ rfl (12,pv 4,pv 6))) (pv 7) (nomark _)) (@ii _ _ _ _ (pt_cmpR (iU (K:=K) rfl hr.units) (pe_call KY (13) rfl JZ.m JZ.F.kp JZ.b .nil sX (9,pv 7)) (@pe_tupPK _ K _ _ _ _ rfl (12,pv 4,pv 6)) (nomark _)))),(5,(8,pQ))),(5,(11,pt_cmpR (iU (K:=K) rfl hr.units) (pe_call KY (13) rfl JZ.m JZ.F.kp JZ.b .nil sX (9,(10,KO,K9,(12,pv 5,pv 3)))) (@pe_tupPK _ K _ _ _ _ rfl (12,pv 4,pv 6)) (nomark _),(5,(8,pQ)))))))))))))))) (5,(8,pQ))),?_⟩
 have hlen:(ns.map V.int).length=ns.length:=aAa _;refine ⟨_,rfl,a,_,rfl,.inl hS,_,_,rfl,rfl,_,_,rfl,?_⟩;rw [hlen]
 generalize hJ:(if (1+((ns.length:Nat):Int)) < 12 then 1+((ns.length:Nat):Int) else 12)=J
 have J1:0<=J/\J<=13:=by rw [<- hJ];split <;> lia
 refine ⟨J,rfl,(3),(3),gT (lo:=0) (n:=J.toNat) (λi σ H'=>Same H H'/\∃ v1 v2 v3 v4 v5 v6 v7,σ=[some (.ref a),v1,v2,v3,v4,v5,v6,v7]) ⟨Same.refl H,_,_,_,_,_,_,_,rfl⟩ ?_ ?_⟩
 rotate_left
 ·rintro σ H1 ⟨g1,v1,v2,v3,v4,v5,v6,v7,rfl⟩;exact q _
 rintro i σ H1 hi ⟨g1,v1,v2,v3,v4,v5,v6,v7,rfl⟩;refine ⟨5,rfl,by decide,by decide,gT (lo:=0) (n:=(5:Int).toNat) (λj σ H'=>Same H H'/\∃ v2 v3 v4 v5 v6 v7,σ=[some (.ref a),some (.int (i:Nat)),v2,v3,v4,v5,v6,v7]) ⟨g1,_,_,_,_,_,_,(by show [_,some (V.int (0+(i:Int))),_,_,_,_,_,_]=_;rw [Int.zero_add])⟩ ?_ ?_⟩
 rotate_left
 ·rintro σ H2 ⟨g2,v2,v3,v4,v5,v6,v7,rfl⟩;exact ⟨g2,_,_,_,_,_,_,_,rfl⟩
 rintro j σ H2 hj ⟨g2,v2,v3,v4,v5,v6,v7,rfl⟩;refine ⟨_,rfl,_,rfl,_,rfl,a,ns,i,j,(by rw [Int.zero_add];rfl),g2.seq hS,h63,(3),hj,λr n H3 hr3 g3 e3=>?_⟩;have hrH:H r=none:=g2.free hr3;have S3:=g2.trans g3;refine ⟨_,rfl,r,n,rfl,e3,λps v n4 H4 b4 r4 hv hz h8=>?_⟩;have S4:Same H H4:=λx o e=>b4 x o (ah e hrH) (S3 x o e);have wp:=nO hz h8;have pl:=mv hz h8;refine ⟨_,rfl,ps,v,rfl,hv,h8,λl H5 hl g5 h5=>?_⟩;have nlr:l≠r:=λc=>by rw [c,r4] at hl;cases hl
 refine ⟨_,rfl,ps,v,rfl,hv.same g5,h8,hz,?_⟩;have lb:((pathW ps).map (·.length)).sum+(pathW ps).length*(Str.ofString "").length<=16777216:=by
  have:∀ ws:List Str,(ws.map (·.length)).sum<=aC ws:=by
   intro ws
   induction ws with
   | nil=>exact aAo _
   | cons w ws ih=>rw [aAq,aAV,au];lia
  have:=this (pathW ps);rw [show (Str.ofString "").length=0 from rfl];lia
 refine ⟨rfl,_,rfl,_,l,pathW ps,rfl,rfl,.inl (SqL.of h5),lb,?_⟩;rw [ee,nQ hz];refine ⟨rfl,_,rfl,qp ⟨rfl,_,rfl,_,l,pathW ps,rfl,rfl,.inl (SqL.of h5),lb,?_⟩⟩;rw [ee,nQ hz];have rd1:dC 60 "path" (ai (pathW ps)).cps.toList=some (.tup (ps.map Dt.str)):=path_read hz (b:=0) (bs:=(pathW ps).map blk) (aAa _) rfl;refine ⟨_,rfl,(3),um rd1,λd' hd' y H8 g8 hy=>?_,λhn=>absurd (rd1.symm.trans hn) (λc=>nomatch c)⟩;obtain rfl:=Option.some.inj (rd1.symm.trans hd');have g58:=g5.trans g8;have pd:=Jx ps;refine ⟨_,rfl,_,_,hy.d,(hv.same g58).d,(3),_,rfl,?_⟩;rw [eS];refine ce ⟨_,rfl,_,rfl,l,r,n4,pathW ps,rfl,nlr,g8 _ _ h5,g58 _ _ r4,(3),λz b bs n9 H9 b9 r9 lb2 ez zl=>?_⟩;have rd2:=path_read hz lb2 ez;refine ⟨z,rfl,(3),um rd2,λd' hd' y' H10 g10 hy'=>?_,λhn=>absurd (rd2.symm.trans hn) (λc=>nomatch c)⟩;obtain rfl:=Option.some.inj (rd2.symm.trans hd');have hv10:=((hv.same g58).but (g58 _ _ r4) b9).same g10;refine ⟨_,rfl,_,_,hy'.d,hv10.d,(3),_,rfl,?_⟩;rw [eS];have S10:Same H H10:=λx o e=>g10 _ _ (b9 x o (ah e hrH) (g58 _ _ (S4 x o e)));have r10:=g10 _ _ r9;have l10:H10 l=some (.lst ((pathW ps).map V.str)):=g10 _ _ (b9 _ _ nlr (g8 _ _ h5));refine ce ⟨_,rfl,r,n9,rfl,r10,λd2 ws2 v2 n11 H11 b11 r11 hv2 pw hw2=>?_⟩;have S11:Same H H11:=λx o e=>b11 x o (ah e hrH) (S10 x o e);have l11:=b11 _ _ nlr l10;have hv11:=hv10.but r10 b11;have w1:aC (pathW ps++[(" " : Str)])<=140:=by
  rw [aY,au,show (Str.ofString " ").length=1 from rfl,show aC []=0 from rfl];lia
 have w2:aC (chW ps ws2)<=50000:=by
  show aC ((pathW ps++[(" " : Str)])++ws2)<=_;rw [aY];lia
 have wl1:=bh (pathW ps);have wl2:=bh (pathW ps++[(" " : Str)]);have wl3:=bh ws2;dsimp only [cR];refine ⟨_,rfl,sz1,a7 [(" " : Str)] l11 (by simp only [aAb,aAl];lia) λp1 H12 hp1 g12 h12=>?_⟩;refine ⟨_,rfl,d2,v2,ws2,rfl,hv2.same g12,pw,(3),λl3 H13 hl3 g13 h13=>bX (g13 _ _ h12) h13 (3) λp4 H14 hp4 g14 h14=>?_⟩;have g1:Same H11 H14:=(g12.trans g13).trans g14;have n4r:p4≠r:=λc=>by rw [c,(g12.trans g13) _ _ r11] at hp4;cases hp4
 have tl:=mB w2;have tl2:=mB (ws:=ws2) (3);refine ⟨_,rfl,p4,chW ps ws2,rfl,h14,w2,λH15 g15=>?_⟩;have g115:=g1.trans g15;refine ⟨_,rfl,_,rfl,[.tup (ps.map Dt.str),d2],.cons (hv11.same g115) (.cons (hv2.same g115) .nil),sz2,λy6 H16 g16 hy6=>?_⟩;refine ⟨ps,d2,y6,ws2,rfl,hy6,h8,hz,pw,tl2,λH17 g17=>?_⟩;refine ⟨_,rfl,rfl,_,rfl,qp ?_⟩;have rd3:dC 60 "change" (ai (chW ps ws2)).cps.toList=some (.tup [.tup (ps.map Dt.str),d2]):=qU hz pw (b:=0) (bs:=(chW ps ws2).map blk) (aAa _) rfl;have cd:=Jy (ns:=ps) pw.dp;refine ⟨_,rfl,_,rfl,(3),um rd3,λd' hd' y8 H18 g18 hy8=>?_,λhn=>absurd (rd3.symm.trans hn) (λc=>nomatch c)⟩;obtain rfl:=Option.some.inj (rd3.symm.trans hd');have g118:=((g115.trans g16).trans g17).trans g18;refine ⟨_,rfl,_,rfl,[.tup (ps.map Dt.str),d2],.cons (hv11.same g118) (.cons (hv2.same g118) .nil),sz2,λy9 H19 g19 hy9=>?_⟩;refine ⟨_,_,(hy8.same g19).d,hy9.d,cd,_,rfl,?_⟩;rw [eS];have g119:=g118.trans g19;refine ce ⟨_,rfl,_,rfl,p4,r,n11,chW ps ws2,rfl,n4r,((((g15.trans g16).trans g17).trans g18).trans g19) _ _ h14,g119 _ _ r11,w2,λz b bs n20 H20 b20 r20 lb3 ez zl=>?_⟩;have rd4:=qU hz pw lb3 ez;refine ⟨z,rfl,(3),um rd4,λd' hd' yA H21 g21 hyA=>?_,λhn=>absurd (rd4.symm.trans hn) (λc=>nomatch c)⟩;obtain rfl:=Option.some.inj (rd4.symm.trans hd');refine ⟨_,rfl,_,rfl,[.tup (ps.map Dt.str),d2],.cons (((hv11.same g119).but (g119 _ _ r11) b20).same g21) (.cons (((hv2.same g119).but (g119 _ _ r11) b20).same g21) .nil),sz2,λyB H22 g22 hyB=>?_⟩;refine ⟨_,_,(hyA.same g22).d,hyB.d,cd,_,rfl,?_⟩;rw [eS];exact ce ⟨λx o e=>g22 _ _ (g21 _ _ (b20 x o (ah e hrH) (g119 _ _ (S11 x o e)))),_,_,_,_,_,_,rfl⟩
end
@[elab_as_elim] theorem yD {α:Type} {p:List α->Prop} {us:List α} (hl:us.length=0) (h:p []):p us:=by
 cases us with
 | nil=>exact h
 | cons a r=>cases hl
@[elab_as_elim] theorem yE {α:Type} {p:List α->Prop} {us:List α} (hl:us.length=1) (h:∀ x0,p [x0]):p us:=by
 cases us with
 | nil=>cases hl
 | cons a r=>exact yD (p:=λr=>p (a :: r)) (Nat.succ.inj hl) (h a)
@[elab_as_elim] theorem yF {α:Type} {p:List α->Prop} {us:List α} (hl:us.length=2) (h:∀ x0 x1,p [x0,x1]):p us:=by
 cases us with
 | nil=>cases hl
 | cons a r=>exact yE (p:=λr=>p (a :: r)) (Nat.succ.inj hl) (h a)
@[elab_as_elim] theorem yG {α:Type} {p:List α->Prop} {us:List α} (hl:us.length=3) (h:∀ x0 x1 x2,p [x0,x1,x2]):p us:=by
 cases us with
 | nil=>cases hl
 | cons a r=>exact yF (p:=λr=>p (a :: r)) (Nat.succ.inj hl) (h a)
@[elab_as_elim] theorem yH {α:Type} {p:List α->Prop} {us:List α} (hl:us.length=4) (h:∀ x0 x1 x2 x3,p [x0,x1,x2,x3]):p us:=by
 cases us with
 | nil=>cases hl
 | cons a r=>exact yG (p:=λr=>p (a :: r)) (Nat.succ.inj hl) (h a)
@[elab_as_elim] theorem yI {α:Type} {p:List α->Prop} {us:List α} (hl:us.length=5) (h:∀ x0 x1 x2 x3 x4,p [x0,x1,x2,x3,x4]):p us:=by
 cases us with
 | nil=>cases hl
 | cons a r=>exact yH (p:=λr=>p (a :: r)) (Nat.succ.inj hl) (h a)
@[elab_as_elim] theorem IU {α:Type} {p:List α->Prop} {us:List α} (hl:us.length=6) (h:∀ x0 x1 x2 x3 x4 x5,p [x0,x1,x2,x3,x4,x5]):p us:=by
 cases us with
 | nil=>cases hl
 | cons a r=>exact yI (p:=λr=>p (a :: r)) (Nat.succ.inj hl) (h a)
theorem gnM {K:W.Frag} {h:Heap} {mg:Str->Option Value} (X:K.In h) (G:h.Ns mainGlobals mg) {x:Str} {st:Stmt} {ps:List Str} {f:Addr} {od an:Option Addr} {sl:Array (Option Value)} {oc kV dc pm cd ct:Value}
  (a:W.nsIn K mainGlobals x=some (some (.ref f))) (l:K.lookup f=some ⟨oc,od,.func (W.fnOf x x (cn st) (bN st) (ae st) .none kV dc pm an cd ct),sl⟩) (c:W.codeIn K cd x=true) (k:W.keepIn K (.ref f)=true)
  (b:∀ (kV doc pm:Value) (an:Option Addr) (cdv ct:Value) (us:List Value),us.length=ps.length->bindArgs (W.fnOf x x (cn st) (bN st) (ae st) .none kV doc pm an cdv ct) ⟨us,[]⟩=pure (ps.zip us)):∃ f fd,Gn K mg x st ps f fd :=
 ⟨f,_,jB (st:=st) l c k,(jB (st:=st) l c k).binds b,W.mg_of X G a⟩
theorem exM {K:W.Frag} {h:Heap} {mg:Str->Option Value} (X:K.In h) (G:h.Ns mainGlobals mg) {x:Str} {C:Addr} {d:ClassData} (xa:W.nsIn K mainGlobals x=some (some (.ref C))) (xq:W.excIn K C bmV "ValueError.__new__" = true) (xg:W.findIn K (.ref C) "__getattribute__" = some (some (.builtin "BaseException.__getattribute__"))) (xt:W.findIn K (.ref C) "__getattr__" = some none) (xc:W.findIn K (.ref C) "__class__" = some (some (.builtin "object.__class__"))) (xb:W.mroIn K C (.type "BaseException")=some true) (xo:W.mroIn K C (.type "object")=some true) (xd:W.clsIn K C=some d) (xk:W.keepIn K (.ref C)=true):ExC K mg x C:=⟨W.mg_of X G xa,xq,⟨xg,xt,xc,xb,xo,_,xd⟩,xk⟩
theorem csM {K:W.Frag} {h:Heap} {mg:Str->Option Value} (X:K.In h) (G:h.Ns mainGlobals mg) {x z:Str} {t:Tok} (g:W.nsIn K mainGlobals x=some (some (.str z t))):∃ t,mg x=some (.str z t):=⟨_,W.mg_of X G g⟩
theorem ciM {K:W.Frag} {h:Heap} {mg:Str->Option Value} (X:K.In h) (G:h.Ns mainGlobals mg) {x:Str} {i:Int} {t:Tok} (g:W.nsIn K mainGlobals x=some (some (.int i t))):∃ t,mg x=some (.int i t):=⟨_,W.mg_of X G g⟩
theorem txI {K:W.Frag} {mg:Str->Option Value} {a0 a1 a2:Addr} (T:Tx K mg ⟨a0,a1,a2⟩):∃ ad,Tx K mg ad:=⟨_,T⟩
theorem CA {K:W.Frag} {f:Addr} {fd:FuncData} (F:Fun K "law" "law" uo f fd):∀ (s:Shared) (u:Value),BindsTo s fd ⟨[u],[]⟩ [("script",u)]:=by
 obtain ⟨oc,od,kV,doc,pm,an,cdv,ct,osl,rfl,lk,hcd⟩:=F.ex;exact λs u=>.of_eq rfl
end K88
open PySem PySem.W PyProof.Rows
set_option maxRecDepth 100000 in
set_option maxHeartbeats 0 in
theorem PySem.Challenge.cw_oldhands_k88_changes_in_words_holds : PySem.Challenge.rw_oldhands_k88_changes_in_words.Holds := by
 w_on
 refine W.holds_law K88.said λsaid=>?_;refine W.holds_open (q:=K88.hQ) (loose:=K88.hW) (Xt:=K88.hX) (XP:=λ_ _=>True) (Yf:=K88.hH.obs) (Ya:=K88.hH.val) (YP:=W.InK K88.hK) (N:=4278) K88.hl K88.hH.of K88.hH.keeps (λ_ _=>trivial) (λ_ _ _ _ _=>trivial) (1) (1) (1) (λs e=>W.recFacts_of e) (1) said (4) ⟨rfl,rfl,rfl,rfl,rfl,(4)⟩ ?hw ?hc
 case hw=>w_witness2
 k_fill
 refine L2.HY (l:=PySem.Challenge.rw_oldhands_k88_changes_in_words) (K:=K88.hK) (n:=63) (k:=K88.depth) (x:= "script") (CX:=L2.CX0) (sp:=K88.IA) rfl (by decide) rfl ⟨rfl,by decide,by decide⟩ (λw h Y=>Y) ?F (λ_ _ a ns hl _ hS=>⟨a,ns,rfl,hS,hl,λ_=>rfl⟩) (λ_ _ _ _ z=>z)
 case F =>
  intro w mg fa h KX G hmg;have T:∃ ad,K88.Tx (L2.KOf KX) mg ad:=by
   dsimp only [L2.KOf];refine' K88.txI ⟨K88.gnM KX G ?_ ?_ ?_ ?_ ?_,K88.gnM KX G ?_ ?_ ?_ ?_ ?_,K88.gnM KX G ?_ ?_ ?_ ?_ ?_,K88.gnM KX G ?_ ?_ ?_ ?_ ?_,K88.gnM KX G ?_ ?_ ?_ ?_ ?_,K88.gnM KX G ?_ ?_ ?_ ?_ ?_,K88.gnM KX G ?_ ?_ ?_ ?_ ?_,K88.gnM KX G ?_ ?_ ?_ ?_ ?_,K88.gnM KX G ?_ ?_ ?_ ?_ ?_,K88.gnM KX G ?_ ?_ ?_ ?_ ?_,K88.gnM KX G ?_ ?_ ?_ ?_ ?_,K88.gnM KX G ?_ ?_ ?_ ?_ ?_,K88.gnM KX G ?_ ?_ ?_ ?_ ?_,K88.gnM KX G ?_ ?_ ?_ ?_ ?_,K88.gnM KX G ?_ ?_ ?_ ?_ ?_,K88.gnM KX G ?_ ?_ ?_ ?_ ?_,K88.gnM KX G ?_ ?_ ?_ ?_ ?_,K88.gnM KX G ?_ ?_ ?_ ?_ ?_,K88.gnM KX G ?_ ?_ ?_ ?_ ?_,K88.gnM KX G ?_ ?_ ?_ ?_ ?_,K88.gnM KX G ?_ ?_ ?_ ?_ ?_,K88.gnM KX G ?_ ?_ ?_ ?_ ?_,K88.gnM KX G ?_ ?_ ?_ ?_ ?_,K88.gnM KX G ?_ ?_ ?_ ?_ ?_,K88.gnM KX G ?_ ?_ ?_ ?_ ?_,K88.gnM KX G ?_ ?_ ?_ ?_ ?_,K88.gnM KX G ?_ ?_ ?_ ?_ ?_,K88.gnM KX G ?_ ?_ ?_ ?_ ?_,K88.gnM KX G ?_ ?_ ?_ ?_ ?_,K88.gnM KX G ?_ ?_ ?_ ?_ ?_,K88.gnM KX G ?_ ?_ ?_ ?_ ?_,K88.gnM KX G ?_ ?_ ?_ ?_ ?_,K88.gnM KX G ?_ ?_ ?_ ?_ ?_,K88.gnM KX G ?_ ?_ ?_ ?_ ?_,K88.gnM KX G ?_ ?_ ?_ ?_ ?_,K88.gnM KX G ?_ ?_ ?_ ?_ ?_,K88.gnM KX G ?_ ?_ ?_ ?_ ?_,K88.gnM KX G ?_ ?_ ?_ ?_ ?_,K88.gnM KX G ?_ ?_ ?_ ?_ ?_,K88.gnM KX G ?_ ?_ ?_ ?_ ?_,K88.gnM KX G ?_ ?_ ?_ ?_ ?_,K88.gnM KX G ?_ ?_ ?_ ?_ ?_,K88.gnM KX G ?_ ?_ ?_ ?_ ?_,K88.gnM KX G ?_ ?_ ?_ ?_ ?_,K88.gnM KX G ?_ ?_ ?_ ?_ ?_,K88.gnM KX G ?_ ?_ ?_ ?_ ?_,K88.gnM KX G ?_ ?_ ?_ ?_ ?_,K88.gnM KX G ?_ ?_ ?_ ?_ ?_,K88.gnM KX G ?_ ?_ ?_ ?_ ?_,K88.gnM KX G ?_ ?_ ?_ ?_ ?_,K88.gnM KX G ?_ ?_ ?_ ?_ ?_,K88.gnM KX G ?_ ?_ ?_ ?_ ?_,K88.gnM KX G ?_ ?_ ?_ ?_ ?_,K88.gnM KX G ?_ ?_ ?_ ?_ ?_,K88.gnM KX G ?_ ?_ ?_ ?_ ?_,K88.gnM KX G ?_ ?_ ?_ ?_ ?_,K88.gnM KX G ?_ ?_ ?_ ?_ ?_,K88.gnM KX G ?_ ?_ ?_ ?_ ?_,K88.gnM KX G ?_ ?_ ?_ ?_ ?_,W.mg_of KX G ?_,⟨?_,?_,?_,?_⟩,(show W.findIn _ _ _=some none from ?_),(show W.findIn _ _ _=some none from ?_),L2.miM (f:=223) ?_ ?_ ?_ ?_ ?_ ?_ ?_ ?_,L2.mnM (f:=230) ?_ ?_ ?_ ?_ ?_ ?_,L2.mnM (f:=237) ?_ ?_ ?_ ?_ ?_ ?_,L2.mnM (f:=244) ?_ ?_ ?_ ?_ ?_ ?_,L2.mnM (f:=251) ?_ ?_ ?_ ?_ ?_ ?_,K88.exM KX G ?_ ?_ ?_ ?_ ?_ ?_ ?_ ?_ ?_,K88.exM KX G ?_ ?_ ?_ ?_ ?_ ?_ ?_ ?_ ?_,K88.csM KX G ?_,K88.ciM KX G ?_,K88.ciM KX G ?_,K88.csM KX G ?_,⟨W.mg_of KX G ?_,L2.Cy ?_,L2.Iv ?_⟩,⟨W.mg_of KX G ?_,L2.Cy ?_,L2.Iv ?_⟩,⟨W.mg_of KX G ?_,L2.Cy ?_,L2.Iv ?_⟩,K88.csM KX G ?_,K88.csM KX G ?_,K88.csM KX G ?_,K88.csM KX G ?_,K88.csM KX G ?_,K88.csM KX G ?_,K88.ciM KX G ?_,K88.ciM KX G ?_,⟨W.mg_of KX G ?_,L2.Iv ?_⟩,⟨_,W.mg_of KX G ?_,L2.Cz ?_⟩,⟨W.mg_of KX G ?_,L2.Iy ?_,L2.Iv ?_⟩,W.mg_none_of KX G ?_,W.mg_none_of KX G ?_,W.mg_none_of KX G ?_,W.mg_none_of KX G ?_,W.mg_none_of KX G ?_,W.mg_none_of KX G ?_,W.mg_none_of KX G ?_,W.mg_none_of KX G ?_,W.mg_none_of KX G ?_,W.mg_none_of KX G ?_,W.mg_none_of KX G ?_,W.mg_none_of KX G ?_,W.mg_none_of KX G ?_,W.mg_none_of KX G ?_⟩
   any_goals (first | k_is | kernel_rfl | exact λ_ _ _ _ _ _ _ e=>K88.yD e rfl | exact λ_ _ _ _ _ _ _ e=>K88.yE e λ_=>rfl | exact λ_ _ _ _ _ _ _ e=>K88.yF e λ_ _=>rfl | exact λ_ _ _ _ _ _ _ e=>K88.yG e λ_ _ _=>rfl | exact λ_ _ _ _ _ _ _ e=>K88.yH e λ_ _ _ _=>rfl | exact λ_ _ _ _ _ _ _ e=>K88.yI e λ_ _ _ _ _=>rfl | exact λ_ _ _ _ _ _ _ e=>K88.IU e λ_ _ _ _ _ _=>rfl)
  obtain ⟨ad,T⟩:=T;obtain ⟨fL,dL,L⟩:=T.law;have e:=hmg.symm.trans L.m
  cases e
  exact ⟨dL,K88.CA L.F,λbase _ _=>K88.Jz T L⟩
end
