import PyProof.Rows.All
import Wide.All
import OpenK.AllK
import Wide.FinOn
import Lean
import PyProof.EqAt
import PyProof.EqKinds
import PyProof.TupleCall
import PyProof.NeKinds
import KE.KIntText
import PyProof.StrCalls
import PyProof.ZipIter
import PyProof.Rows.SetFrom
import PyProof.SetRoads
import PyProof.CompUse
import PyProof.Rows.MinMaxN
import PyProof.Rows.SortStr
import PyProof.Rows.SortWalk
import PyProof.Rows.SeqMore2
import KE.KMinKey
import PyProof.Rows.CallKwBuiltin
import PyProof.TupleOfStr
import PyProof.Draws
import PyProof.Rows.TupIter
import KE.KxText
import PyProof.FString5
import PyProof.DictWalks
import PyProof.CollectStr
import PyProof.FactsAll.set_1
import KE.KDictLaws
import PySem.Challenge.RW_oldhands_k87_turns_and_pieces_in_words
set_option Elab.async false
set_option linter.all false
set_option maxHeartbeats 4000000
set_option maxRecDepth 100000
noncomputable section
abbrev aAa:=@List.length_map
abbrev aAb:=@List.length_cons
abbrev aAc:=@List.length_append
abbrev aAd:=@PySem.Str.length_append
abbrev aAe:=@PySem.Heap.get?_push_of_some
abbrev aAf:=@List.getElem?_map
abbrev aAg:=@List.mem_cons_of_mem
abbrev aAh:=@Option.map_eq_some_iff
abbrev aAi:=@List.mem_cons_self
abbrev aAj:=@Nat.lt_of_lt_of_le
abbrev aAk:=@List.getElem?_eq_some_iff
abbrev aAl:=@List.mem_map
abbrev aAm:=@List.mem_cons
abbrev aAn:=@List.length_nil
abbrev aAo:=@List.map_cons
abbrev aAp:=@Nat.le_refl
abbrev aAq:=@List.mem_singleton
abbrev aAr:=@List.mem_of_getElem?
abbrev aAs:=@Nat.exists_eq_add_of_le'
abbrev aAt:=@List.map_append
abbrev aAu:=@PySem.Heap.lt_size
abbrev aAv:=@List.getElem?_eq_getElem
abbrev aAw:=@List.size_toArray
abbrev aAx:=@Bool.false_ne_true
abbrev aAy:=@List.take_of_length_le
abbrev aAz:=@PySem.Heap.get?_push_size
abbrev aAA:=@Nat.le_trans
abbrev aAB:=@Bool.and_eq_true
abbrev aAC:=@List.take_add_one
abbrev aAD:=@Nat.zero_le
abbrev aAE:=@List.length_take
abbrev aAF:=@Bool.false_eq_true
abbrev aAG:=@List.mem_append
abbrev aAH:=@Nat.ne_of_lt
abbrev aAI:=@List.length_drop
abbrev aAJ:=@List.append_assoc
abbrev aAK:=@List.mem_filterMap
abbrev aAL:=@List.getD_eq_getElem?_getD
abbrev aAM:=@List.mem_append_right
abbrev aAN:=@List.lookup_cons
abbrev aAO:=@List.all_eq_true
abbrev aAP:=@List.map_map
abbrev aAQ:=@List.not_mem_nil
abbrev aAR:=@Nat.lt_irrefl
abbrev aAS:=@List.drop_eq_nil_of_le
abbrev aAT:=@List.getElem?_zip_eq_some
abbrev aAU:=@Array.length_toList
abbrev aAV:=@List.forIn_cons
abbrev aAW:=@List.sum_cons
abbrev aAX:=@List.takeWhile_cons
abbrev aAY:=@Bool.eq_iff_iff
abbrev aAZ:=@List.append_nil
abbrev aA0:=@List.length_replicate
abbrev aA1:=@List.length_singleton
abbrev aA2:=@PySem.Heap.size_push
abbrev aA3:=@List.length_eq_zero_iff
abbrev aA4:=@List.find?_cons
abbrev aA5:=@List.map_nil
abbrev aA6:=@List.drop_eq_getElem_cons
abbrev aA7:=@List.all_cons
abbrev aA8:=@List.replicate_succ
abbrev aA9:=@Nat.lt_succ_self
abbrev aBa:=@Nat.le_of_lt
abbrev aBb:=@Nat.lt_of_le_of_lt
abbrev aBc:=@List.zip_cons_cons
abbrev aBd:=@List.nodup_cons
abbrev aBe:=@Bool.not_true
abbrev aBf:=@Int.toNat_natCast
abbrev aBg:=@List.length_range
abbrev aBh:=@List.foldl_append
abbrev aBi:=@Array.getElem?_eq_getElem
abbrev aBj:=@List.getElem?_of_mem
abbrev aBk:=@List.dropWhile_cons
abbrev aBl:=@List.getElem?_append_right
abbrev aBm:=@List.any_cons
abbrev aBn:=@List.length_zip
abbrev aBo:=@List.sum_nil
abbrev aBp:=@List.forIn_nil
abbrev aBq:=@List.flatMap_cons
abbrev aBr:=@PySem.Heap.get?_update_other
abbrev aBs:=@List.take_length
abbrev aBt:=@List.flatMap_nil
abbrev aBu:=@PySem.Heap.get?_update_self
abbrev aBv:=@List.getElem?_eq_none
abbrev aBw:=@List.filterMap_cons
abbrev aBx:=@Array.toList_append
abbrev aBy:=@List.mem_map_of_mem
abbrev aBz:=@List.mem_range
abbrev aBA:=@List.take_zero
abbrev aBB:=@Int.le_refl
abbrev aBC:=@Array.append_assoc
abbrev aBD:=@Array.forIn_toList
abbrev aBE:=@List.findIdx?_cons
abbrev aBF:=@Int.emod_lt_of_pos
abbrev aBG:=@Array.getElem?_eq_some_iff
abbrev aBH:=@Bool.not_eq_true'
abbrev aBI:=@List.getElem?_append_left
abbrev aBJ:=@Nat.ne_of_gt
abbrev aBK:=@Nat.le_of_eq
abbrev aBL:=@List.getElem_mem
abbrev aBM:=@List.all_map
abbrev aBN:=@Nat.lt_trans
abbrev aBO:=@Nat.succ_le_succ
abbrev aBP:=@Nat.min_self
abbrev aBQ:=@List.cons_append
abbrev aBR:=@List.getElem?_replicate
abbrev aBS:=@List.of_mem_zip
abbrev aBT:=@Int.emod_nonneg
abbrev aBU:=@Int.natCast_add
abbrev aBV:=@Nat.not_lt_zero
abbrev aBW:=@List.getElem?_set_self
abbrev aBX:=@Nat.le_succ
abbrev aBY:=@Array.getElem?_eq_none
abbrev aBZ:=@List.find?_cons_of_neg
abbrev aB0:=@Array.getElem?_toList
abbrev aB1:=@Bool.or_false
abbrev aB2:=@Nat.add_zero
namespace L2
open PySem PySem.Spec PyProof.Rows
def bu (s:Stmt) (j:Nat):Stmt:=match s with
 | .ClassDef _ _ _ body _ _ _ _ _ _ _=>body.getD j (.Pass ⟨0,0,0,0⟩)
 | _=>.Pass ⟨0,0,0,0⟩
def cc (s:Stmt):Arguments:=match s with
 | .FunctionDef _ a _ _ _ _ _ _ _ _=>a
 | _=>{ posonlyargs:=[],args:=[],vararg:=none,kwonlyargs:=[],kw_defaults:=[],kwarg:=none,defaults:=[] }
def bH (s:Stmt):List Stmt:=match s with
 | .FunctionDef _ _ b _ _ _ _ _ _ _=>b
 | _=>[]
def ae (s:Stmt):Scope:=match s with
 | .FunctionDef _ _ _ _ _ _ sc _ _ _=>sc
 | _=>{ kind:=.function,names:=[],isGenerator:=false,isCoroutine:=false }
end L2
namespace K87
open PySem L2 PyProof.Rows
abbrev pwX:=PySem.Challenge.pw_oldhands_k87_turns_and_pieces_in_words
def top (i:Nat):Stmt:=pwX.main.body.getD i (.Pass ⟨0,0,0,0⟩)
def hT (t:Nat):Value:=.str "/claim/cut.py" t
def hE (P:Params) (x:Str) (t:Nat) (v:Value):DictEntry:={ hash:=PyData.keyHash P x,key:=.str x t,val:=v }
def hF (x y m:Str) (st:Stmt) (t c:Nat):Obj:={ cls:=.type "function",data:=.func (W.fnOf x y (cc st) (bH st) (ae st) .none .none .none (.str m t) none (.ref c) .none) }
def hU (x y:Str) (st:Stmt):Obj:={ cls:=.none,data:=.func { name:=x,qualname:=y,params:=cc st,body:=.stmts (bH st),scope:=ae st,globals:=builtinsNs,closure:=[],defaults:=.none,kwdefaults:=.none } }
def hC (x y:Str) (t u v:Nat) (r:List Value):Obj:={ cls:=.type "code",data:=.fields (Array.mk (.str x t :: .str y u :: hT v :: r)) }
def hS (r:List Value):Obj:={ cls:=.type "tuple",data:=.seq (Array.mk r) }
def hN:Obj:={ cls:=.none,data:=.fields (Array.mk []) }
def gE:Params→List DictEntry:=fun P =>
 hE P "__doc__" 166 (.none) ::
 hE P "__package__" 167 (.none) ::
 hE P "__loader__" 168 (.builtin "__main__.__loader__#opaque") ::
 hE P "__spec__" 169 (.none) ::
 hE P "__annotations__" 170 (.ref 6) ::
 hE P "__builtins__" 171 (.ref 4) ::
 hE P "__file__" 173 (.str ("/claim/cut.py") 172) ::
 hE P "__cached__" 174 (.none) ::
 hE P "HandError" 206 (.ref 24) ::
 hE P "BadText" 222 (.ref 37) ::
 hE P "LETTERS" 224 (.str ("abcdefghijklmnopqrstuvwxyz") 223) ::
 hE P "LONGEST_NAME" 226 (.int 8 225) ::
 hE P "PERCENT" 230 (.int 37 229) ::
 hE P "is_sign" 237 (.ref 46) ::
 hE P "FIGURES" 241 (.str ("0123456789") 240) ::
 hE P "figures_of" 248 (.ref 53) ::
 hE P "number_of" 254 (.ref 58) ::
 hE P "KIND_PARTS" 273 (.ref 59) ::
 hE P "TURN_PARTS" 305 (.ref 64) ::
 hE P "PIECE_PARTS" 357 (.ref 75) ::
 hE P "parts_behind" 365 (.ref 92) ::
 hE P "kind_text" 371 (.ref 97) ::
 hE P "most_exchanged" 379 (.ref 104) ::
 hE P "value_text" 385 (.ref 109) ::
 hE P "turn_text" 391 (.ref 114) ::
 hE P "piece_text" 398 (.ref 121) ::
 hE P "form_text" 404 (.ref 126) ::
 hE P "part_text" 412 (.ref 133) ::
 hE P "in_brackets" 421 (.ref 140) ::
 hE P "with_commas" 428 (.ref 147) ::
 hE P "pair_text" 436 (.ref 154) ::
 hE P "quoted" 443 (.ref 161) ::
 hE P "BLANK" 447 (.str (" ") 446) ::
 hE P "QUOTE" 449 (.str ("\"") 448) ::
 hE P "MINUS" 451 (.str ("-") 450) ::
 hE P "OPENING" 453 (.str ("([{") 452) ::
 hE P "CLOSING" 455 (.str (")]}") 454) ::
 hE P "MARKS" 457 (.str ("()[]{},:;/") 456) ::
 hE P "MOST_FIGURES" 459 (.int 60 458) ::
 hE P "MOST_BRACKETS" 461 (.int 40 460) ::
 hE P "END" 464 (.ref 162) ::
 hE P "words_of" 474 (.ref 169) ::
 hE P "word_end" 483 (.ref 176) ::
 hE P "run_end" 493 (.ref 183) ::
 hE P "made_word" 499 (.ref 188) ::
 hE P "deepest_brackets" 510 (.ref 195) ::
 hE P "WordRow" 574 (.ref 240) ::
 hE P "PAIR_SORTS" 586 (.ref 245) ::
 hE P "BRACKETED" 599 (.ref 249) ::
 hE P "read_turn" 606 (.ref 256) ::
 hE P "read_piece" 613 (.ref 263) ::
 hE P "read_all" 623 (.ref 270) ::
 hE P "part_read" 632 (.ref 277) ::
 hE P "pair_read" 641 (.ref 284) ::
 hE P "kind_read" 650 (.ref 291) ::
 hE P "value_read" 661 (.ref 298) ::
 hE P "turn_read" 670 (.ref 305) ::
 hE P "path_read" 678 (.ref 312) ::
 hE P "form_read" 690 (.ref 319) ::
 hE P "list_read" 700 (.ref 326) ::
 hE P "at_least_one" 707 (.ref 333) ::
 hE P "_law_cell_at" 717 (.ref 340) ::
 hE P "_law_mixed" 726 (.ref 347) ::
 hE P "_law_own" 738 (.ref 354) ::
 hE P "_law_digit" 747 (.ref 361) ::
 hE P "_law_names" 753 (.ref 366) ::
 hE P "_law_number_kind" 762 (.ref 373) ::
 hE P "_law_leaf_kind" 771 (.ref 380) ::
 hE P "_law_record_kind" 783 (.ref 387) ::
 hE P "_law_rows_kind" 797 (.ref 394) ::
 hE P "_law_kind" 807 (.ref 401) ::
 hE P "_law_text" 813 (.ref 406) ::
 hE P "_law_kind_words" 825 (.ref 413) ::
 hE P "_law_value_words" 835 (.ref 420) ::
 hE P "_law_turn_words" 847 (.ref 427) ::
 hE P "_law_piece_words" 857 (.ref 434) ::
 hE P "_law_tight" 863 (.ref 439) ::
 hE P "_law_loose" 869 (.ref 444) ::
 hE P "_law_word" 875 (.ref 449) ::
 hE P "_law_any_number" 882 (.ref 456) ::
 hE P "_law_any_value" 888 (.ref 461) ::
 hE P "_law_any_turn" 894 (.ref 466) ::
 hE P "_law_any_piece" 906 (.ref 473) ::
 hE P "law" 920 (.ref 480) ::
 []
def gD (P:Params) (x:Str) (t m k:Nat):Obj:={ cls:=.type "dict",data:=.dict (Array.mk (hE P "__name__" 165 (.str x t) :: (gE P).take m)) k }
def tE:List Value:=.int 2 0 :: .int 0 0 :: .ref 20 :: .int 4 0 :: .int 0 0 :: .ref 33 :: .int 10 0 :: .int 0 0 :: .ref 45 :: .int 14 0 :: .int 0 0 :: .ref 52 :: .int 16 0 :: .int 0 0 :: .ref 57 :: .int 27 0 :: .int 0 0 :: .ref 91 :: .int 33 0 :: .int 0 0 :: .ref 96 :: .int 40 0 :: .int 0 0 :: .ref 103 :: .int 44 0 :: .int 0 0 :: .ref 108 :: .int 56 0 :: .int 0 0 :: .ref 113 :: .int 63 0 :: .int 0 0 :: .ref 120 :: .int 65 0 :: .int 0 0 :: .ref 125 :: .int 68 0 :: .int 0 0 :: .ref 132 :: .int 76 0 :: .int 0 0 :: .ref 139 :: .int 79 0 :: .int 0 0 :: .ref 146 :: .int 81 0 :: .int 0 0 :: .ref 153 :: .int 83 0 :: .int 0 0 :: .ref 160 :: .int 95 0 :: .int 0 0 :: .ref 168 :: .int 106 0 :: .int 0 0 :: .ref 175 :: .int 117 0 :: .int 0 0 :: .ref 182 :: .int 122 0 :: .int 0 0 :: .ref 187 :: .int 133 0 :: .int 0 0 :: .ref 194 :: .int 143 0 :: .int 0 0 :: .ref 201 :: .int 170 0 :: .int 0 0 :: .ref 255 :: .int 172 0 :: .int 0 0 :: .ref 262 :: .int 174 0 :: .int 0 0 :: .ref 269 :: .int 180 0 :: .int 0 0 :: .ref 276 :: .int 197 0 :: .int 0 0 :: .ref 283 :: .int 201 0 :: .int 0 0 :: .ref 290 :: .int 211 0 :: .int 0 0 :: .ref 297 :: .int 219 0 :: .int 0 0 :: .ref 304 :: .int 226 0 :: .int 0 0 :: .ref 311 :: .int 235 0 :: .int 0 0 :: .ref 318 :: .int 247 0 :: .int 0 0 :: .ref 325 :: .int 255 0 :: .int 0 0 :: .ref 332 :: .int 260 0 :: .int 0 0 :: .ref 339 :: .int 264 0 :: .int 0 0 :: .ref 346 :: .int 267 0 :: .int 0 0 :: .ref 353 :: .int 275 0 :: .int 0 0 :: .ref 360 :: .int 279 0 :: .int 0 0 :: .ref 365 :: .int 289 0 :: .int 0 0 :: .ref 372 :: .int 293 0 :: .int 0 0 :: .ref 379 :: .int 303 0 :: .int 0 0 :: .ref 386 :: .int 309 0 :: .int 0 0 :: .ref 393 :: .int 321 0 :: .int 0 0 :: .ref 400 :: .int 331 0 :: .int 0 0 :: .ref 405 :: .int 334 0 :: .int 0 0 :: .ref 412 :: .int 353 0 :: .int 0 0 :: .ref 419 :: .int 366 0 :: .int 0 0 :: .ref 426 :: .int 382 0 :: .int 0 0 :: .ref 433 :: .int 398 0 :: .int 0 0 :: .ref 438 :: .int 400 0 :: .int 0 0 :: .ref 443 :: .int 402 0 :: .int 0 0 :: .ref 448 :: .int 407 0 :: .int 0 0 :: .ref 455 :: .int 411 0 :: .int 0 0 :: .ref 460 :: .int 419 0 :: .int 0 0 :: .ref 465 :: .int 431 0 :: .int 0 0 :: .ref 472 :: .int 449 0 :: .int 0 0 :: .ref 479 :: []
def tD (m:Nat):Obj:={ cls:=.none,data:=.fields (Array.mk (tE.take m)) }
def o0 (P:Params):Obj:=W.boot_o_0 P
def o1 (P:Params):Obj:=W.boot_o_1 P
def o2 (P:Params):Obj:=W.boot_o_2 P
def o3 (P:Params):Obj:={ cls:=.type "dict",data:=.dict (Array.mk (hE P "__name__" 165 (.str ("law_oldhands_k87_turns_and_pieces_in_words") 708) :: gE P)) 85 }
def o4 (P:Params):Obj:=W.boot_o_4 P
def o5 (P:Params):Obj:=W.boot_o_5 P
def o6 (P:Params):Obj:=W.boot_o_6 P
def o7 (P:Params):Obj:=W.boot_o_7 P
def o8 (P:Params):Obj:=W.boot_o_8 P
def o9 (P:Params):Obj:=W.boot_o_9 P
def o10 (P:Params):Obj:=W.boot_o_10 P
def o11:Obj:=hS []
def o12:Obj:={ cls:=.none,data:=.fields (Array.mk tE) }
def o13:Obj:=hC "<module>" "<module>" 182 183 184 [.int 1 0,.int 0 0,.int 0 0,.int 0 0,.int 0 0,.ref 11,.bool false,.int 181 0,.ref 12,.none,.none,.none,.none,.int 185 0,.int 1 0,hT 186]
def o14:Obj:={ cls:=.type "frame",slots:=#[some (.ref 13),some (.ref 3),some (.ref 3),none,some (.str ("__main__") 164),none,some (.ref 0)] }
def o15:Obj:=hS [.type "ValueError"]
def o16:Obj:={ cls:=.type "builtin_function_or_method",data:=.fields #[.builtin "type.__prepare__",.type "type"] }
def o17 (P:Params):Obj:={ cls:=.type "dict",data:=.dict #[hE P "__module__" 196 (.str ("oldhands.errors") 187),hE P "__qualname__" 198 (.str ("HandError") 197),hE P "__firstlineno__" 200 (.int 2 199),hE P "__static_attributes__" 201 (.ref 22)] 4 }
def o19:Obj:=hN
def o20:Obj:=hC "HandError" "HandError" 191 192 193 [.int 2 0,.int 0 0,.int 0 0,.int 0 0,.int 0 0,.ref 18,.bool false,.int 181 0,.ref 19,.none,.none,.none,.none,.int 194 0,.int 2 0,hT 195]
def o21:Obj:={ cls:=.type "frame",slots:=#[some (.ref 20),some (.ref 3),some (.ref 17),none,some (.str ("oldhands.errors") 187),none,some (.ref 0)] }
def o23 (P:Params):Obj:={ cls:=.type "dict",data:=.dict #[hE P "__module__" 196 (.str ("oldhands.errors") 187),hE P "__firstlineno__" 200 (.int 2 199),hE P "__static_attributes__" 201 (.ref 22),hE P "__weakref__" 203 (.ref 25),hE P "__doc__" 204 (.none)] 3 }
def o24:Obj:={ cls:=.type "type",data:=.cls { name:= "HandError",bases:=[.type "ValueError"],mro:=[.ref 24,.type "ValueError",.type "Exception",.type "BaseException",.type "object"],ns:=23,qualname:= "HandError",subclasses:=[.ref 37] },slots:=#[some (.ref 15),none,some (.str ("HandError") 189),some (.str ("HandError") 197),some (.builtin "ValueError.__new__"),some (.bool true)] }
def o25:Obj:={ cls:=.type "getset_descriptor",data:=.fields #[.str ("__weakref__") 202,.ref 24,.builtin "ExceptionGroup.__weakref__",.none] }
def o26:Obj:={ cls:=.type "super",data:=.fields #[.ref 24,.ref 24,.ref 24] }
def o27:Obj:={ cls:=.type "builtin_function_or_method",data:=.fields #[.builtin "object.__init_subclass__",.ref 24] }
def o28:Obj:=hS [.ref 24]
def o30 (P:Params):Obj:={ cls:=.type "dict",data:=.dict #[hE P "__module__" 214 (.str ("oldhands.errors") 187),hE P "__qualname__" 216 (.str ("BadText") 215),hE P "__firstlineno__" 218 (.int 4 217),hE P "__static_attributes__" 219 (.ref 35)] 4 }
def o33:Obj:=hC "BadText" "BadText" 209 210 211 [.int 4 0,.int 0 0,.int 0 0,.int 0 0,.int 0 0,.ref 31,.bool false,.int 181 0,.ref 32,.none,.none,.none,.none,.int 212 0,.int 4 0,hT 213]
def o34:Obj:={ cls:=.type "frame",slots:=#[some (.ref 33),some (.ref 3),some (.ref 30),none,some (.str ("oldhands.errors") 187),none,some (.ref 0)] }
def o36 (P:Params):Obj:={ cls:=.type "dict",data:=.dict #[hE P "__module__" 214 (.str ("oldhands.errors") 187),hE P "__firstlineno__" 218 (.int 4 217),hE P "__static_attributes__" 219 (.ref 35),hE P "__doc__" 220 (.none)] 2 }
def o37:Obj:={ cls:=.type "type",data:=.cls { name:= "BadText",bases:=[.ref 24],mro:=[.ref 37,.ref 24,.type "ValueError",.type "Exception",.type "BaseException",.type "object"],ns:=36,qualname:= "BadText" },slots:=#[some (.ref 28),none,some (.str ("BadText") 207),some (.str ("BadText") 215),some (.builtin "ValueError.__new__"),some (.bool true)] }
def o38:Obj:={ cls:=.type "super",data:=.fields #[.ref 37,.ref 37,.ref 37] }
def o39:Obj:={ cls:=.type "builtin_function_or_method",data:=.fields #[.builtin "object.__init_subclass__",.ref 37] }
def o42:Obj:=hS [.str ("letter") 234]
def o44:Obj:=hU "is_sign" "is_sign" (top 7)
def o45:Obj:=hC "is_sign" "is_sign" 231 232 233 [.int 10 0,.int 1 0,.int 0 0,.int 0 0,.int 3 0,.ref 40,.bool true,.int 181 0,.ref 41,.none,.ref 42,.ref 43,.ref 44,.int 235 0,.int 10 0,hT 236]
def o46:Obj:=hF "is_sign" "is_sign" "oldhands.values" (top 7) 227 45
def o49:Obj:=hS [.str ("number") 245]
def o51:Obj:=hU "figures_of" "figures_of" (top 10)
def o52:Obj:=hC "figures_of" "figures_of" 242 243 244 [.int 14 0,.int 1 0,.int 0 0,.int 0 0,.int 3 0,.ref 47,.bool true,.int 181 0,.ref 48,.none,.ref 49,.ref 50,.ref 51,.int 246 0,.int 14 0,hT 247]
def o53:Obj:=hF "figures_of" "figures_of" "oldhands.turns" (top 10) 238 52
def o56:Obj:=hU "number_of" "number_of" (top 11)
def o57:Obj:=hC "number_of" "number_of" 249 250 251 [.int 16 0,.int 1 0,.int 0 0,.int 0 0,.int 3 0,.ref 54,.bool true,.int 181 0,.ref 55,.none,.none,.none,.ref 56,.int 252 0,.int 16 0,hT 253]
def o58:Obj:=hF "number_of" "number_of" "oldhands.turns" (top 11) 238 57
def o59 (P:Params):Obj:={ cls:=.type "dict",data:=.dict #[hE P "number" 257 (.ref 60),hE P "text" 260 (.ref 61),hE P "list" 262 (.ref 62),hE P "rows" 265 (.ref 63)] 4 }
def o60:Obj:=hS [.str ("number") 258,.str ("number") 259]
def o61:Obj:=hS [.str ("number") 261]
def o62:Obj:=hS [.str ("number") 263,.str ("kind") 264]
def o63:Obj:=hS [.str ("word") 266,.str ("number") 267,.str ("kind") 268]
def o64 (P:Params):Obj:={ cls:=.type "dict",data:=.dict #[hE P "bounds" 274 (.ref 65),hE P "scale" 277 (.ref 66),hE P "shrink" 279 (.ref 67),hE P "figures" 281 (.ref 68),hE P "number" 283 (.ref 69),hE P "cut" 286 (.ref 70),hE P "first" 288 (.ref 71),hE P "one" 290 (.ref 72),hE P "out" 292 (.ref 73),hE P "items" 293 (.ref 74)] 10 }
def o65:Obj:=hS [.str ("number") 275,.str ("number") 276]
def o66:Obj:=hS [.str ("number") 278]
def o67:Obj:=hS [.str ("number") 280]
def o68:Obj:=hS [.str ("number") 282]
def o69:Obj:=hS [.str ("number") 284,.str ("number") 285]
def o70:Obj:=hS [.str ("number") 287]
def o71:Obj:=hS [.str ("number") 289]
def o72:Obj:=hS [.str ("number") 291]
def o74:Obj:=hS [.str ("turn") 294]
def o75 (P:Params):Obj:={ cls:=.type "dict",data:=.dict #[hE P "put" 306 (.ref 76),hE P "drop" 310 (.ref 77),hE P "name" 313 (.ref 78),hE P "sink" 316 (.ref 79),hE P "lift" 319 (.ref 80),hE P "turn" 322 (.ref 81),hE P "split" 325 (.ref 82),hE P "join" 330 (.ref 83),hE P "part" 335 (.ref 84),hE P "whole" 340 (.ref 85)] 10 }
def o76:Obj:=hS [.str ("word") 307,.str ("kind") 308,.str ("value") 309]
def o77:Obj:=hS [.str ("word") 311,.str ("value") 312]
def o78:Obj:=hS [.str ("word") 314,.str ("word") 315]
def o79:Obj:=hS [.str ("word") 317,.str ("word") 318]
def o80:Obj:=hS [.str ("word") 320,.str ("word") 321]
def o81:Obj:=hS [.str ("word") 323,.str ("turn") 324]
def o82:Obj:=hS [.str ("word") 326,.str ("text") 327,.str ("word") 328,.str ("word") 329]
def o83:Obj:=hS [.str ("word") 331,.str ("word") 332,.str ("text") 333,.str ("word") 334]
def o84:Obj:=hS [.str ("word") 336,.str ("number") 337,.str ("word") 338,.str ("word") 339]
def o85:Obj:=hS [.str ("word") 341,.str ("word") 342,.str ("number") 343,.str ("word") 344,.str ("number") 345,.str ("number") 346]
def o88:Obj:=hS [.str ("sort") 361,.str ("word") 362]
def o90:Obj:=hU "parts_behind" "parts_behind" (top 16)
def o91:Obj:=hC "parts_behind" "parts_behind" 358 359 360 [.int 27 0,.int 2 0,.int 0 0,.int 0 0,.int 3 0,.ref 86,.bool true,.int 181 0,.ref 87,.none,.ref 88,.ref 89,.ref 90,.int 363 0,.int 27 0,hT 364]
def o92:Obj:=hF "parts_behind" "parts_behind" "oldhands.words" (top 16) 255 91
def o95:Obj:=hU "kind_text" "kind_text" (top 17)
def o96:Obj:=hC "kind_text" "kind_text" 366 367 368 [.int 33 0,.int 1 0,.int 0 0,.int 0 0,.int 3 0,.ref 93,.bool true,.int 181 0,.ref 94,.none,.none,.none,.ref 95,.int 369 0,.int 33 0,hT 370]
def o97:Obj:=hF "kind_text" "kind_text" "oldhands.words" (top 17) 255 96
def Bp (P:Params):Obj:=hS [.str ("word") 375,.str ("parts") 376]
def Bq (P:Params):Obj:=hS []
def Br (P:Params):Obj:=hU "most_exchanged" "most_exchanged" (top 18)
def yc (P:Params):Obj:=hC "most_exchanged" "most_exchanged" 372 373 374 [.int 40 0,.int 2 0,.int 0 0,.int 0 0,.int 3 0,.ref 98,.bool true,.int 181 0,.ref 99,.none,.ref 100,.ref 101,.ref 102,.int 377 0,.int 40 0,hT 378]
def yd (P:Params):Obj:=hF "most_exchanged" "most_exchanged" "oldhands.words" (top 18) 255 103
def Bs (P:Params):Obj:=hS []
def Bt (P:Params):Obj:=hN
def Bu (P:Params):Obj:=hU "value_text" "value_text" (top 19)
def ye (P:Params):Obj:=hC "value_text" "value_text" 380 381 382 [.int 44 0,.int 1 0,.int 0 0,.int 0 0,.int 3 0,.ref 105,.bool true,.int 181 0,.ref 106,.none,.none,.none,.ref 107,.int 383 0,.int 44 0,hT 384]
def yf (P:Params):Obj:=hF "value_text" "value_text" "oldhands.words" (top 19) 255 108
def Bv (P:Params):Obj:=hS []
def Bw (P:Params):Obj:=hN
def Bx (P:Params):Obj:=hU "turn_text" "turn_text" (top 20)
def yg (P:Params):Obj:=hC "turn_text" "turn_text" 386 387 388 [.int 56 0,.int 1 0,.int 0 0,.int 0 0,.int 3 0,.ref 110,.bool true,.int 181 0,.ref 111,.none,.none,.none,.ref 112,.int 389 0,.int 56 0,hT 390]
def yh (P:Params):Obj:=hF "turn_text" "turn_text" "oldhands.words" (top 20) 255 113
def By (P:Params):Obj:=hS []
def Bz (P:Params):Obj:=hN
def BA (P:Params):Obj:=hS [.str ("piece") 395]
def BB (P:Params):Obj:=hS []
def BC (P:Params):Obj:=hU "piece_text" "piece_text" (top 21)
def yi (P:Params):Obj:=hC "piece_text" "piece_text" 392 393 394 [.int 63 0,.int 1 0,.int 0 0,.int 0 0,.int 3 0,.ref 115,.bool true,.int 181 0,.ref 116,.none,.ref 117,.ref 118,.ref 119,.int 396 0,.int 63 0,hT 397]
def yj (P:Params):Obj:=hF "piece_text" "piece_text" "oldhands.words" (top 21) 255 120
def BE (P:Params):Obj:=hS []
def BF (P:Params):Obj:=hN
def BG (P:Params):Obj:=hU "form_text" "form_text" (top 22)
def yk (P:Params):Obj:=hC "form_text" "form_text" 399 400 401 [.int 65 0,.int 2 0,.int 0 0,.int 0 0,.int 3 0,.ref 122,.bool true,.int 181 0,.ref 123,.none,.none,.none,.ref 124,.int 402 0,.int 65 0,hT 403]
def yl (P:Params):Obj:=hF "form_text" "form_text" "oldhands.words" (top 22) 255 125
def BH (P:Params):Obj:=hS []
def BI (P:Params):Obj:=hN
def BJ (P:Params):Obj:=hS [.str ("part") 408,.str ("sort") 409]
def BK (P:Params):Obj:=hS []
def BL (P:Params):Obj:=hU "part_text" "part_text" (top 23)
def ym (P:Params):Obj:=hC "part_text" "part_text" 405 406 407 [.int 68 0,.int 2 0,.int 0 0,.int 0 0,.int 3 0,.ref 127,.bool true,.int 181 0,.ref 128,.none,.ref 129,.ref 130,.ref 131,.int 410 0,.int 68 0,hT 411]
def yn (P:Params):Obj:=hF "part_text" "part_text" "oldhands.words" (top 23) 255 132
def BM (P:Params):Obj:=hS []
def BN (P:Params):Obj:=hN
def BO (P:Params):Obj:=hS [.str ("word") 416,.str ("texts") 417,.str ("inner") 418]
def BP (P:Params):Obj:=hS []
def BQ (P:Params):Obj:=hU "in_brackets" "in_brackets" (top 24)
def yo (P:Params):Obj:=hC "in_brackets" "in_brackets" 413 414 415 [.int 76 0,.int 2 0,.int 0 0,.int 0 0,.int 3 0,.ref 134,.bool true,.int 181 0,.ref 135,.none,.ref 136,.ref 137,.ref 138,.int 419 0,.int 76 0,hT 420]
def yp (P:Params):Obj:=hF "in_brackets" "in_brackets" "oldhands.words" (top 24) 255 139
def BR (P:Params):Obj:=hS []
def BS (P:Params):Obj:=hN
def BU (P:Params):Obj:=hS [.str ("texts") 425]
def BV (P:Params):Obj:=hS []
def BW (P:Params):Obj:=hU "with_commas" "with_commas" (top 25)
def yq (P:Params):Obj:=hC "with_commas" "with_commas" 422 423 424 [.int 79 0,.int 1 0,.int 0 0,.int 0 0,.int 3 0,.ref 141,.bool true,.int 181 0,.ref 142,.none,.ref 143,.ref 144,.ref 145,.int 426 0,.int 79 0,hT 427]
def yr (P:Params):Obj:=hF "with_commas" "with_commas" "oldhands.words" (top 25) 255 146
def BX (P:Params):Obj:=hS []
def BY (P:Params):Obj:=hN
def BZ (P:Params):Obj:=hS [.str ("word") 432,.str ("text") 433]
def Ca (P:Params):Obj:=hS []
def Cb (P:Params):Obj:=hU "pair_text" "pair_text" (top 26)
def yt (P:Params):Obj:=hC "pair_text" "pair_text" 429 430 431 [.int 81 0,.int 2 0,.int 0 0,.int 0 0,.int 3 0,.ref 148,.bool true,.int 181 0,.ref 149,.none,.ref 150,.ref 151,.ref 152,.int 434 0,.int 81 0,hT 435]
def yu (P:Params):Obj:=hF "pair_text" "pair_text" "oldhands.words" (top 26) 255 153
def Cc (P:Params):Obj:=hS []
def Cd (P:Params):Obj:=hN
def Ce (P:Params):Obj:=hS [.str ("text") 440]
def Cf (P:Params):Obj:=hS []
def Cg (P:Params):Obj:=hU "quoted" "quoted" (top 27)
def yv (P:Params):Obj:=hC "quoted" "quoted" 437 438 439 [.int 83 0,.int 1 0,.int 0 0,.int 0 0,.int 3 0,.ref 155,.bool true,.int 181 0,.ref 156,.none,.ref 157,.ref 158,.ref 159,.int 441 0,.int 83 0,hT 442]
def yw (P:Params):Obj:=hF "quoted" "quoted" "oldhands.words" (top 27) 255 160
def yx (P:Params):Obj:=hS [.str ("end") 462,.str ("") 463]
def Ch (P:Params):Obj:=hS []
def Ci (P:Params):Obj:=hN
def Cj (P:Params):Obj:=hS [.str ("text") 468,.str ("found") 469,.str ("at") 470,.str ("end") 471]
def Ck (P:Params):Obj:=hS []
def Cl (P:Params):Obj:=hU "words_of" "words_of" (top 38)
def yy (P:Params):Obj:=hC "words_of" "words_of" 465 466 467 [.int 95 0,.int 1 0,.int 0 0,.int 0 0,.int 3 0,.ref 163,.bool true,.int 181 0,.ref 164,.none,.ref 165,.ref 166,.ref 167,.int 472 0,.int 95 0,hT 473]
def yz (P:Params):Obj:=hF "words_of" "words_of" "oldhands.tokens" (top 38) 444 168
def Cm (P:Params):Obj:=hS []
def Cn (P:Params):Obj:=hN
def Co (P:Params):Obj:=hS [.str ("text") 478,.str ("at") 479,.str ("close") 480]
def Cp (P:Params):Obj:=hS []
def Cq (P:Params):Obj:=hU "word_end" "word_end" (top 39)
def yA (P:Params):Obj:=hC "word_end" "word_end" 475 476 477 [.int 106 0,.int 2 0,.int 0 0,.int 0 0,.int 3 0,.ref 170,.bool true,.int 181 0,.ref 171,.none,.ref 172,.ref 173,.ref 174,.int 481 0,.int 106 0,hT 482]
def yB (P:Params):Obj:=hF "word_end" "word_end" "oldhands.tokens" (top 39) 444 175
def Cr (P:Params):Obj:=hS []
def Cs (P:Params):Obj:=hN
def Ct (P:Params):Obj:=hS [.str ("text") 487,.str ("at") 488,.str ("letters") 489,.str ("end") 490]
def Cu (P:Params):Obj:=hS []
def Cv (P:Params):Obj:=hU "run_end" "run_end" (top 40)
def yC (P:Params):Obj:=hC "run_end" "run_end" 484 485 486 [.int 117 0,.int 3 0,.int 0 0,.int 0 0,.int 3 0,.ref 177,.bool true,.int 181 0,.ref 178,.none,.ref 179,.ref 180,.ref 181,.int 491 0,.int 117 0,hT 492]
def yD (P:Params):Obj:=hF "run_end" "run_end" "oldhands.tokens" (top 40) 444 182
def Cw (P:Params):Obj:=hS []
def Cy (P:Params):Obj:=hN
def Cz (P:Params):Obj:=hU "made_word" "made_word" (top 41)
def yE (P:Params):Obj:=hC "made_word" "made_word" 494 495 496 [.int 122 0,.int 1 0,.int 0 0,.int 0 0,.int 3 0,.ref 184,.bool true,.int 181 0,.ref 185,.none,.none,.none,.ref 186,.int 497 0,.int 122 0,hT 498]
def yF (P:Params):Obj:=hF "made_word" "made_word" "oldhands.tokens" (top 41) 444 187
def CA (P:Params):Obj:=hS []
def CB (P:Params):Obj:=hN
def CC (P:Params):Obj:=hS [.str ("words") 503,.str ("deepest") 504,.str ("here") 505,.str ("sort") 506,.str ("told") 507]
def CD (P:Params):Obj:=hS []
def CF (P:Params):Obj:=hU "deepest_brackets" "deepest_brackets" (top 42)
def yG (P:Params):Obj:=hC "deepest_brackets" "deepest_brackets" 500 501 502 [.int 133 0,.int 1 0,.int 0 0,.int 0 0,.int 3 0,.ref 189,.bool true,.int 181 0,.ref 190,.none,.ref 191,.ref 192,.ref 193,.int 508 0,.int 133 0,hT 509]
def yH (P:Params):Obj:=hF "deepest_brackets" "deepest_brackets" "oldhands.tokens" (top 42) 444 194
def CG (P:Params):Obj:=hS []
def CH (P:Params):Obj:={ cls:=.type "builtin_function_or_method",data:=.fields #[.builtin "type.__prepare__",.type "type"] }
def CI (P:Params):Obj:={ cls:=.type "dict",data:=.dict #[hE P "__module__" 518 (.str ("oldhands.tokens") 444),hE P "__qualname__" 520 (.str ("WordRow") 519),hE P "__firstlineno__" 522 (.int 143 521),hE P "__init__" 530 (.ref 209),hE P "coming" 539 (.ref 216),hE P "comes" 547 (.ref 223),hE P "take" 556 (.ref 230),hE P "take_mark" 564 (.ref 237),hE P "__static_attributes__" 567 (.ref 238)] 9 }
def CJ (P:Params):Obj:=hS []
def CK (P:Params):Obj:={ cls:=.none,data:=.fields #[.int 145 0,.int 4 0,.ref 208,.int 149 0,.int 4 0,.ref 215,.int 153 0,.int 4 0,.ref 222,.int 156 0,.int 4 0,.ref 229,.int 163 0,.int 4 0,.ref 236] }
def CL (P:Params):Obj:=hC "WordRow" "WordRow" 513 514 515 [.int 143 0,.int 0 0,.int 0 0,.int 0 0,.int 0 0,.ref 199,.bool false,.int 181 0,.ref 200,.none,.none,.none,.none,.int 516 0,.int 143 0,hT 517]
def CM (P:Params):Obj:={ cls:=.type "frame",slots:=#[some (.ref 201),some (.ref 3),some (.ref 198),none,some (.str ("oldhands.tokens") 444),none,some (.ref 0)] }
def CN (P:Params):Obj:=hS []
def CO (P:Params):Obj:=hN
def CP (P:Params):Obj:=hS [.str ("self") 526,.str ("text") 527]
def CQ (P:Params):Obj:=hS []
def CS (P:Params):Obj:=hU "__init__" "WordRow.__init__" (bu (top 43) 0)
def yI (P:Params):Obj:=hC "__init__" "WordRow.__init__" 523 524 525 [.int 145 0,.int 2 0,.int 0 0,.int 0 0,.int 3 0,.ref 203,.bool true,.int 181 0,.ref 204,.none,.ref 205,.ref 206,.ref 207,.int 528 0,.int 145 0,hT 529]
def yJ (P:Params):Obj:=hF "__init__" "WordRow.__init__" "oldhands.tokens" (bu (top 43) 0) 444 208
def CT (P:Params):Obj:=hS []
def CU (P:Params):Obj:=hN
def CV (P:Params):Obj:=hS [.str ("self") 534,.str ("ahead") 535,.str ("at") 536]
def CW (P:Params):Obj:=hS []
def CY (P:Params):Obj:=hU "coming" "WordRow.coming" (bu (top 43) 1)
def yK (P:Params):Obj:=hC "coming" "WordRow.coming" 531 532 533 [.int 149 0,.int 2 0,.int 0 0,.int 0 0,.int 3 0,.ref 210,.bool true,.int 181 0,.ref 211,.none,.ref 212,.ref 213,.ref 214,.int 537 0,.int 149 0,hT 538]
def yL (P:Params):Obj:=hF "coming" "WordRow.coming" "oldhands.tokens" (bu (top 43) 1) 444 215
def CZ (P:Params):Obj:=hS []
def C0 (P:Params):Obj:=hN
def C1 (P:Params):Obj:=hS [.str ("self") 543,.str ("mark") 544]
def C2 (P:Params):Obj:=hS []
def C3 (P:Params):Obj:=hU "comes" "WordRow.comes" (bu (top 43) 2)
def yM (P:Params):Obj:=hC "comes" "WordRow.comes" 540 541 542 [.int 153 0,.int 2 0,.int 0 0,.int 0 0,.int 3 0,.ref 217,.bool true,.int 181 0,.ref 218,.none,.ref 219,.ref 220,.ref 221,.int 545 0,.int 153 0,hT 546]
def yN (P:Params):Obj:=hF "comes" "WordRow.comes" "oldhands.tokens" (bu (top 43) 2) 444 222
def C4 (P:Params):Obj:=hS []
def C5 (P:Params):Obj:=hN
def C6 (P:Params):Obj:=hS [.str ("self") 551,.str ("sort") 552,.str ("found") 553]
def C7 (P:Params):Obj:=hS []
def C8 (P:Params):Obj:=hU "take" "WordRow.take" (bu (top 43) 3)
def yO (P:Params):Obj:=hC "take" "WordRow.take" 548 549 550 [.int 156 0,.int 2 0,.int 0 0,.int 0 0,.int 3 0,.ref 224,.bool true,.int 181 0,.ref 225,.none,.ref 226,.ref 227,.ref 228,.int 554 0,.int 156 0,hT 555]
def yP (P:Params):Obj:=hF "take" "WordRow.take" "oldhands.tokens" (bu (top 43) 3) 444 229
def C9 (P:Params):Obj:=hS []
def Da (P:Params):Obj:=hN
def Db (P:Params):Obj:=hS [.str ("self") 560,.str ("mark") 561]
def Dc (P:Params):Obj:=hS []
def Dd (P:Params):Obj:=hU "take_mark" "WordRow.take_mark" (bu (top 43) 4)
def yQ (P:Params):Obj:=hC "take_mark" "WordRow.take_mark" 557 558 559 [.int 163 0,.int 2 0,.int 0 0,.int 0 0,.int 3 0,.ref 231,.bool true,.int 181 0,.ref 232,.none,.ref 233,.ref 234,.ref 235,.int 562 0,.int 163 0,hT 563]
def yR (P:Params):Obj:=hF "take_mark" "WordRow.take_mark" "oldhands.tokens" (bu (top 43) 4) 444 236
def yS (P:Params):Obj:=hS [.str ("all_words") 565,.str ("place") 566]
def yT (P:Params):Obj:={ cls:=.type "dict",data:=.dict #[hE P "__module__" 518 (.str ("oldhands.tokens") 444),hE P "__firstlineno__" 522 (.int 143 521),hE P "__init__" 530 (.ref 209),hE P "coming" 539 (.ref 216),hE P "comes" 547 (.ref 223),hE P "take" 556 (.ref 230),hE P "take_mark" 564 (.ref 237),hE P "__static_attributes__" 567 (.ref 238),hE P "__dict__" 569 (.ref 241),hE P "__weakref__" 571 (.ref 242),hE P "__doc__" 572 (.none)] 4 }
def yU (P:Params):Obj:={ cls:=.type "type",data:=.cls { name:= "WordRow",bases:=[.type "object"],mro:=[.ref 240,.type "object"],ns:=239,qualname:= "WordRow" },slots:=#[none,none,some (.str ("WordRow") 511),some (.str ("WordRow") 519),some (.builtin "object.__new__"),some (.bool true)] }
def yV (P:Params):Obj:={ cls:=.type "getset_descriptor",data:=.fields #[.str ("__dict__") 568,.ref 240,.builtin "function.__dict__",.builtin "function.__dict__#set"] }
def yW (P:Params):Obj:={ cls:=.type "getset_descriptor",data:=.fields #[.str ("__weakref__") 570,.ref 240,.builtin "ExceptionGroup.__weakref__",.none] }
def De (P:Params):Obj:={ cls:=.type "super",data:=.fields #[.ref 240,.ref 240,.ref 240] }
def Dg (P:Params):Obj:={ cls:=.type "builtin_function_or_method",data:=.fields #[.builtin "object.__init_subclass__",.ref 240] }
def yX (P:Params):Obj:={ cls:=.type "dict",data:=.dict #[hE P "field" 577 (.str ("kind") 578),hE P "entry" 579 (.str ("value") 580),hE P "way" 581 (.str ("word") 582)] 3 }
def yY (P:Params):Obj:=hS [.str ("[") 587,.str ("list") 588,.str ("value") 589,.str ("]") 590]
def yZ (P:Params):Obj:=hS [.str ("{") 591,.str ("record") 592,.str ("entry") 593,.str ("}") 594]
def y3 (P:Params):Obj:=hS [.str ("(") 595,.str ("rows") 596,.str ("value") 597,.str (")") 598]
def y4 (P:Params):Obj:=hS [.ref 246,.ref 247,.ref 248]
def Dh (P:Params):Obj:=hS []
def Di (P:Params):Obj:=hN
def Dj (P:Params):Obj:=hS [.str ("text") 603]
def Dk (P:Params):Obj:=hS []
def Dl (P:Params):Obj:=hU "read_turn" "read_turn" (top 47)
def y9 (P:Params):Obj:=hC "read_turn" "read_turn" 600 601 602 [.int 170 0,.int 1 0,.int 0 0,.int 0 0,.int 3 0,.ref 250,.bool true,.int 181 0,.ref 251,.none,.ref 252,.ref 253,.ref 254,.int 604 0,.int 170 0,hT 605]
def za (P:Params):Obj:=hF "read_turn" "read_turn" "oldhands.texts" (top 47) 575 255
def Dm (P:Params):Obj:=hS []
def Dn (P:Params):Obj:=hN
def Do (P:Params):Obj:=hS [.str ("text") 610]
def Dq (P:Params):Obj:=hS []
def Ds (P:Params):Obj:=hU "read_piece" "read_piece" (top 48)
def zb (P:Params):Obj:=hC "read_piece" "read_piece" 607 608 609 [.int 172 0,.int 1 0,.int 0 0,.int 0 0,.int 3 0,.ref 257,.bool true,.int 181 0,.ref 258,.none,.ref 259,.ref 260,.ref 261,.int 611 0,.int 172 0,hT 612]
def zc (P:Params):Obj:=hF "read_piece" "read_piece" "oldhands.texts" (top 48) 575 262
def Du (P:Params):Obj:=hS []
def Dv (P:Params):Obj:=hN
def Dx (P:Params):Obj:=hS [.str ("text") 617,.str ("sort") 618,.str ("row") 619,.str ("told") 620]
def Dy (P:Params):Obj:=hS []
def Dz (P:Params):Obj:=hU "read_all" "read_all" (top 49)
def zd (P:Params):Obj:=hC "read_all" "read_all" 614 615 616 [.int 174 0,.int 2 0,.int 0 0,.int 0 0,.int 3 0,.ref 264,.bool true,.int 181 0,.ref 265,.none,.ref 266,.ref 267,.ref 268,.int 621 0,.int 174 0,hT 622]
def ze (P:Params):Obj:=hF "read_all" "read_all" "oldhands.texts" (top 49) 575 269
def DA (P:Params):Obj:=hS []
def DB (P:Params):Obj:=hN
def DC (P:Params):Obj:=hS [.str ("row") 627,.str ("sort") 628,.str ("path") 629]
def DD (P:Params):Obj:=hS []
def DE (P:Params):Obj:=hU "part_read" "part_read" (top 50)
def zf (P:Params):Obj:=hC "part_read" "part_read" 624 625 626 [.int 180 0,.int 2 0,.int 0 0,.int 0 0,.int 3 0,.ref 271,.bool true,.int 181 0,.ref 272,.none,.ref 273,.ref 274,.ref 275,.int 630 0,.int 180 0,hT 631]
def zg (P:Params):Obj:=hF "part_read" "part_read" "oldhands.texts" (top 50) 575 276
def DF (P:Params):Obj:=hS []
def DG (P:Params):Obj:=hN
def DH (P:Params):Obj:=hS [.str ("row") 636,.str ("sort") 637,.str ("word") 638]
def DI (P:Params):Obj:=hS []
def DJ (P:Params):Obj:=hU "pair_read" "pair_read" (top 51)
def zh (P:Params):Obj:=hC "pair_read" "pair_read" 633 634 635 [.int 197 0,.int 2 0,.int 0 0,.int 0 0,.int 3 0,.ref 278,.bool true,.int 181 0,.ref 279,.none,.ref 280,.ref 281,.ref 282,.int 639 0,.int 197 0,hT 640]
def zi (P:Params):Obj:=hF "pair_read" "pair_read" "oldhands.texts" (top 51) 575 283
def DK (P:Params):Obj:=hS []
def DL (P:Params):Obj:=hN
def DM (P:Params):Obj:=hS [.str ("row") 645,.str ("word") 646,.str ("found") 647]
def DN (P:Params):Obj:=hS []
def DO (P:Params):Obj:=hU "kind_read" "kind_read" (top 52)
def zj (P:Params):Obj:=hC "kind_read" "kind_read" 642 643 644 [.int 201 0,.int 1 0,.int 0 0,.int 0 0,.int 3 0,.ref 285,.bool true,.int 181 0,.ref 286,.none,.ref 287,.ref 288,.ref 289,.int 648 0,.int 201 0,hT 649]
def zk (P:Params):Obj:=hF "kind_read" "kind_read" "oldhands.texts" (top 52) 575 290
def DP (P:Params):Obj:=hS []
def DQ (P:Params):Obj:=hN
def DR (P:Params):Obj:=hS [.str ("row") 654,.str ("opening") 655,.str ("word") 656,.str ("sort") 657,.str ("closing") 658]
def DS (P:Params):Obj:=hS []
def DT (P:Params):Obj:=hU "value_read" "value_read" (top 53)
def zm (P:Params):Obj:=hC "value_read" "value_read" 651 652 653 [.int 211 0,.int 1 0,.int 0 0,.int 0 0,.int 3 0,.ref 292,.bool true,.int 181 0,.ref 293,.none,.ref 294,.ref 295,.ref 296,.int 659 0,.int 211 0,hT 660]
def zn (P:Params):Obj:=hF "value_read" "value_read" "oldhands.texts" (top 53) 575 297
def DU (P:Params):Obj:=hS []
def DV (P:Params):Obj:=hN
def DW (P:Params):Obj:=hS [.str ("row") 665,.str ("word") 666,.str ("forth") 667]
def DX (P:Params):Obj:=hS []
def DY (P:Params):Obj:=hU "turn_read" "turn_read" (top 54)
def zo (P:Params):Obj:=hC "turn_read" "turn_read" 662 663 664 [.int 219 0,.int 1 0,.int 0 0,.int 0 0,.int 3 0,.ref 299,.bool true,.int 181 0,.ref 300,.none,.ref 301,.ref 302,.ref 303,.int 668 0,.int 219 0,hT 669]
def zp (P:Params):Obj:=hF "turn_read" "turn_read" "oldhands.texts" (top 54) 575 304
def DZ (P:Params):Obj:=hS []
def D0 (P:Params):Obj:=hN
def D5 (P:Params):Obj:=hS [.str ("row") 674,.str ("names") 675]
def D6 (P:Params):Obj:=hS []
def D7 (P:Params):Obj:=hU "path_read" "path_read" (top 55)
def zq (P:Params):Obj:=hC "path_read" "path_read" 671 672 673 [.int 226 0,.int 1 0,.int 0 0,.int 0 0,.int 3 0,.ref 306,.bool true,.int 181 0,.ref 307,.none,.ref 308,.ref 309,.ref 310,.int 676 0,.int 226 0,hT 677]
def zr (P:Params):Obj:=hF "path_read" "path_read" "oldhands.texts" (top 55) 575 311
def D8 (P:Params):Obj:=hS []
def D9 (P:Params):Obj:=hN
def Ea (P:Params):Obj:=hS [.str ("row") 682,.str ("sort") 683,.str ("word") 684,.str ("form") 685,.str ("found") 686,.str ("part_sort") 687]
def Eb (P:Params):Obj:=hS []
def Ec (P:Params):Obj:=hU "form_read" "form_read" (top 56)
def zt (P:Params):Obj:=hC "form_read" "form_read" 679 680 681 [.int 235 0,.int 3 0,.int 0 0,.int 0 0,.int 3 0,.ref 313,.bool true,.int 181 0,.ref 314,.none,.ref 315,.ref 316,.ref 317,.int 688 0,.int 235 0,hT 689]
def zu (P:Params):Obj:=hF "form_read" "form_read" "oldhands.texts" (top 56) 575 318
def Ed (P:Params):Obj:=hS []
def Ee (P:Params):Obj:=hN
def Ef (P:Params):Obj:=hS [.str ("row") 694,.str ("sort") 695,.str ("closing") 696,.str ("found") 697]
def Eg (P:Params):Obj:=hS []
def Eh (P:Params):Obj:=hU "list_read" "list_read" (top 57)
def zw (P:Params):Obj:=hC "list_read" "list_read" 691 692 693 [.int 247 0,.int 3 0,.int 0 0,.int 0 0,.int 3 0,.ref 320,.bool true,.int 181 0,.ref 321,.none,.ref 322,.ref 323,.ref 324,.int 698 0,.int 247 0,hT 699]
def zx (P:Params):Obj:=hF "list_read" "list_read" "oldhands.texts" (top 57) 575 325
def Ei (P:Params):Obj:=hS []
def Ej (P:Params):Obj:=hN
def Ek (P:Params):Obj:=hS [.str ("parts") 704]
def El (P:Params):Obj:=hS []
def Em (P:Params):Obj:=hU "at_least_one" "at_least_one" (top 58)
def zy (P:Params):Obj:=hC "at_least_one" "at_least_one" 701 702 703 [.int 255 0,.int 1 0,.int 0 0,.int 0 0,.int 3 0,.ref 327,.bool true,.int 181 0,.ref 328,.none,.ref 329,.ref 330,.ref 331,.int 705 0,.int 255 0,hT 706]
def zA (P:Params):Obj:=hF "at_least_one" "at_least_one" "oldhands.texts" (top 58) 575 332
def En (P:Params):Obj:=hS []
def Eo (P:Params):Obj:=hN
def Ep (P:Params):Obj:=hS [.str ("script") 713,.str ("k") 714]
def Er (P:Params):Obj:=hS []
def Es (P:Params):Obj:=hU "_law_cell_at" "_law_cell_at" (top 60)
def zB (P:Params):Obj:=hC "_law_cell_at" "_law_cell_at" 710 711 712 [.int 260 0,.int 2 0,.int 0 0,.int 0 0,.int 3 0,.ref 334,.bool true,.int 181 0,.ref 335,.none,.ref 336,.ref 337,.ref 338,.int 715 0,.int 260 0,hT 716]
def zC (P:Params):Obj:=hF "_law_cell_at" "_law_cell_at" "law_oldhands_k87_turns_and_pieces_in_words" (top 60) 708 339
def Et (P:Params):Obj:=hS []
def Eu (P:Params):Obj:=hN
def Ev (P:Params):Obj:=hS [.str ("cell") 721,.str ("k") 722,.str ("stir") 723]
def Ew (P:Params):Obj:=hS []
def Ex (P:Params):Obj:=hU "_law_mixed" "_law_mixed" (top 61)
def zD (P:Params):Obj:=hC "_law_mixed" "_law_mixed" 718 719 720 [.int 264 0,.int 2 0,.int 0 0,.int 0 0,.int 3 0,.ref 341,.bool true,.int 181 0,.ref 342,.none,.ref 343,.ref 344,.ref 345,.int 724 0,.int 264 0,hT 725]
def zE (P:Params):Obj:=hF "_law_mixed" "_law_mixed" "law_oldhands_k87_turns_and_pieces_in_words" (top 61) 708 346
def Ey (P:Params):Obj:=hS []
def Ez (P:Params):Obj:=hN
def EA (P:Params):Obj:=hS [.str ("script") 730,.str ("k") 731,.str ("turn") 732,.str ("cell") 733,.str ("found") 734,.str ("j") 735]
def EB (P:Params):Obj:=hS []
def EC (P:Params):Obj:=hU "_law_own" "_law_own" (top 62)
def zF (P:Params):Obj:=hC "_law_own" "_law_own" 727 728 729 [.int 267 0,.int 3 0,.int 0 0,.int 0 0,.int 3 0,.ref 348,.bool true,.int 181 0,.ref 349,.none,.ref 350,.ref 351,.ref 352,.int 736 0,.int 267 0,hT 737]
def zG (P:Params):Obj:=hF "_law_own" "_law_own" "law_oldhands_k87_turns_and_pieces_in_words" (top 62) 708 353
def ED (P:Params):Obj:=hS []
def EE (P:Params):Obj:=hN
def EF (P:Params):Obj:=hS [.str ("row") 742,.str ("many") 743,.str ("digit") 744]
def EG (P:Params):Obj:=hS []
def EH (P:Params):Obj:=hU "_law_digit" "_law_digit" (top 63)
def zH (P:Params):Obj:=hC "_law_digit" "_law_digit" 739 740 741 [.int 275 0,.int 2 0,.int 0 0,.int 0 0,.int 3 0,.ref 355,.bool true,.int 181 0,.ref 356,.none,.ref 357,.ref 358,.ref 359,.int 745 0,.int 275 0,hT 746]
def zI (P:Params):Obj:=hF "_law_digit" "_law_digit" "law_oldhands_k87_turns_and_pieces_in_words" (top 63) 708 360
def EI (P:Params):Obj:=hS []
def EJ (P:Params):Obj:=hN
def EK (P:Params):Obj:=hU "_law_names" "_law_names" (top 64)
def zJ (P:Params):Obj:=hC "_law_names" "_law_names" 748 749 750 [.int 279 0,.int 2 0,.int 0 0,.int 0 0,.int 3 0,.ref 362,.bool true,.int 181 0,.ref 363,.none,.none,.none,.ref 364,.int 751 0,.int 279 0,hT 752]
def zK (P:Params):Obj:=hF "_law_names" "_law_names" "law_oldhands_k87_turns_and_pieces_in_words" (top 64) 708 365
def EL (P:Params):Obj:=hS []
def EM (P:Params):Obj:=hN
def EN (P:Params):Obj:=hS [.str ("row") 757,.str ("low") 758,.str ("high") 759]
def EO (P:Params):Obj:=hS []
def EQ (P:Params):Obj:=hU "_law_number_kind" "_law_number_kind" (top 65)
def zL (P:Params):Obj:=hC "_law_number_kind" "_law_number_kind" 754 755 756 [.int 289 0,.int 1 0,.int 0 0,.int 0 0,.int 3 0,.ref 367,.bool true,.int 181 0,.ref 368,.none,.ref 369,.ref 370,.ref 371,.int 760 0,.int 289 0,hT 761]
def zM (P:Params):Obj:=hF "_law_number_kind" "_law_number_kind" "law_oldhands_k87_turns_and_pieces_in_words" (top 65) 708 372
def ER (P:Params):Obj:=hS []
def ES (P:Params):Obj:=hN
def ET (P:Params):Obj:=hS [.str ("row") 766,.str ("way") 767,.str ("words") 768]
def EU (P:Params):Obj:=hS []
def EV (P:Params):Obj:=hU "_law_leaf_kind" "_law_leaf_kind" (top 66)
def zN (P:Params):Obj:=hC "_law_leaf_kind" "_law_leaf_kind" 763 764 765 [.int 293 0,.int 1 0,.int 0 0,.int 0 0,.int 3 0,.ref 374,.bool true,.int 181 0,.ref 375,.none,.ref 376,.ref 377,.ref 378,.int 769 0,.int 293 0,hT 770]
def zO (P:Params):Obj:=hF "_law_leaf_kind" "_law_leaf_kind" "law_oldhands_k87_turns_and_pieces_in_words" (top 66) 708 379
def EW (P:Params):Obj:=hS []
def EX (P:Params):Obj:=hN
def EY (P:Params):Obj:=hS [.str ("row") 775,.str ("deep") 776,.str ("room") 777,.str ("many") 778,.str ("fields") 779,.str ("name") 780]
def EZ (P:Params):Obj:=hS []
def E1 (P:Params):Obj:=hU "_law_record_kind" "_law_record_kind" (top 67)
def zP (P:Params):Obj:=hC "_law_record_kind" "_law_record_kind" 772 773 774 [.int 303 0,.int 3 0,.int 0 0,.int 0 0,.int 3 0,.ref 381,.bool true,.int 181 0,.ref 382,.none,.ref 383,.ref 384,.ref 385,.int 781 0,.int 303 0,hT 782]
def zQ (P:Params):Obj:=hF "_law_record_kind" "_law_record_kind" "law_oldhands_k87_turns_and_pieces_in_words" (top 67) 708 386
def E3 (P:Params):Obj:=hS []
def E4 (P:Params):Obj:=hN
def E5 (P:Params):Obj:=hS [.str ("row") 787,.str ("deep") 788,.str ("room") 789,.str ("names") 790,.str ("key") 791,.str ("fields") 792,.str ("name") 793,.str ("inner") 794]
def E6 (P:Params):Obj:=hS []
def E7 (P:Params):Obj:=hU "_law_rows_kind" "_law_rows_kind" (top 68)
def zR (P:Params):Obj:=hC "_law_rows_kind" "_law_rows_kind" 784 785 786 [.int 309 0,.int 3 0,.int 0 0,.int 0 0,.int 3 0,.ref 388,.bool true,.int 181 0,.ref 389,.none,.ref 390,.ref 391,.ref 392,.int 795 0,.int 309 0,hT 796]
def zS (P:Params):Obj:=hF "_law_rows_kind" "_law_rows_kind" "law_oldhands_k87_turns_and_pieces_in_words" (top 68) 708 393
def E8 (P:Params):Obj:=hS []
def E9 (P:Params):Obj:=hN
def Fa (P:Params):Obj:=hS [.str ("row") 801,.str ("deep") 802,.str ("room") 803,.str ("way") 804]
def Fb (P:Params):Obj:=hS []
def Fc (P:Params):Obj:=hU "_law_kind" "_law_kind" (top 69)
def zT (P:Params):Obj:=hC "_law_kind" "_law_kind" 798 799 800 [.int 321 0,.int 3 0,.int 0 0,.int 0 0,.int 3 0,.ref 395,.bool true,.int 181 0,.ref 396,.none,.ref 397,.ref 398,.ref 399,.int 805 0,.int 321 0,hT 806]
def zU (P:Params):Obj:=hF "_law_kind" "_law_kind" "law_oldhands_k87_turns_and_pieces_in_words" (top 69) 708 400
def Fd (P:Params):Obj:=hS []
def Fe (P:Params):Obj:=hN
def Ff (P:Params):Obj:=hU "_law_text" "_law_text" (top 70)
def zV (P:Params):Obj:=hC "_law_text" "_law_text" 808 809 810 [.int 331 0,.int 2 0,.int 0 0,.int 0 0,.int 3 0,.ref 402,.bool true,.int 181 0,.ref 403,.none,.none,.none,.ref 404,.int 811 0,.int 331 0,hT 812]
def zW (P:Params):Obj:=hF "_law_text" "_law_text" "law_oldhands_k87_turns_and_pieces_in_words" (top 70) 708 405
def Fg (P:Params):Obj:=hS []
def Fh (P:Params):Obj:=hN
def Fi (P:Params):Obj:=hS [.str ("kind") 817,.str ("word") 818,.str ("words") 819,.str ("name") 820,.str ("inner") 821,.str ("number") 822]
def Fj (P:Params):Obj:=hS []
def Fk (P:Params):Obj:=hU "_law_kind_words" "_law_kind_words" (top 71)
def zX (P:Params):Obj:=hC "_law_kind_words" "_law_kind_words" 814 815 816 [.int 334 0,.int 1 0,.int 0 0,.int 0 0,.int 3 0,.ref 407,.bool true,.int 181 0,.ref 408,.none,.ref 409,.ref 410,.ref 411,.int 823 0,.int 334 0,hT 824]
def zY (P:Params):Obj:=hF "_law_kind_words" "_law_kind_words" "law_oldhands_k87_turns_and_pieces_in_words" (top 71) 708 412
def Fl (P:Params):Obj:=hS []
def Fm (P:Params):Obj:=hN
def Fn (P:Params):Obj:=hS [.str ("value") 829,.str ("words") 830,.str ("part") 831,.str ("marks") 832]
def Fo (P:Params):Obj:=hS []
def Fp (P:Params):Obj:=hU "_law_value_words" "_law_value_words" (top 72)
def zZ (P:Params):Obj:=hC "_law_value_words" "_law_value_words" 826 827 828 [.int 353 0,.int 1 0,.int 0 0,.int 0 0,.int 3 0,.ref 414,.bool true,.int 181 0,.ref 415,.none,.ref 416,.ref 417,.ref 418,.int 833 0,.int 353 0,hT 834]
def z6 (P:Params):Obj:=hF "_law_value_words" "_law_value_words" "law_oldhands_k87_turns_and_pieces_in_words" (top 72) 708 419
def Fq (P:Params):Obj:=hS []
def Fr (P:Params):Obj:=hN
def Fs (P:Params):Obj:=hS [.str ("turn") 839,.str ("words") 840,.str ("name") 841,.str ("one") 842,.str ("other") 843,.str ("number") 844]
def Ft (P:Params):Obj:=hS []
def Fu (P:Params):Obj:=hU "_law_turn_words" "_law_turn_words" (top 73)
def z7 (P:Params):Obj:=hC "_law_turn_words" "_law_turn_words" 836 837 838 [.int 366 0,.int 1 0,.int 0 0,.int 0 0,.int 3 0,.ref 421,.bool true,.int 181 0,.ref 422,.none,.ref 423,.ref 424,.ref 425,.int 845 0,.int 366 0,hT 846]
def z8 (P:Params):Obj:=hF "_law_turn_words" "_law_turn_words" "law_oldhands_k87_turns_and_pieces_in_words" (top 73) 708 426
def Fv (P:Params):Obj:=hS []
def Fw (P:Params):Obj:=hN
def Fx (P:Params):Obj:=hS [.str ("piece") 851,.str ("words") 852,.str ("k") 853,.str ("part") 854]
def Fy (P:Params):Obj:=hS []
def Fz (P:Params):Obj:=hU "_law_piece_words" "_law_piece_words" (top 74)
def z9 (P:Params):Obj:=hC "_law_piece_words" "_law_piece_words" 848 849 850 [.int 382 0,.int 1 0,.int 0 0,.int 0 0,.int 3 0,.ref 428,.bool true,.int 181 0,.ref 429,.none,.ref 430,.ref 431,.ref 432,.int 855 0,.int 382 0,hT 856]
def Aa (P:Params):Obj:=hF "_law_piece_words" "_law_piece_words" "law_oldhands_k87_turns_and_pieces_in_words" (top 74) 708 433
def FA (P:Params):Obj:=hS []
def FC (P:Params):Obj:=hN
def FD (P:Params):Obj:=hU "_law_tight" "_law_tight" (top 75)
def Ab (P:Params):Obj:=hC "_law_tight" "_law_tight" 858 859 860 [.int 398 0,.int 1 0,.int 0 0,.int 0 0,.int 3 0,.ref 435,.bool true,.int 181 0,.ref 436,.none,.none,.none,.ref 437,.int 861 0,.int 398 0,hT 862]
def Ac (P:Params):Obj:=hF "_law_tight" "_law_tight" "law_oldhands_k87_turns_and_pieces_in_words" (top 75) 708 438
def FE (P:Params):Obj:=hS []
def FF (P:Params):Obj:=hN
def FG (P:Params):Obj:=hU "_law_loose" "_law_loose" (top 76)
def Ad (P:Params):Obj:=hC "_law_loose" "_law_loose" 864 865 866 [.int 400 0,.int 2 0,.int 0 0,.int 0 0,.int 3 0,.ref 440,.bool true,.int 181 0,.ref 441,.none,.none,.none,.ref 442,.int 867 0,.int 400 0,hT 868]
def Ae (P:Params):Obj:=hF "_law_loose" "_law_loose" "law_oldhands_k87_turns_and_pieces_in_words" (top 76) 708 443
def FH (P:Params):Obj:=hS []
def FI (P:Params):Obj:=hN
def FJ (P:Params):Obj:=hU "_law_word" "_law_word" (top 77)
def Af (P:Params):Obj:=hC "_law_word" "_law_word" 870 871 872 [.int 402 0,.int 1 0,.int 0 0,.int 0 0,.int 3 0,.ref 445,.bool true,.int 181 0,.ref 446,.none,.none,.none,.ref 447,.int 873 0,.int 402 0,hT 874]
def Ag (P:Params):Obj:=hF "_law_word" "_law_word" "law_oldhands_k87_turns_and_pieces_in_words" (top 77) 708 448
def FL (P:Params):Obj:=hS []
def FM (P:Params):Obj:=hN
def FN (P:Params):Obj:=hS [.str ("row") 879]
def FO (P:Params):Obj:=hS []
def FP (P:Params):Obj:=hU "_law_any_number" "_law_any_number" (top 78)
def Ah (P:Params):Obj:=hC "_law_any_number" "_law_any_number" 876 877 878 [.int 407 0,.int 1 0,.int 0 0,.int 0 0,.int 3 0,.ref 450,.bool true,.int 181 0,.ref 451,.none,.ref 452,.ref 453,.ref 454,.int 880 0,.int 407 0,hT 881]
def Ai (P:Params):Obj:=hF "_law_any_number" "_law_any_number" "law_oldhands_k87_turns_and_pieces_in_words" (top 78) 708 455
def FQ (P:Params):Obj:=hS []
def FR (P:Params):Obj:=hN
def FS (P:Params):Obj:=hU "_law_any_value" "_law_any_value" (top 79)
def Aj (P:Params):Obj:=hC "_law_any_value" "_law_any_value" 883 884 885 [.int 411 0,.int 2 0,.int 0 0,.int 0 0,.int 3 0,.ref 457,.bool true,.int 181 0,.ref 458,.none,.none,.none,.ref 459,.int 886 0,.int 411 0,hT 887]
def Ak (P:Params):Obj:=hF "_law_any_value" "_law_any_value" "law_oldhands_k87_turns_and_pieces_in_words" (top 79) 708 460
def FT (P:Params):Obj:=hS []
def FU (P:Params):Obj:=hN
def FV (P:Params):Obj:=hU "_law_any_turn" "_law_any_turn" (top 80)
def Al (P:Params):Obj:=hC "_law_any_turn" "_law_any_turn" 889 890 891 [.int 419 0,.int 2 0,.int 0 0,.int 0 0,.int 3 0,.ref 462,.bool true,.int 181 0,.ref 463,.none,.none,.none,.ref 464,.int 892 0,.int 419 0,hT 893]
def Am (P:Params):Obj:=hF "_law_any_turn" "_law_any_turn" "law_oldhands_k87_turns_and_pieces_in_words" (top 80) 708 465
def FW (P:Params):Obj:=hS []
def FX (P:Params):Obj:=hN
def FY (P:Params):Obj:=hS [.str ("row") 898,.str ("way") 899,.str ("one") 900,.str ("two") 901,.str ("three") 902,.str ("four") 903]
def FZ (P:Params):Obj:=hS []
def F3 (P:Params):Obj:=hU "_law_any_piece" "_law_any_piece" (top 81)
def An (P:Params):Obj:=hC "_law_any_piece" "_law_any_piece" 895 896 897 [.int 431 0,.int 1 0,.int 0 0,.int 0 0,.int 3 0,.ref 467,.bool true,.int 181 0,.ref 468,.none,.ref 469,.ref 470,.ref 471,.int 904 0,.int 431 0,hT 905]
def Ao (P:Params):Obj:=hF "_law_any_piece" "_law_any_piece" "law_oldhands_k87_turns_and_pieces_in_words" (top 81) 708 472
def F4 (P:Params):Obj:=hS []
def F5 (P:Params):Obj:=hN
def F6 (P:Params):Obj:=hS [.str ("script") 910,.str ("k") 911,.str ("again") 912,.str ("row") 913,.str ("turn") 914,.str ("words") 915,.str ("text") 916,.str ("piece") 917]
def F7 (P:Params):Obj:=hS []
def F8 (P:Params):Obj:=hU "law" "law" (top 82)
def Ap (P:Params):Obj:=hC "law" "law" 907 908 909 [.int 449 0,.int 1 0,.int 0 0,.int 0 0,.int 3 0,.ref 474,.bool true,.int 181 0,.ref 475,.none,.ref 476,.ref 477,.ref 478,.int 918 0,.int 449 0,hT 919]
def Aq (P:Params):Obj:=hF "law" "law" "law_oldhands_k87_turns_and_pieces_in_words" (top 82) 708 479
abbrev N (v:Obj) (l r:W.BT):W.BT:=.node v l r
abbrev E:W.BT:=.nil
def fT (P:Params):W.BT:=N (o0 P) (N (o1 P) (N (o3 P) (N (o7 P) (N o15 (N o11 (N o63 (N (BH P) (N (y9 P) E E) (N (EY P) E E)) (N (CC P) (N (zu P) E E) (N (FJ P) E E))) (N o95 (N (Cg P) (N (DM P) E E) (N (Fm P) E E)) (N (yN P) (N (EB P) E E) (N (Ap P) E E)))) (N o11 (N o79 (N (BU P) (N (DA P) E E) (N (Fc P) E E)) (N (CS P) (N (Eo P) E E) (N (FU P) E E))) (N (Bw P) (N (yA P) (N (DY P) E E) (N (Fy P) E E)) (N (yT P) (N (EL P) E E) E)))) (N (o23 P) (N o39 (N o71 (N (BN P) (N (zc P) E E) (N (E6 P) E E)) (N (CJ P) (N (Ei P) E E) (N (Ah P) E E))) (N (yc P) (N (Cl P) (N (DS P) E E) (N (Fs P) E E)) (N (C9 P) (N (EH P) E E) E))) (N o19 (N o19 (N (Ca P) (N (DG P) E E) (N (Fg P) E E)) (N (yK P) (N (Ev P) E E) (N (F3 P) E E))) (N (BC P) (N (yD P) (N (zq P) E E) (N (Ac P) E E)) (N (yZ P) (N (ES P) E E) E))))) (N o11 (N o19 (N o11 (N o67 (N (BL P) (N (Do P) E E) (N (zQ P) E E)) (N (yH P) (N (Eg P) E E) (N (FM P) E E))) (N o19 (N (Ch P) (N (zk P) E E) (N (zZ P) E E)) (N (C7 P) (N (ED P) E E) E))) (N o51 (N o83 (N (yr P) (N (DE P) E E) (N (Fe P) E E)) (N (CU P) (N (zB P) E E) (N (FW P) E E))) (N (By P) (N (Ct P) (N (D0 P) E E) (N (FA P) E E)) (N (De P) (N (EQ P) E E) E)))) (N o27 (N o11 (N (o75 P) (N (yo P) (N (Dy P) E E) (N (E8 P) E E)) (N (CN P) (N (Em P) E E) (N (FS P) E E))) (N (Bu P) (N (Cn P) (N (DU P) E E) (N (z8 P) E E)) (N (Dd P) (N (EJ P) E E) E))) (N (o59 P) (N o91 (N (Cc P) (N (zh P) E E) (N (Fk P) E E)) (N (C1 P) (N (zE P) E E) (N (F5 P) E E))) (N (BF P) (N (yE P) (N (Ea P) E E) (N (Ad P) E E)) (N (Di P) (N (zN P) E E) E)))))) (N (o5 P) (N (o9 P) (N (o17 P) (N o33 (N o65 (N (BJ P) (N (Dm P) E E) (N (E1 P) E E)) (N (CF P) (N (Ee P) E E) (N (Ag P) E E))) (N o97 (N (yw P) (N (DO P) E E) (N (Fo P) E E)) (N (C5 P) (N (zF P) E E) E))) (N o49 (N o81 (N (BW P) (N (DC P) E E) (N (zU P) E E)) (N (yJ P) (N (Er P) E E) (N (Al P) E E))) (N (yg P) (N (Cr P) (N (zp P) E E) (N (z9 P) E E)) (N (yV P) (N (EN P) E E) E)))) (N o25 (N o19 (N o11 (N (BP P) (N (Dv P) E E) (N (zR P) E E)) (N (CL P) (N (Ek P) E E) (N (FQ P) E E))) (N (Bs P) (N (yz P) (N (zm P) E E) (N (Fu P) E E)) (N (Db P) (N (zI P) E E) E))) (N o57 (N o11 (N (yt P) (N (DI P) E E) (N (Fi P) E E)) (N (CZ P) (N (Ex P) E E) (N (Ao P) E E))) (N (yj P) (N (Cy P) (N (D8 P) E E) (N (FF P) E E)) (N (y4 P) (N (EU P) E E) E))))) (N o13 (N o21 (N o37 (N o69 (N (yn P) (N (Ds P) E E) (N (E4 P) E E)) (N (CH P) (N (zw P) E E) (N (FO P) E E))) (N (Bq P) (N (Cj P) (N (DQ P) E E) (N (Fq P) E E)) (N (yO P) (N (EF P) E E) E))) (N o53 (N o85 (N (BY P) (N (zg P) E E) (N (zV P) E E)) (N (CW P) (N (Et P) E E) (N (FY P) E E))) (N (BA P) (N (Cv P) (N (D6 P) E E) (N (FD P) E E)) (N (yX P) (N (zM P) E E) E)))) (N o16 (N o45 (N o77 (N (BR P) (N (zd P) E E) (N (Fa P) E E)) (N (CP P) (N (zA P) E E) (N (Ak P) E E))) (N (yf P) (N (Cp P) (N (DW P) E E) (N (Fw P) E E)) (N (yR P) (N (zJ P) E E) E))) (N o61 (N o11 (N (Ce P) (N (DK P) E E) (N (zY P) E E)) (N (C3 P) (N (Ez P) E E) (N (F7 P) E E))) (N (yk P) (N (CA P) (N (Ec P) E E) (N (FH P) E E)) (N (Dk P) (N (EW P) E E) E))))))) (N (o2 P) (N (o4 P) (N (o8 P) (N o16 (N o19 (N (o64 P) (N (BI P) (N (za P) E E) (N (EZ P) E E)) (N (CD P) (N (Ed P) E E) (N (Af P) E E))) (N o96 (N (yv P) (N (DN P) E E) (N (Fn P) E E)) (N (C4 P) (N (EC P) E E) (N (Aq P) E E)))) (N o19 (N o80 (N (BV P) (N (DB P) E E) (N (zT P) E E)) (N (yI P) (N (Ep P) E E) (N (FV P) E E))) (N (Bx P) (N (yB P) (N (zo P) E E) (N (Fz P) E E)) (N (yU P) (N (EM P) E E) E)))) (N o24 (N o11 (N o72 (N (BO P) (N (Du P) E E) (N (E7 P) E E)) (N (CK P) (N (Ej P) E E) (N (Ai P) E E))) (N (yd P) (N (yy P) (N (DT P) E E) (N (Ft P) E E)) (N (Da P) (N (zH P) E E) E))) (N o56 (N o88 (N (Cb P) (N (DH P) E E) (N (Fh P) E E)) (N (yL P) (N (Ew P) E E) (N (An P) E E))) (N (yi P) (N (Cw P) (N (zr P) E E) (N (FE P) E E)) (N (y3 P) (N (ET P) E E) E))))) (N o12 (N o20 (N (o36 P) (N o68 (N (ym P) (N (Dq P) E E) (N (E3 P) E E)) (N (CG P) (N (Eh P) E E) (N (FN P) E E))) (N (Bp P) (N (Ci P) (N (DP P) E E) (N (z6 P) E E)) (N (C8 P) (N (EE P) E E) E))) (N o52 (N o84 (N (BX P) (N (zf P) E E) (N (Ff P) E E)) (N (CV P) (N (zC P) E E) (N (FX P) E E))) (N (Bz P) (N (Cu P) (N (D5 P) E E) (N (FC P) E E)) (N (Dg P) (N (zL P) E E) E)))) (N o28 (N o44 (N o76 (N (yp P) (N (Dz P) E E) (N (E9 P) E E)) (N (CO P) (N (zy P) E E) (N (Aj P) E E))) (N (ye P) (N (Co P) (N (DV P) E E) (N (Fv P) E E)) (N (yQ P) (N (EK P) E E) E))) (N o60 (N o92 (N (Cd P) (N (zi P) E E) (N (zX P) E E)) (N (C2 P) (N (Ey P) E E) (N (F6 P) E E))) (N (BG P) (N (yF P) (N (Eb P) E E) (N (Ae P) E E)) (N (Dj P) (N (zO P) E E) E)))))) (N (o6 P) (N (o10 P) (N o11 (N o34 (N o66 (N (BK P) (N (Dn P) E E) (N (zP P) E E)) (N (yG P) (N (Ef P) E E) (N (FL P) E E))) (N o11 (N (yx P) (N (zj P) E E) (N (Fp P) E E)) (N (C6 P) (N (zG P) E E) E))) (N o11 (N o82 (N (yq P) (N (DD P) E E) (N (Fd P) E E)) (N (CT P) (N (Es P) E E) (N (Am P) E E))) (N (yh P) (N (Cs P) (N (DZ P) E E) (N (Aa P) E E)) (N (yW P) (N (EO P) E E) E)))) (N o26 (N o42 (N o74 (N (BQ P) (N (Dx P) E E) (N (zS P) E E)) (N (CM P) (N (El P) E E) (N (FR P) E E))) (N (Bt P) (N (Cm P) (N (zn P) E E) (N (z7 P) E E)) (N (Dc P) (N (EI P) E E) E))) (N o58 (N o90 (N (yu P) (N (DJ P) E E) (N (Fj P) E E)) (N (C0 P) (N (zD P) E E) (N (F4 P) E E))) (N (BE P) (N (Cz P) (N (D9 P) E E) (N (FG P) E E)) (N (Dh P) (N (EV P) E E) E))))) (N o14 (N o11 (N o38 (N o70 (N (BM P) (N (zb P) E E) (N (E5 P) E E)) (N (CI P) (N (zx P) E E) (N (FP P) E E))) (N (Br P) (N (Ck P) (N (DR P) E E) (N (Fr P) E E)) (N (yP P) (N (EG P) E E) E))) (N o11 (N o11 (N (BZ P) (N (DF P) E E) (N (zW P) E E)) (N (CY P) (N (Eu P) E E) (N (FZ P) E E))) (N (BB P) (N (yC P) (N (D7 P) E E) (N (Ab P) E E)) (N (yY P) (N (ER P) E E) E)))) (N (o30 P) (N o46 (N o78 (N (BS P) (N (ze P) E E) (N (Fb P) E E)) (N (CQ P) (N (En P) E E) (N (FT P) E E))) (N (Bv P) (N (Cq P) (N (DX P) E E) (N (Fx P) E E)) (N (yS P) (N (zK P) E E) E))) (N o62 (N o19 (N (Cf P) (N (DL P) E E) (N (Fl P) E E)) (N (yM P) (N (EA P) E E) (N (F8 P) E E))) (N (yl P) (N (CB P) (N (zt P) E E) (N (FI P) E E)) (N (Dl P) (N (EX P) E E) E)))))))
def fO (P:Params) (i:Nat):Obj:=match (fT P).get i with | some v=>v | none=>hN
def mT (P:Params) (n:Nat):Nat→Nat→Nat→W.BT
 | 0,_,_=>.nil
 | k+1,a,b=>match Nat.blt b n with
  | true=>.node (fO P b) (mT P n k (Nat.mul 2 a) (Nat.add a b)) (mT P n k (Nat.mul 2 a) (Nat.add (Nat.mul 2 a) b))
  | false=>.nil
abbrev hA1:Option Value:=some (.ref 6)
abbrev hB1:List Frame:=[W.topFrame ⟨0,0,0,0⟩]
def eA:Env:={ scope:=pwX.main.scope,locals:=mainNs,globals:=mainNs,cells:=[],code:=.ref 13,frame:=some 14 }
abbrev hCo:Code:=.body (W.behindTheImports pwX) eA
def hp0 (P:Params):Heap:=⟨Array.mk (o0 P :: o1 P :: o2 P :: (gD P "__main__" 164 8 9) :: o4 P :: o5 P :: o6 P :: o7 P :: o8 P :: o9 P :: o10 P :: o11 :: (tD 0) :: o13 :: o14 :: []),{}⟩
def tB (P:Params):W.BT:=((mT P 15 10 1 0).set 3 (fun _=>gD P "__main__" 164 8 9)).set 12 (fun _=>tD 0)
def sB (w:World) (os:OsState):W.SharedT:=⟨tB w.params,15,{},Array.mk [],{},187,os⟩
def t0 (P:Params):W.BT:=(((mT P 28 10 1 0).set 3 (fun _=>gD P "oldhands.errors" 187 9 10)).set 12 (fun _=>tD 3)).set 24 (fun _=>{ cls:=.type "type",data:=.cls { name:= "HandError",bases:=[.type "ValueError"],mro:=[.ref 24,.type "ValueError",.type "Exception",.type "BaseException",.type "object"],ns:=23,qualname:= "HandError" },slots:=#[some (.ref 15),none,some (.str ("HandError") 189),some (.str ("HandError") 197),some (.builtin "ValueError.__new__"),some (.bool true)] })
def s0 (w:World) (os:OsState):W.SharedT:=⟨t0 w.params,28,{},Array.mk [],{},207,os⟩
def st0:List Stmt:=((W.behindTheImports pwX).drop 0).take 2
def t1 (P:Params):W.BT:=((mT P 59 10 1 0).set 3 (fun _=>gD P "oldhands.words" 255 17 18)).set 12 (fun _=>tD 15)
def s1 (w:World) (os:OsState):W.SharedT:=⟨t1 w.params,59,{},Array.mk [],{},257,os⟩
def st1:List Stmt:=((W.behindTheImports pwX).drop 2).take 11
def t2 (P:Params):W.BT:=((mT P 75 10 1 0).set 3 (fun _=>gD P "oldhands.words" 255 19 20)).set 12 (fun _=>tD 15)
def s2 (w:World) (os:OsState):W.SharedT:=⟨t2 w.params,75,{},Array.mk [],{},306,os⟩
def st2:List Stmt:=((W.behindTheImports pwX).drop 13).take 2
def t3 (P:Params):W.BT:=((mT P 127 10 1 0).set 3 (fun _=>gD P "oldhands.words" 255 27 28)).set 12 (fun _=>tD 36)
def s3 (w:World) (os:OsState):W.SharedT:=⟨t3 w.params,127,{},Array.mk [],{},405,os⟩
def st3:List Stmt:=((W.behindTheImports pwX).drop 15).take 8
def t4 (P:Params):W.BT:=((mT P 196 10 1 0).set 3 (fun _=>gD P "oldhands.tokens" 444 46 47)).set 12 (fun _=>tD 66)
def s4 (w:World) (os:OsState):W.SharedT:=⟨t4 w.params,196,{},Array.mk [],{},511,os⟩
def st4:List Stmt:=((W.behindTheImports pwX).drop 23).take 20
def t5 (P:Params):W.BT:=((mT P 245 10 1 0).set 3 (fun _=>gD P "oldhands.texts" 575 47 48)).set 12 (fun _=>tD 69)
def s5 (w:World) (os:OsState):W.SharedT:=⟨t5 w.params,245,{},Array.mk [],{},577,os⟩
def st5:List Stmt:=((W.behindTheImports pwX).drop 43).take 2
def t6 (P:Params):W.BT:=((mT P 320 10 1 0).set 3 (fun _=>gD P "oldhands.texts" 575 59 60)).set 12 (fun _=>tD 99)
def s6 (w:World) (os:OsState):W.SharedT:=⟨t6 w.params,320,{},Array.mk [],{},691,os⟩
def st6:List Stmt:=((W.behindTheImports pwX).drop 45).take 12
def t7 (P:Params):W.BT:=((mT P 402 10 1 0).set 3 (fun _=>gD P "law_oldhands_k87_turns_and_pieces_in_words" 708 71 72)).set 12 (fun _=>tD 135)
def s7 (w:World) (os:OsState):W.SharedT:=⟨t7 w.params,402,{},Array.mk [],{},808,os⟩
def st7:List Stmt:=((W.behindTheImports pwX).drop 57).take 13
def t8 (P:Params):W.BT:=mT P 481 10 1 0
def s8 (w:World) (os:OsState):W.SharedT:=⟨t8 w.params,481,{},Array.mk [],{},921,os⟩
def st8:List Stmt:=((W.behindTheImports pwX).drop 70).take 13
def hp1 (P:Params):Heap:=⟨Array.mk (o0 P :: o1 P :: o2 P :: o3 P :: o4 P :: o5 P :: o6 P :: o7 P :: o8 P :: o9 P :: o10 P :: o11 :: o12 :: o13 :: o14 :: o15 :: o16 :: o17 P :: o11 :: o19 :: o20 :: o21 :: o11 :: o23 P :: o24 :: o25 :: o26 :: o27 :: o28 :: o16 :: o30 P :: o11 :: o19 :: o33 :: o34 :: o11 :: o36 P :: o37 :: o38 :: o39 :: o11 :: o19 :: o42 :: o11 :: o44 :: o45 :: o46 :: o11 :: o19 :: o49 :: o11 :: o51 :: o52 :: o53 :: o11 :: o19 :: o56 :: o57 :: o58 :: o59 P :: o60 :: o61 :: o62 :: o63 :: o64 P :: o65 :: o66 :: o67 :: o68 :: o69 :: o70 :: o71 :: o72 :: o11 :: o74 :: o75 P :: o76 :: o77 :: o78 :: o79 :: o80 :: o81 :: o82 :: o83 :: o84 :: o85 :: o11 :: o19 :: o88 :: o11 :: o90 :: o91 :: o92 :: o11 :: o19 :: o95 :: o96 :: o97 :: o11 :: o19 :: Bp P :: Bq P :: Br P :: yc P :: yd P :: Bs P :: Bt P :: Bu P :: ye P :: yf P :: Bv P :: Bw P :: Bx P :: yg P :: yh P :: By P :: Bz P :: BA P :: BB P :: BC P :: yi P :: yj P :: BE P :: BF P :: BG P :: yk P :: yl P :: BH P :: BI P :: BJ P :: BK P :: BL P :: ym P :: yn P :: BM P :: BN P :: BO P :: BP P :: BQ P :: yo P :: yp P :: BR P :: BS P :: BU P :: BV P :: BW P :: yq P :: yr P :: BX P :: BY P :: BZ P :: Ca P :: Cb P :: yt P :: yu P :: Cc P :: Cd P :: Ce P :: Cf P :: Cg P :: yv P :: yw P :: yx P :: Ch P :: Ci P :: Cj P :: Ck P :: Cl P :: yy P :: yz P :: Cm P :: Cn P :: Co P :: Cp P :: Cq P :: yA P :: yB P :: Cr P :: Cs P :: Ct P :: Cu P :: Cv P :: yC P :: yD P :: Cw P :: Cy P :: Cz P :: yE P :: yF P :: CA P :: CB P :: CC P :: CD P :: CF P :: yG P :: yH P :: CG P :: CH P :: CI P :: CJ P :: CK P :: CL P :: CM P :: CN P :: CO P :: CP P :: CQ P :: CS P :: yI P :: yJ P :: CT P :: CU P :: CV P :: CW P :: CY P :: yK P :: yL P :: CZ P :: C0 P :: C1 P :: C2 P :: C3 P :: yM P :: yN P :: C4 P :: C5 P :: C6 P :: C7 P :: C8 P :: yO P :: yP P :: C9 P :: Da P :: Db P :: Dc P :: Dd P :: yQ P :: yR P :: yS P :: yT P :: yU P :: yV P :: yW P :: De P :: Dg P :: yX P :: yY P :: yZ P :: y3 P :: y4 P :: Dh P :: Di P :: Dj P :: Dk P :: Dl P :: y9 P :: za P :: Dm P :: Dn P :: Do P :: Dq P :: Ds P :: zb P :: zc P :: Du P :: Dv P :: Dx P :: Dy P :: Dz P :: zd P :: ze P :: DA P :: DB P :: DC P :: DD P :: DE P :: zf P :: zg P :: DF P :: DG P :: DH P :: DI P :: DJ P :: zh P :: zi P :: DK P :: DL P :: DM P :: DN P :: DO P :: zj P :: zk P :: DP P :: DQ P :: DR P :: DS P :: DT P :: zm P :: zn P :: DU P :: DV P :: DW P :: DX P :: DY P :: zo P :: zp P :: DZ P :: D0 P :: D5 P :: D6 P :: D7 P :: zq P :: zr P :: D8 P :: D9 P :: Ea P :: Eb P :: Ec P :: zt P :: zu P :: Ed P :: Ee P :: Ef P :: Eg P :: Eh P :: zw P :: zx P :: Ei P :: Ej P :: Ek P :: El P :: Em P :: zy P :: zA P :: En P :: Eo P :: Ep P :: Er P :: Es P :: zB P :: zC P :: Et P :: Eu P :: Ev P :: Ew P :: Ex P :: zD P :: zE P :: Ey P :: Ez P :: EA P :: EB P :: EC P :: zF P :: zG P :: ED P :: EE P :: EF P :: EG P :: EH P :: zH P :: zI P :: EI P :: EJ P :: EK P :: zJ P :: zK P :: EL P :: EM P :: EN P :: EO P :: EQ P :: zL P :: zM P :: ER P :: ES P :: ET P :: EU P :: EV P :: zN P :: zO P :: EW P :: EX P :: EY P :: EZ P :: E1 P :: zP P :: zQ P :: E3 P :: E4 P :: E5 P :: E6 P :: E7 P :: zR P :: zS P :: E8 P :: E9 P :: Fa P :: Fb P :: Fc P :: zT P :: zU P :: Fd P :: Fe P :: Ff P :: zV P :: zW P :: Fg P :: Fh P :: Fi P :: Fj P :: Fk P :: zX P :: zY P :: Fl P :: Fm P :: Fn P :: Fo P :: Fp P :: zZ P :: z6 P :: Fq P :: Fr P :: Fs P :: Ft P :: Fu P :: z7 P :: z8 P :: Fv P :: Fw P :: Fx P :: Fy P :: Fz P :: z9 P :: Aa P :: FA P :: FC P :: FD P :: Ab P :: Ac P :: FE P :: FF P :: FG P :: Ad P :: Ae P :: FH P :: FI P :: FJ P :: Af P :: Ag P :: FL P :: FM P :: FN P :: FO P :: FP P :: Ah P :: Ai P :: FQ P :: FR P :: FS P :: Aj P :: Ak P :: FT P :: FU P :: FV P :: Al P :: Am P :: FW P :: FX P :: FY P :: FZ P :: F3 P :: An P :: Ao P :: F4 P :: F5 P :: F6 P :: F7 P :: F8 P :: Ap P :: Aq P :: []),{}⟩
theorem Hf:∀ w:World,(fun os=>W.topGo treeTable pwX w 11 hA1 12 ⟨W.boot_heap w.params,Array.mk [],W.boot_drawn,W.boot_toks,os⟩ (W.topStub pwX))=fun os=>some (⟨hp0 w.params,Array.mk [],{},187,os⟩,⟨denote treeTable hCo,hCo,⟨0,0,0,0⟩,hB1⟩):=fun w=>by kernel_rfl
theorem Ar:∀ w:World,(fun os=>W.segRun treeTable pwX w 11 hA1 1 1 ⟨hp0 w.params,Array.mk [],{},187,os⟩ (W.blockOf (W.behindTheImports pwX) eA hCo ⟨0,0,0,0⟩ hB1))=fun os=>some (.next,(sB w os).abs,hCo,⟨0,0,0,0⟩):=fun w=>by kernel_rfl
theorem r0:∀ w:World,(fun os=>W.segRunT treeTable pwX w 11 hA1 1 196 (sB w os) (W.piecesOf st0 eA hCo ⟨0,0,0,0⟩ hB1))=fun os=>some (.next,s0 w os,hCo,⟨2,0,3,8⟩):=fun w=>by kernel_rfl
theorem r1:∀ w:World,(fun os=>W.segRunT treeTable pwX w 11 hA1 1 361 (s0 w os) (W.piecesOf st1 eA hCo ⟨2,0,3,8⟩ hB1))=fun os=>some (.next,s1 w os,hCo,⟨23,0,23,8⟩):=fun w=>by kernel_rfl
theorem r2f:∀ w:World,(fun os=>W.segRunT treeTable pwX (w.withFollow "special-get-raises" false) 11 hA1 1 264 (s1 (w.withFollow "special-get-raises" false) os) (W.piecesOf st2 eA hCo ⟨23,0,23,8⟩ hB1))=fun os=>some (.next,s2 (w.withFollow "special-get-raises" false) os,hCo,⟨25,0,25,10⟩):=fun w=>by kernel_rfl
theorem r2t:∀ w:World,(fun os=>W.segRunT treeTable pwX (w.withFollow "special-get-raises" true) 11 hA1 1 264 (s1 (w.withFollow "special-get-raises" true) os) (W.piecesOf st2 eA hCo ⟨23,0,23,8⟩ hB1))=fun os=>some (.next,s2 (w.withFollow "special-get-raises" true) os,hCo,⟨25,0,25,10⟩):=fun w=>by kernel_rfl
theorem r2:∀ w:World,(fun os=>W.segRunT treeTable pwX w 11 hA1 1 264 (s1 w os) (W.piecesOf st2 eA hCo ⟨23,0,23,8⟩ hB1))=fun os=>some (.next,s2 w os,hCo,⟨25,0,25,10⟩):=W.byRow2 "special-get-raises" (P:=fun w=>(fun os=>W.segRunT treeTable pwX w 11 hA1 1 264 (s1 w os) (W.piecesOf st2 eA hCo ⟨23,0,23,8⟩ hB1))=fun os=>some (.next,s2 w os,hCo,⟨25,0,25,10⟩)) r2f r2t
theorem r3f:∀ w:World,(fun os=>W.segRunT treeTable pwX (w.withFollow "special-get-raises" false) 11 hA1 1 395 (s2 (w.withFollow "special-get-raises" false) os) (W.piecesOf st3 eA hCo ⟨25,0,25,10⟩ hB1))=fun os=>some (.next,s3 (w.withFollow "special-get-raises" false) os,hCo,⟨65,0,67,106⟩):=fun w=>by kernel_rfl
theorem r3t:∀ w:World,(fun os=>W.segRunT treeTable pwX (w.withFollow "special-get-raises" true) 11 hA1 1 395 (s2 (w.withFollow "special-get-raises" true) os) (W.piecesOf st3 eA hCo ⟨25,0,25,10⟩ hB1))=fun os=>some (.next,s3 (w.withFollow "special-get-raises" true) os,hCo,⟨65,0,67,106⟩):=fun w=>by kernel_rfl
theorem r3:∀ w:World,(fun os=>W.segRunT treeTable pwX w 11 hA1 1 395 (s2 w os) (W.piecesOf st3 eA hCo ⟨25,0,25,10⟩ hB1))=fun os=>some (.next,s3 w os,hCo,⟨65,0,67,106⟩):=W.byRow2 "special-get-raises" (P:=fun w=>(fun os=>W.segRunT treeTable pwX w 11 hA1 1 395 (s2 w os) (W.piecesOf st3 eA hCo ⟨25,0,25,10⟩ hB1))=fun os=>some (.next,s3 w os,hCo,⟨65,0,67,106⟩)) r3f r3t
theorem r4:∀ w:World,(fun os=>W.segRunT treeTable pwX w 11 hA1 1 397 (s3 w os) (W.piecesOf st4 eA hCo ⟨65,0,67,106⟩ hB1))=fun os=>some (.next,s4 w os,hCo,⟨133,0,142,18⟩):=fun w=>by kernel_rfl
theorem r5:∀ w:World,(fun os=>W.segRunT treeTable pwX w 11 hA1 1 363 (s4 w os) (W.piecesOf st5 eA hCo ⟨133,0,142,18⟩ hB1))=fun os=>some (.next,s5 w os,hCo,⟨167,0,167,8⟩):=fun w=>by kernel_rfl
theorem r6f:∀ w:World,(fun os=>W.segRunT treeTable pwX (w.withFollow "special-get-raises" false) 11 hA1 1 395 (s5 (w.withFollow "special-get-raises" false) os) (W.piecesOf st6 eA hCo ⟨167,0,167,8⟩ hB1))=fun os=>some (.next,s6 (w.withFollow "special-get-raises" false) os,hCo,⟨235,0,246,23⟩):=fun w=>by kernel_rfl
theorem r6t:∀ w:World,(fun os=>W.segRunT treeTable pwX (w.withFollow "special-get-raises" true) 11 hA1 1 395 (s5 (w.withFollow "special-get-raises" true) os) (W.piecesOf st6 eA hCo ⟨167,0,167,8⟩ hB1))=fun os=>some (.next,s6 (w.withFollow "special-get-raises" true) os,hCo,⟨235,0,246,23⟩):=fun w=>by kernel_rfl
theorem r6:∀ w:World,(fun os=>W.segRunT treeTable pwX w 11 hA1 1 395 (s5 w os) (W.piecesOf st6 eA hCo ⟨167,0,167,8⟩ hB1))=fun os=>some (.next,s6 w os,hCo,⟨235,0,246,23⟩):=W.byRow2 "special-get-raises" (P:=fun w=>(fun os=>W.segRunT treeTable pwX w 11 hA1 1 395 (s5 w os) (W.piecesOf st6 eA hCo ⟨167,0,167,8⟩ hB1))=fun os=>some (.next,s6 w os,hCo,⟨235,0,246,23⟩)) r6f r6t
theorem r7:∀ w:World,(fun os=>W.segRunT treeTable pwX w 11 hA1 1 387 (s6 w os) (W.piecesOf st7 eA hCo ⟨235,0,246,23⟩ hB1))=fun os=>some (.next,s7 w os,hCo,⟨321,0,330,44⟩):=fun w=>by kernel_rfl
theorem r8:∀ w:World,(fun os=>W.segRunT treeTable pwX w 11 hA1 1 388 (s7 w os) (W.piecesOf st8 eA hCo ⟨321,0,330,44⟩ hB1))=fun os=>some (.next,s8 w os,hCo,⟨449,0,463,15⟩):=fun w=>by kernel_rfl
theorem Hg:∀ w:World,(fun os=>W.topRun treeTable pwX w 11 hA1 2 (s8 w os).abs ⟨W.doneF .next,hCo,⟨449,0,463,15⟩,hB1⟩)=fun os=>some (⟨hp1 w.params,Array.mk [],{},921,os⟩:Shared):=fun w=>by kernel_rfl
theorem Hh:W.behindTheImports pwX=st0++(st1++(st2++(st3++(st4++(st5++(st6++(st7++(st8++[])))))))):=by kernel_rfl
theorem Hi (w:World) (os:OsState):W.topRun treeTable pwX w 11 hA1 (12+(1+(196+(361+(264+(395+(397+(363+(395+(387+(388+(2)))))))))))) ⟨W.boot_heap w.params,Array.mk [],W.boot_drawn,W.boot_toks,os⟩ (W.topStub pwX)=some ⟨hp1 w.params,Array.mk [],{},921,os⟩:=by
 refine W.go_top (congrFun (Hf w) os) (W.piece_block (congrFun (Ar w) os) ?_);rw [Hh];exact (W.piece_app (W.segRun_of (congrFun (r0 w) os)) (W.piece_app (W.segRun_of (congrFun (r1 w) os)) (W.piece_app (W.segRun_of (congrFun (r2 w) os)) (W.piece_app (W.segRun_of (congrFun (r3 w) os)) (W.piece_app (W.segRun_of (congrFun (r4 w) os)) (W.piece_app (W.segRun_of (congrFun (r5 w) os)) (W.piece_app (W.segRun_of (congrFun (r6 w) os)) (W.piece_app (W.segRun_of (congrFun (r7 w) os)) (W.piece_app (W.segRun_of (congrFun (r8 w) os)) (show W.topRun treeTable pwX w 11 hA1 2 _ (W.restOf [] eA hCo ⟨449,0,463,15⟩ hB1)=_ from congrFun (Hg w) os))))))))))
def hK:Params→W.Frag:=fun P =>
 (nat_lit 3,o3 P) :: (nat_lit 4,o4 P) :: (nat_lit 6,o6 P) :: (nat_lit 15,o15) :: (nat_lit 22,o11) :: (nat_lit 23,o23 P) :: (nat_lit 24,o24) :: (nat_lit 25,o25) :: (nat_lit 28,o28) :: (nat_lit 35,o11) :: (nat_lit 36,o36 P) :: (nat_lit 37,o37) :: (nat_lit 45,o45) :: (nat_lit 46,o46) :: (nat_lit 52,o52) :: (nat_lit 53,o53) :: (nat_lit 57,o57) :: (nat_lit 58,o58) :: (nat_lit 59,o59 P) :: (nat_lit 60,o60) :: (nat_lit 61,o61) :: (nat_lit 62,o62) :: (nat_lit 63,o63) :: (nat_lit 64,o64 P) :: (nat_lit 65,o65) :: (nat_lit 66,o66) :: (nat_lit 67,o67) :: (nat_lit 68,o68) :: (nat_lit 69,o69) :: (nat_lit 70,o70) :: (nat_lit 71,o71) :: (nat_lit 72,o72) :: (nat_lit 73,o11) :: (nat_lit 74,o74) :: (nat_lit 75,o75 P) :: (nat_lit 76,o76) :: (nat_lit 77,o77) :: (nat_lit 78,o78) :: (nat_lit 79,o79) :: (nat_lit 80,o80) :: (nat_lit 81,o81) :: (nat_lit 82,o82) :: (nat_lit 83,o83) :: (nat_lit 84,o84) :: (nat_lit 85,o85) :: (nat_lit 91,o91) :: (nat_lit 92,o92) :: (nat_lit 96,o96) :: (nat_lit 97,o97) :: (nat_lit 103,yc P) :: (nat_lit 104,yd P) :: (nat_lit 108,ye P) :: (nat_lit 109,yf P) :: (nat_lit 113,yg P) :: (nat_lit 114,yh P) :: (nat_lit 120,yi P) :: (nat_lit 121,yj P) :: (nat_lit 125,yk P) :: (nat_lit 126,yl P) :: (nat_lit 132,ym P) :: (nat_lit 133,yn P) :: (nat_lit 139,yo P) :: (nat_lit 140,yp P) :: (nat_lit 146,yq P) :: (nat_lit 147,yr P) :: (nat_lit 153,yt P) :: (nat_lit 154,yu P) :: (nat_lit 160,yv P) :: (nat_lit 161,yw P) :: (nat_lit 162,yx P) :: (nat_lit 168,yy P) :: (nat_lit 169,yz P) :: (nat_lit 175,yA P) :: (nat_lit 176,yB P) :: (nat_lit 182,yC P) :: (nat_lit 183,yD P) :: (nat_lit 187,yE P) :: (nat_lit 188,yF P) :: (nat_lit 194,yG P) :: (nat_lit 195,yH P) :: (nat_lit 208,yI P) :: (nat_lit 209,yJ P) :: (nat_lit 215,yK P) :: (nat_lit 216,yL P) :: (nat_lit 222,yM P) :: (nat_lit 223,yN P) :: (nat_lit 229,yO P) :: (nat_lit 230,yP P) :: (nat_lit 236,yQ P) :: (nat_lit 237,yR P) :: (nat_lit 238,yS P) :: (nat_lit 239,yT P) :: (nat_lit 240,yU P) :: (nat_lit 241,yV P) :: (nat_lit 242,yW P) :: (nat_lit 245,yX P) :: (nat_lit 246,yY P) :: (nat_lit 247,yZ P) :: (nat_lit 248,y3 P) :: (nat_lit 249,y4 P) :: (nat_lit 255,y9 P) :: (nat_lit 256,za P) :: (nat_lit 262,zb P) :: (nat_lit 263,zc P) :: (nat_lit 269,zd P) :: (nat_lit 270,ze P) :: (nat_lit 276,zf P) :: (nat_lit 277,zg P) :: (nat_lit 283,zh P) :: (nat_lit 284,zi P) :: (nat_lit 290,zj P) :: (nat_lit 291,zk P) :: (nat_lit 297,zm P) :: (nat_lit 298,zn P) :: (nat_lit 304,zo P) :: (nat_lit 305,zp P) :: (nat_lit 311,zq P) :: (nat_lit 312,zr P) :: (nat_lit 318,zt P) :: (nat_lit 319,zu P) :: (nat_lit 325,zw P) :: (nat_lit 326,zx P) :: (nat_lit 332,zy P) :: (nat_lit 333,zA P) :: (nat_lit 339,zB P) :: (nat_lit 340,zC P) :: (nat_lit 346,zD P) :: (nat_lit 347,zE P) :: (nat_lit 353,zF P) :: (nat_lit 354,zG P) :: (nat_lit 360,zH P) :: (nat_lit 361,zI P) :: (nat_lit 365,zJ P) :: (nat_lit 366,zK P) :: (nat_lit 372,zL P) :: (nat_lit 373,zM P) :: (nat_lit 379,zN P) :: (nat_lit 380,zO P) :: (nat_lit 386,zP P) :: (nat_lit 387,zQ P) :: (nat_lit 393,zR P) :: (nat_lit 394,zS P) :: (nat_lit 400,zT P) :: (nat_lit 401,zU P) :: (nat_lit 405,zV P) :: (nat_lit 406,zW P) :: (nat_lit 412,zX P) :: (nat_lit 413,zY P) :: (nat_lit 419,zZ P) :: (nat_lit 420,z6 P) :: (nat_lit 426,z7 P) :: (nat_lit 427,z8 P) :: (nat_lit 433,z9 P) :: (nat_lit 434,Aa P) :: (nat_lit 438,Ab P) :: (nat_lit 439,Ac P) :: (nat_lit 443,Ad P) :: (nat_lit 444,Ae P) :: (nat_lit 448,Af P) :: (nat_lit 449,Ag P) :: (nat_lit 455,Ah P) :: (nat_lit 456,Ai P) :: (nat_lit 460,Aj P) :: (nat_lit 461,Ak P) :: (nat_lit 465,Al P) :: (nat_lit 466,Am P) :: (nat_lit 472,An P) :: (nat_lit 473,Ao P) :: (nat_lit 479,Ap P) :: (nat_lit 480,Aq P) :: []
def hA:List Addr:=[3,4,6,15,22,23,24,25,28,35,36,37,45,46,52,53,57,58,59,60,61,62,63,64,65,66,67,68,69,70,71,72,73,74,75,76,77,78,79,80,81,82,83,84,85,91,92,96,97,103,104,108,109,113,114,120,121,125,126,132,133,139,140,146,147,153,154,160,161,162,168,169,175,176,182,183,187,188,194,195,208,209,215,216,222,223,229,230,236,237,238,239,240,241,242,245,246,247,248,249,255,256,262,263,269,270,276,277,283,284,290,291,297,298,304,305,311,312,318,319,325,326,332,333,339,340,346,347,353,354,360,361,365,366,372,373,379,380,386,387,393,394,400,401,405,406,412,413,419,420,426,427,433,434,438,439,443,444,448,449,455,456,460,461,465,466,472,473,479,480]
theorem hKA:∀ P,hA=(hK P).map (·.1):=fun _=>by kernel_rfl
abbrev hH:W.Hook:=W.kHook hK hA hKA
abbrev hQ:Program:=W.view pwX [82]
def hW:List Str:= "HandError" :: "BadText" :: "LETTERS" :: "LONGEST_NAME" :: "PERCENT" :: "is_sign" :: "FIGURES" :: "figures_of" :: "number_of" :: "KIND_PARTS" :: "TURN_PARTS" :: "PIECE_PARTS" :: "parts_behind" :: "kind_text" :: "most_exchanged" :: "value_text" :: "turn_text" :: "piece_text" :: "form_text" :: "part_text" :: "in_brackets" :: "with_commas" :: "pair_text" :: "quoted" :: "BLANK" :: "QUOTE" :: "MINUS" :: "OPENING" :: "CLOSING" :: "MARKS" :: "MOST_FIGURES" :: "MOST_BRACKETS" :: "END" :: "words_of" :: "word_end" :: "run_end" :: "made_word" :: "deepest_brackets" :: "WordRow" :: "PAIR_SORTS" :: "BRACKETED" :: "read_turn" :: "read_piece" :: "read_all" :: "part_read" :: "pair_read" :: "kind_read" :: "value_read" :: "turn_read" :: "path_read" :: "form_read" :: "list_read" :: "at_least_one" :: "_law_cell_at" :: "_law_mixed" :: "_law_own" :: "_law_digit" :: "_law_names" :: "_law_number_kind" :: "_law_leaf_kind" :: "_law_record_kind" :: "_law_rows_kind" :: "_law_kind" :: "_law_text" :: "_law_kind_words" :: "_law_value_words" :: "_law_turn_words" :: "_law_piece_words" :: "_law_tight" :: "_law_loose" :: "_law_word" :: "_law_any_number" :: "_law_any_value" :: "_law_any_turn" :: "_law_any_piece" :: []
abbrev hX (s:Shared):Bool:=W.recOk (W.RowW.records (W.OpenRow.toRowW PySem.Challenge.rw_oldhands_k87_turns_and_pieces_in_words.row)) s
theorem F9:∀ w:World,((W.boot_heap w.params).isNs mainGlobals && (Array.mk []:Array GenState).size == 0,(W.boot_heap w.params).objs.size,(W.boot_heap w.params).nsMap mainGlobals "__annotations__")=(true,11,hA1):=fun w=>by kernel_rfl
theorem rL1:∀ w:World,(fun os=>(W.staticsOk (importedModules pwX.main.body) (W.boot_heap w.params) (hp1 w.params) && W.namesBound pwX (hp1 w.params) && W.gensDone ⟨hp1 w.params,Array.mk [],{},921,os⟩ && W.laidKept (W.boot_heap w.params) (hp1 w.params)))=fun _=>true:=fun w=>by kernel_rfl
theorem rL2:∀ w:World,(fun os=>W.openSeen hQ hW (importedModules pwX.main.body) hX true ⟨hp1 w.params,Array.mk [],{},921,os⟩)=fun _=>W.openGood hQ hW:=fun w=>by kernel_rfl
theorem rL3:∀ w:World,(fun os=>hH.obs ⟨hp1 w.params,Array.mk [],{},921,os⟩)=fun _=>hH.val w:=fun w=>by kernel_rfl
theorem hl:W.LeftO pwX hQ hW hX hH.obs hH.val 4161 :=
 W.LeftO.of_pieces (H₀:=W.boot_heap) (H₁:=hp1) (gs₀:=Array.mk []) (gs₁:=Array.mk []) (d₀:=W.boot_drawn) (d₁:={}) (k₀:=W.boot_toks) (k₁:=921) (m₀:=11) (ann:=hA1) (M:=12+(1+(196+(361+(264+(395+(397+(363+(395+(387+(388+(2))))))))))))
  (W.boot_open (by kernel_rfl) (by rfl) (fun s=>by rfl)) F9 Hi (by rfl) (fun w=>funext fun os=>W.looks_pair (congrFun (rL1 w) os) (W.looks_pair (congrFun (rL2 w) os) (congrFun (rL3 w) os)))
theorem said:PySem.Challenge.rw_oldhands_k87_turns_and_pieces_in_words.wellSaid=true:=by
 unfold W.OpenLaw.wellSaid W.OpenRow.wellSaid W.OpenRow.partSaid W.looksOpen
 repeat' (with_reducible refine W.look_both ?_ ?_)
 all_goals decide +kernel
end K87
namespace L2
open PySem PySem.Spec PyProof.Rows
abbrev Key:=Sum Int Str
def mm:Key→Value→Bool
 | .inl k,v=>Value.isInt k v
 | .inr x,v=>Value.isStrOf x v
def Hj (w:World):Key→Int
 | .inl k=>hashInt k
 | .inr x=>hashStr w x
theorem bh:∀ {k:Key} {v:Value},mm k v=true→(∃ i t,k=Sum.inl i∧v=Value.int i t)∨(∃ x t,k=Sum.inr x∧v=Value.str x t)
 | .inl i,v,h=>by
  obtain ⟨t,e⟩:=Value.isInt_shape (k:=i) (v:=v) h;exact .inl ⟨i,t,rfl,e⟩
 | .inr x,v,h=>by
  obtain ⟨t,e⟩:=Value.isStrOf_shape (x:=x) (v:=v) h;exact .inr ⟨x,t,rfl,e⟩
theorem sR (i:Int) (t:Tok):mm (.inl i) (.int i t)=true:=by simp [mm,Value.isInt]
theorem sS (x:Str) (t:Tok):mm (.inr x) (.str x t)=true:=by simp [mm,Value.isStrOf]
theorem As (a b:Int):decide ((Sum.inl a:Key)=Sum.inl b)=(a == b):=by
 by_cases e:a=b
 ·subst e;simp
 ·have h:¬ (Sum.inl a:Key)=Sum.inl b:=fun q=>e (Sum.inl.inj q);rw [decide_eq_false h];exact (beq_eq_false_iff_ne.mpr e).symm
theorem At (a b:Str):decide ((Sum.inr a:Key)=Sum.inr b)=decide (a=b):=by
 by_cases e:a=b
 ·subst e;simp
 ·have h:¬ (Sum.inr a:Key)=Sum.inr b:=fun q=>e (Sum.inr.inj q);rw [decide_eq_false h,decide_eq_false e]
theorem Au (a:Int) (b:Str):decide ((Sum.inl a:Key)=Sum.inr b)=false:=decide_eq_false (fun q=>nomatch q)
theorem Av (a:Str) (b:Int):decide ((Sum.inr a:Key)=Sum.inl b)=false:=decide_eq_false (fun q=>nomatch q)
def aW (prog:Program) (w:World):PySem.KeyKind prog w Key where
 is:=mm
 hash:=Hj w
 inj:=fun v a b ha hb=>by
  rcases bh ha with ⟨i,t,rfl,rfl⟩ | ⟨x,t,rfl,rfl⟩
  ·rcases bh hb with ⟨j,u,rfl,e⟩ | ⟨y,u,rfl,e⟩
   ·injection e with e1 _;rw [e1]
   ·exact nomatch e
  ·rcases bh hb with ⟨j,u,rfl,e⟩ | ⟨y,u,rfl,e⟩
   ·exact nomatch e
   ·injection e with e1 _;rw [e1]
 byValue:=fun k v h=>by
  rcases bh h with ⟨i,t,rfl,rfl⟩ | ⟨x,t,rfl,rfl⟩ <;> rfl
 pyHash:=fun hv h=>by
  rcases bh hv with ⟨i,t,rfl,rfl⟩ | ⟨x,t,rfl,rfl⟩
  ·exact wpAny_pyHash_int h
  ·exact wpAny_pyHash_str h
 eqBool:=fun hu hv h=>by
  rcases bh hu with ⟨i,t,rfl,rfl⟩ | ⟨x,t,rfl,rfl⟩
  ·rcases bh hv with ⟨j,u,rfl,rfl⟩ | ⟨y,u,rfl,rfl⟩
   ·rw [As] at h;exact wpAny_eqBool_int h
   ·rw [Au] at h;exact SeqAt.EqAt.int_str i t y u _ _ _ _ h
  ·rcases bh hv with ⟨j,u,rfl,rfl⟩ | ⟨y,u,rfl,rfl⟩
   ·rw [Av] at h;exact SeqAt.EqAt.str_int x t j u _ _ _ _ h
   ·rw [At] at h;exact wpAny_eqBool_str h
 «strs»:=fun k x t v h=>by
  rcases bh h with ⟨i,u,rfl,e⟩ | ⟨y,u,rfl,e⟩
  ·exact nomatch e
  ·injection e with e1 _
   subst e1
   cases v <;> rfl
theorem oN (prog:Program) (w:World) (i:Int) (t:Tok):(aW prog w).is (.inl i) (.int i t)=true:=sR i t
theorem oO (prog:Program) (w:World) (x:Str) (t:Tok):(aW prog w).is (.inr x) (.str x t)=true:=sS x t
inductive V where
 | non | bl (b:Bool) | int (i:Int) | str (x:Str) | byt (b:Array UInt8) | flt (b:UInt64) | ref (a:Addr) | ty (n:String)
 deriving DecidableEq
def RelV:V→Value→Prop
 | .non,u=>u=Value.none
 | .bl b,u=>u=Value.bool b
 | .int i,u=>∃ t,u=Value.int i t
 | .str x,u=>∃ t,u=Value.str x t
 | .byt b,u=>∃ t,u=Value.bytes b t
 | .flt b,u=>∃ t,u=Value.float b t
 | .ref a,u=>u=Value.ref a
 | .ty n,u=>u=Value.type n
abbrev Vals:List V→List Value→Prop:=Paired RelV
theorem Vals.length {xs:List V} {us:List Value} (r:Vals xs us):xs.length=us.length:=Paired.length r
theorem Vals.get:∀ {xs:List V} {us:List Value} {i:Nat} {x:V},Vals xs us→xs[i]?=some x→∃ u,us[i]?=some u∧RelV x u
 | _,_,_,_,.nil,e=>by simp at e
 | _,_,0,_,.cons r _,e=>by simp at e;subst e;exact ⟨_,rfl,r⟩
 | _,_,i+1,x,.cons _ t,e=>by
  obtain ⟨u,h1,h2⟩:=Vals.get (i:=i) (x:=x) t (by simpa using e);exact ⟨u,by simpa using h1,h2⟩
theorem Vals.set {x:V} {u:Value} (r:RelV x u):∀ {xs:List V} {us:List Value} (i:Nat),Vals xs us→Vals (xs.set i x) (us.set i u)
 | _,_,_,.nil=>.nil
 | _,_,0,.cons _ t=>.cons r t
 | _,_,i+1,.cons q t=>.cons q (Vals.set r i t)
theorem Vals.append:∀ {xs ys:List V} {us ws:List Value},Vals xs us→Vals ys ws→Vals (xs++ys) (us++ws)
 | _,_,_,_,.nil,s=>s
 | _,_,_,_,.cons r t,s=>.cons r (Vals.append t s)
theorem Vals.take:∀ {xs:List V} {us:List Value} (n:Nat),Vals xs us→Vals (xs.take n) (us.take n)
 | _,_,0,_=>.nil
 | _,_,_+1,.nil=>.nil
 | _,_,n+1,.cons r t=>.cons r (Vals.take n t)
theorem Vals.drop:∀ {xs:List V} {us:List Value} (n:Nat),Vals xs us→Vals (xs.drop n) (us.drop n)
 | _,_,0,r=>r
 | _,_,_+1,.nil=>.nil
 | _,_,n+1,.cons _ t=>Vals.drop n t
def RelO:Option V→Option Value→Prop
 | some v,some u=>RelV v u
 | none,none=>True
 | _,_=>False
def KV {κ:Type}:List (κ×V)→List (κ×Value)→Prop:=Paired fun (p:κ×V) (q:κ×Value)=>p.1=q.1∧RelV p.2 q.2
def kV:Key→V
 | .inl i=>.int i
 | .inr x=>.str x
inductive HO where
 | lst (xs:List V)
 | tup (xs:List V)
 | dK (kvs:List (Key×V)) | dT (kvs:List (List Key×V))
 | set (S:Int→Bool) (n:Nat)
 | ins (C dx:Addr) (fs:List (Str×V))
 | own (x:Addr)
 | xd (fs:List (Str×V))
 | met (f x:Addr)
 | rng (lo hi:Int)
 | frz (o:Obj) (u:HO)
 | tbl (ps:Array Value)
 | ext (φ:Heap→Prop)
abbrev Hp:=Addr→Option HO
def upd (H:Hp) (a:Addr) (o:HO):Hp:=fun b=>if b=a then some o else H b
theorem aa {H:Hp} {a:Addr} {o:HO}:upd H a o a=some o:=by unfold upd;rw [if_pos rfl]
theorem ac {H:Hp} {a b:Addr} {o:HO} (h:b≠a):upd H a o b=H b:=by unfold upd;rw [if_neg h]
theorem wA {H:Hp} {a:Addr} {o u:HO}:upd (upd H a o) a u=upd H a u:=by
 funext b;unfold upd;split <;> rfl
theorem mn {H:Hp} {a b:Addr} {o u:HO} (h:H a=some o) (h':H b=some u) (d:o≠u):a≠b:=by
 intro e;subst e;rw [h] at h';exact d (Option.some.inj h')
theorem ah {H:Hp} {a b:Addr} {o:HO} (h:H a=some o) (h':H b=none):a≠b:=by
 intro e;subst e;rw [h] at h';cases h'
section
variable (P:Program) (w:World)
def ObjOk (H:Hp) (h:Heap) (a:Addr):HO→Prop
 | .lst xs=>xs.length≤sizeLine∧∃ (its:List Value) (n:Nat),Vals xs its∧h.get? a=some { cls:=.type "list",data:=.seq its.toArray n }
 | .tup xs=>xs.length≤sizeLine∧∃ its:List Value,Vals xs its∧IsTup h a its.toArray
 | .dK kvs=>kvs.length≤sizeLine∧(a == sysModules)=false∧∃ vs,KV kvs vs∧h.DictOf (aW P w) a vs
 | .dT kvs=>kvs.length≤sizeLine∧(a == sysModules)=false∧∃ xs:List (List Key×Addr×Value),
   Paired (fun (p:List Key×V) (q:List Key×Addr×Value)=>p.1=q.1∧H q.2.1=some (.tup (p.1.map kV))∧RelV p.2 q.2.2) kvs xs ∧
   ∃ o es ep,h.get? a=some o∧o.ExactDict∧o.data=.dict es ep∧es.toList=xs.map (entryOfKey (tupleKind (aW P w)))∧(xs.map (·.1)).Nodup
 | .set S n=>h.SetOf (intKind P w) a S n
 | .ins C dx fs=>H dx=some (.own a)∧fs.length≤1000∧dx≠a∧h.get? a=some (W.instObj C dx) ∧
   ∃ mA,h.Ns1 dx mA∧(∀ f,RelO (fs.lookup f) (mA f))∧PySem.Within mA (fs.map (·.1))
 | .own _=>∃ o,h.get? a=some o
 | .xd fs=>∃ mA,h.Ns1 a mA∧∀ f,RelO (fs.lookup f) (mA f)
 | .rng lo hi=>∃ t u v,h.get? a=some { cls:=.type "range",data:=.fields #[.int lo t,.int hi u,.int 1 v] }
 | .frz o u=>h.get? a=some o∧ObjOk H h a u
 | .tbl ps=>h.get? a=some { cls:=.none,data:=.fields ps }
 | .met f x=>h.get? a=some (W.methodObj (.ref f) (.ref x))
 | .ext φ=>φ h∧(∃ o,h.get? a=some o)∧∀ h1 h2:Heap,φ h1→(∀ o,h1.get? a=some o→h2.get? a=some o)→φ h2
def HOk (H:Hp) (h:Heap):Prop:=∀ a o,H a=some o→ObjOk P w H h a o
end
section
variable {P:Program} {w:World} {H H':Hp} {h h':Heap} {a:Addr} {o:HO}
theorem ObjOk.lt (x:ObjOk P w H h a o):a < h.objs.size:=by
 cases o with
 | lst xs=>obtain ⟨_,_,_,_,e⟩:=x;exact aAu e
 | tup xs=>obtain ⟨_,_,_,p⟩:=x;exact p.lt
 | dK kvs=>obtain ⟨_,_,_,_,o,_,_,e,_⟩:=x;exact aAu e
 | dT kvs=>obtain ⟨_,_,_,_,o,_,_,e,_⟩:=x;exact aAu e
 | set S n=>obtain ⟨o,_,_,_,e,_⟩:=x;exact aAu e
 | ins C dx fs=>obtain ⟨_,_,_,e,_⟩:=x;exact aAu e
 | own y=>obtain ⟨_,e⟩:=x;exact aAu e
 | xd fs=>obtain ⟨_,⟨_,_,_,e,_⟩,_⟩:=x;exact aAu e
 | rng lo hi=>obtain ⟨_,_,_,e⟩:=x;exact aAu e
 | frz ob u=>obtain ⟨e,_⟩:=x;exact aAu e
 | tbl ps=>exact aAu (show h.get? a=some _ from x)
 | met f y=>exact aAu (show h.get? a=some _ from x)
 | ext φ=>obtain ⟨_,⟨_,e⟩,_⟩:=x;exact aAu e
theorem Paired.mapP {α β:Type} {F G:α→β→Prop}:∀ {l₁:List α} {l₂:List β},Paired F l₁ l₂→(∀ a b,F a b→G a b)→Paired G l₁ l₂
 | _,_,.nil,_=>.nil
 | _,_,.cons r t,f=>.cons (f _ _ r) (Paired.mapP t f)
theorem ObjOk.stay (x:ObjOk P w H h a o) (k:∀ b u,(b=a∨H b=some (.own a))→h.get? b=some u→h'.get? b=some u)
  (ho:∀ b,H b=some (.own a)→H' b=some (.own a)) (ht:∀ b xs,H b=some (.tup xs)→H' b=some (.tup xs)):ObjOk P w H' h' a o:=by
 induction o with
 | lst xs=>obtain ⟨z,its,n,r,e⟩:=x;exact ⟨z,its,n,r,k _ _ (.inl rfl) e⟩
 | tup xs=>obtain ⟨z,its,r,ob,e,c⟩:=x;exact ⟨z,its,r,ob,k _ _ (.inl rfl) e,c⟩
 | dK kvs=>obtain ⟨z,y,vs,r,ob,es,ep,e,c⟩:=x;exact ⟨z,y,vs,r,ob,es,ep,k _ _ (.inl rfl) e,c⟩
 | dT kvs =>
  obtain ⟨z,y,xs,r,ob,es,ep,e,c⟩:=x;exact ⟨z,y,xs,Paired.mapP r fun p q z=>⟨z.1,ht _ _ z.2.1,z.2.2⟩,ob,es,ep,k _ _ (.inl rfl) e,c⟩
 | set S n=>obtain ⟨ob,es,ep,t,e,c⟩:=x;exact ⟨ob,es,ep,t,k _ _ (.inl rfl) e,c⟩
 | ins C dx fs =>
  obtain ⟨d,z,ne,e,mA,⟨od,es,ep,e2,c⟩,r⟩:=x;exact ⟨ho _ d,z,ne,k _ _ (.inl rfl) e,mA,⟨od,es,ep,k _ _ (.inr d) e2,c⟩,r⟩
 | own y=>obtain ⟨ob,e⟩:=x;exact ⟨ob,k _ _ (.inl rfl) e⟩
 | xd fs=>obtain ⟨mA,⟨od,es,ep,e,c⟩,r⟩:=x;exact ⟨mA,⟨od,es,ep,k _ _ (.inl rfl) e,c⟩,r⟩
 | rng lo hi=>obtain ⟨t,u,v,e⟩:=x;exact ⟨t,u,v,k _ _ (.inl rfl) e⟩
 | frz ob u ih=>obtain ⟨e,q⟩:=x;exact ⟨k _ _ (.inl rfl) e,ih q⟩
 | tbl ps =>
  have e:h.get? a=some { cls:=.none,data:=.fields ps }:=x;show h'.get? a=some { cls:=.none,data:=.fields ps };exact k a _ (.inl rfl) e
 | met f y =>
  have e:h.get? a=some (W.methodObj (.ref f) (.ref y)):=x;show h'.get? a=some (W.methodObj (.ref f) (.ref y));exact k a _ (.inl rfl) e
 | ext φ=>obtain ⟨p,⟨o,e⟩,st⟩:=x;exact ⟨st _ _ p fun o q=>k _ _ (.inl rfl) q,⟨o,k _ _ (.inl rfl) e⟩,st⟩
theorem HOk.lt (x:HOk P w H h) (e:H a=some o):a < h.objs.size:=(x a o e).lt
theorem HOk.fresh (x:HOk P w H h) (e:h.objs.size≤a):H a=none:=by
 cases q:H a with
 | none=>rfl
 | some u=>exact absurd (aAj (x.lt q) e) (aAR _)
theorem HOk.kept (x:HOk P w H h) (k:∀ b u,h.get? b=some u→h'.get? b=some u):HOk P w H h':=fun a o e =>
 (x a o e).stay (fun b u _ q=>k b u q) (fun _ q=>q) fun _ _ q=>q
theorem HOk.laid (x:HOk P w H h) (k:∀ b u,h.get? b=some u→h'.get? b=some u) (hp:h.objs.size≤a) (new:ObjOk P w (upd H a o) h' a o):HOk P w (upd H a o) h':=fun b u e=>by
 have hn:=x.fresh hp
 by_cases hb:b=a
 ·subst hb;rw [aa] at e;cases e;exact new
 ·rw [ac hb] at e;exact (x b u e).stay (fun c v _ q=>k c v q) (fun c q=>by rw [ac (ah q hn)];exact q) fun c xs q=>by rw [ac (ah q hn)];exact q
end
def Rd (H:Hp) (a:Addr) (u:HO):Prop:=H a=some u∨∃ o,H a=some (.frz o u)
theorem Rd.ok {P:Program} {w:World} {H:Hp} {h:Heap} {a:Addr} {u:HO} (r:Rd H a u) (x:HOk P w H h):ObjOk P w H h a u:=by
 rcases r with r | ⟨o,r⟩
 ·exact x a u r
 ·obtain ⟨_,q⟩:=x a _ r;exact q
def Mut:Option HO→Prop
 | some (.lst _)=>True
 | some (.dK _)=>True
 | some (.dT _)=>True
 | some (.set _ _)=>True
 | some (.ins _ _ _)=>True
 | some (.ext _)=>True
 | _=>False
section
variable {P:Program} {w:World} {H:Hp} {h h':Heap} {x e:Addr} {o':HO}
theorem HOk.write (ok:HOk P w H h) (mu:Mut (H x)) (he:e=x∨H e=some (.own x)) (k:∀ b u,b≠e→h.get? b=some u→h'.get? b=some u) (heo:∃ u,h'.get? e=some u)
  (new:ObjOk P w (upd H x o') h' x o'):HOk P w (upd H x o') h':=fun b u q=>by
 have nown:∀ c y,H c=some (.own y)→c≠x:=fun c y r z=>by subst z;rw [r] at mu;exact mu
 have ntup:∀ c xs,H c=some (.tup xs)→c≠x:=fun c xs r z=>by subst z;rw [r] at mu;exact mu
 by_cases hb:b=x
 ·subst hb;rw [aa] at q;cases q;exact new
 ·rw [ac hb] at q
  by_cases hbe:b=e
  ·have q':H b=some (.own x):=by
    rcases he with z | z
    ·exact absurd (hbe.trans z) hb
    ·rw [hbe];exact z
   rw [q] at q';cases q';obtain ⟨v,hv⟩:=heo;exact ⟨v,by rw [hbe];exact hv⟩
  ·refine (ok b u q).stay (fun c v hc r=>k c v ?_ r) (fun c r=>by rw [ac (nown c b r)];exact r) fun c xs r=>by rw [ac (ntup c xs r)];exact r
   rcases hc with rfl | hc
   ·exact hbe
   ·rintro rfl;rcases he with z | z
    ·exact nown c b hc z
    ·rw [hc] at z;cases z;exact hb rfl
end
structure Un (fs ex:List Addr) (H H':Hp) (h h':Heap):Prop where
 keep:∀ b o,h.get? b=some o→H b=none→b∉fs→b∉ex→h'.get? b=some o
 slot:∀ b o,h.get? b=some o→H b=none→b∈fs→b∉ex→∃ sl,h'.get? b=some { o with slots:=sl }
 free:∀ b o,h.get? b=some o→H b=none→b∉ex→H' b=none
 there:∀ b o,h.get? b=some o→b∉ex→∃ o',h'.get? b=some o'
 tups:∀ b xs,H b=some (.tup xs)→H' b=some (.tup xs)
 frzs:∀ b o u,H b=some (.frz o u)→H' b=some (.frz o u)
 tbls:∀ b ps,H b=some (.tbl ps)→∃ more,H' b=some (.tbl (ps++more))
section
variable {fs fs' ex ex':List Addr} {H H1 H2:Hp} {h h1 h2 h':Heap} {a x e:Addr} {o:HO}
theorem Un.any (u:Un fs ex H H1 h h1) {b:Addr} {ob:Obj} (q:h.get? b=some ob) (n:H b=none) (hx:b∉ex):∃ sl,h1.get? b=some { ob with slots:=sl }:=by
 by_cases hb:b∈fs
 ·exact u.slot b ob q n hb hx
 ·exact ⟨ob.slots,u.keep b ob q n hb hx⟩
theorem Un.trans (a:Un fs ex H H1 h h1) (b:Un fs ex H1 H2 h1 h2):Un fs ex H H2 h h2 where
 keep:=fun c ob q n hc hx=>b.keep c ob (a.keep c ob q n hc hx) (a.free c ob q n hx) hc hx
 slot:=fun c ob q n hc hx=>by
  obtain ⟨sl,e1⟩:=a.slot c ob q n hc hx;obtain ⟨sl',e2⟩:=b.slot c _ e1 (a.free c ob q n hx) hc hx;exact ⟨sl',e2⟩
 free:=fun c ob q n hx=>by
  obtain ⟨o',e1⟩:=a.there c ob q hx;exact b.free c o' e1 (a.free c ob q n hx) hx
 there:=fun c ob q hx=>by
  obtain ⟨o',e1⟩:=a.there c ob q hx;exact b.there c o' e1 hx
 tups:=fun c xs q=>b.tups c xs (a.tups c xs q)
 frzs:=fun c ob xs q=>b.frzs c ob xs (a.frzs c ob xs q)
 tbls:=fun c ps q=>by
  obtain ⟨m1,e1⟩:=a.tbls c ps q;obtain ⟨m2,e2⟩:=b.tbls c _ e1;exact ⟨m1++m2,by rw [e2,aBC]⟩
theorem Un.kept (k:∀ b u,h.get? b=some u→h'.get? b=some u):Un fs ex H H h h' :=
 ⟨fun b ob q _ _ _=>k b ob q,fun b ob q _ _ _=>⟨ob.slots,k b ob q⟩,fun _ _ _ n _=>n,fun b ob q _=>⟨ob,k b ob q⟩,fun _ _ q=>q,fun _ _ _ q=>q,fun _ ps q=>⟨#[],by rw [q];simp⟩⟩
theorem Un.refl:Un fs ex H H h h:=Un.kept fun _ _ q=>q
theorem Un.laid (k:∀ b u,h.get? b=some u→h'.get? b=some u) (hp:h.objs.size≤a) (hn:H a=none):Un fs ex H (upd H a o) h h' where
 keep:=fun b u q _ _ _=>k b u q
 slot:=fun b u q _ _ _=>⟨u.slots,k b u q⟩
 free:=fun b u q n _=>by rw [ac (aAH (aAj (aAu q) hp))];exact n
 there:=fun b u q _=>⟨u,k b u q⟩
 tups:=fun b xs q=>by rw [ac (ah q hn)];exact q
 frzs:=fun b u xs q=>by rw [ac (ah q hn)];exact q
 tbls:=fun b ps q=>⟨#[],by rw [ac (ah q hn),q];simp⟩
theorem Un.write (mu:Mut (H x)) (he:e=x∨H e=some (.own x)) (k:∀ b u,b≠e→h.get? b=some u→h'.get? b=some u) (heo:∃ u,h'.get? e=some u):Un fs ex H (upd H x o) h h':=by
 have hx:∀ b,H b=none→b≠x:=fun b n z=>by subst z;rw [n] at mu;exact mu
 have hb:∀ b,H b=none→b≠e:=fun b n z=>by
  subst z;rcases he with r | r
  ·exact hx b n r
  ·rw [n] at r;cases r
 have hm:∀ b u,H b=some u→¬ Mut (some u)→b≠x:=fun b u q nm z=>by subst z;rw [q] at mu;exact nm mu
 refine ⟨fun b u q n _ _=>k b u (hb b n) q,fun b u q n _ _=>⟨u.slots,k b u (hb b n) q⟩,fun b u q n _=>by rw [ac (hx b n)];exact n,fun b u q _=>?_,
  fun b xs q=>by rw [ac (hm b _ q fun z=>z)];exact q,fun b u xs q=>by rw [ac (hm b _ q fun z=>z)];exact q,fun b ps q=>⟨#[],by rw [ac (hm b _ q fun z=>z),q];simp⟩⟩
 by_cases hbe:b=e
 ·subst hbe;exact heo
 ·exact ⟨u,k b u hbe q⟩
end
def trk (h:Heap) (H:Hp):List Addr:=(List.range h.objs.size).filter fun a=>(H a).isSome
def mZ (h:Heap) (H:Hp):Heap:=W.hideAll h (trk h H)
theorem sT (h:Heap) (H:Hp):(mZ h H).objs.size=h.objs.size:=W.hideAll_size _ _
theorem uA {h:Heap} {H:Hp} {b:Addr} {o:Obj} (e:h.get? b=some o) (n:H b=none):(mZ h H).get? b=some o :=
 W.hideAll_get _ e fun hm=>by
  have q:(H b).isSome=true:=(List.mem_filter.mp hm).2;rw [n] at q;simp at q
theorem wB {h:Heap} {H:Hp} {b:Addr} {o:Obj} (e:(mZ h H).get? b=some o):h.get? b=some o∧H b=none:=by
 have e':h.get? b=some o:=W.of_hideAll (trk h H) e;refine ⟨e',?_⟩
 cases q:H b with
 | none=>rfl
 | some x =>
  have hm:b∈trk h H:=List.mem_filter.mpr ⟨aBz.mpr (aAu e'),by simp [q]⟩;have z:(mZ h H).get? b=none:=W.hideAll_none (trk h H) hm;rw [z] at e;cases e
def wC (g h:Heap) (L:Addr):List (Addr×Obj):=(List.range h.objs.size).filterMap fun a=>if a=L∨(g.get? a).isSome=true then none else (h.get? a).map fun o=>(a,o)
def rest (g h:Heap) (L d:Addr):List (Addr×Obj):=(wC g h L).filter fun p=>decide (p.1≠d)
structure Mod (K:W.Frag) (mg:Str→Option Value) (base:Heap):Prop where
 kin:K.In base
 glob:base.Ns mainGlobals mg
 blt:∃ mb,base.Ns builtinsNs mb∧∀ x:Str,x≠ "__name__" →mb x=bootBuiltins x
 nolimit:base.NoLimit
structure Cx where
 prog:Program
 w:World
 K:W.Frag
 mg:Str→Option Value
 base:Heap
 A:Around
 N:List Str
 s₀:Shared
 H₀:Hp
 env:Env
 outer:List Env
 stack:List Env
 ex:List Addr
 fn:Str→Bool
 calm:Bool
 pn:List (Addr×Obj)
 xe:Value→Shared→Prop
def frs (l:List Env):List Addr:=l.filterMap (·.frame)
abbrev Cx.fs (X:Cx):List Addr:=frs X.outer
def Vis (sc:Scope) (x:Str):Prop:=sc.names.lookup x=some .local∨sc.names.lookup x=some .cell∨sc.names.lookup x=some .free
def Loc (sc:Scope) (x:Str):Prop:=sc.names.lookup x=some .local∨sc.names.lookup x=some .cell
def Hk (env:Env) (h:Heap) (m:Str→Option Value) (x:Str) (u:Value):Prop :=
 (env.kindOf x=some .local∧m x=some u)∨((env.kindOf x=some .cell∨env.kindOf x=some .free)∧∃ c,env.cells.lookup x=some c∧h.IsCell c (some u))
structure Cx.Ok (X:Cx):Prop where
 mod:Mod X.K X.mg X.base
 kind:X.env.scope.kind=.function
 glob:X.env.globals=mainGlobals
 blt:X.env.builtins=builtinsNs
 above:X.s₀.heap.objs.size≤X.env.locals
 inj:∀ x y c,X.env.cells.lookup x=some c→X.env.cells.lookup y=some c→x=y
 has:∀ x,(X.env.kindOf x=some .cell∨X.env.kindOf x=some .free)→∃ c,X.env.cells.lookup x=some c
 cab:∀ x c,X.fn x=true→X.env.cells.lookup x=some c→X.s₀.heap.objs.size≤c
 hd:X.calm=true→X.A.handled=none
 frames:X.A.frames=some X.stack
 stk:X.stack=X.outer∨(X.stack=X.env :: X.outer∧X.env.frame=some X.env.locals)
 exf:∀ b∈X.ex,b≠X.env.locals∧∀ x c,X.env.cells.lookup x=some c→c≠b
 bs:∀ b o,X.base.get? b=some o→X.s₀.heap.get? b=some o∧X.H₀ b=none
 bsz:X.base.objs.size≤X.s₀.heap.objs.size
 noex:∀ b o,X.base.get? b=some o→b∉X.ex
 exfs:∀ b∈X.ex,b∉X.fs
 funs:X.s₀.heap.FunFrames X.base X.outer
 frf:∀ b∈X.fs,X.H₀ b=none
structure Inv (X:Cx) (pins:List (Addr×Obj)) (σ:List (Option V)) (H:Hp) (s:Shared):Prop where
 ok:X.Ok
 os:s.os=X.s₀.os
 bare:AllBare s.gens
 base:Un X.fs X.ex X.H₀ H X.s₀.heap s.heap
 loc:∃ m,s.heap.Ns X.env.locals m∧∀ (i:Nat) (x:Str) (v:V),X.N[i]?=some x→σ[i]?=some (some v)→Vis X.env.scope x→∃ u,RelV v u∧Hk X.env s.heap m x u
 cell:∀ x c,X.env.cells.lookup x=some c→∃ v,s.heap.IsCell c v
 free:H X.env.locals=none
 freeC:∀ x c,X.env.cells.lookup x=some c→H c=none
 pin:∀ p∈X.pn++pins,s.heap.get? p.1=some p.2∧H p.1=none∧p.1≠X.env.locals∧p.1∉X.fs∧∀ v,p.2.data≠.cell v
 hok:HOk X.prog X.w H s.heap
 len:σ.length=X.N.length
section
variable {X:Cx} {pins:List (Addr×Obj)} {σ:List (Option V)} {H H':Hp} {s:Shared} {h':Heap}
theorem Cx.Ok.nofr (ok:X.Ok) {b:Addr} {o:Obj} (e:X.base.get? b=some o):b∉X.fs:=fun hb=>by
 have:=(ok.funs.mem hb).1;rw [e] at this;cases this
theorem Inv.bs (I:Inv X pins σ H s):∀ b o,X.base.get? b=some o→s.heap.get? b=some o∧H b=none:=fun b o e =>
 ⟨I.base.keep b o (I.ok.bs b o e).1 (I.ok.bs b o e).2 (I.ok.nofr e) (I.ok.noex b o e),I.base.free b o (I.ok.bs b o e).1 (I.ok.bs b o e).2 (I.ok.noex b o e)⟩
theorem Inv.bk (I:Inv X pins σ H s):∀ b o,X.base.get? b=some o→s.heap.get? b=some o:=fun b o e=>(I.bs b o e).1
theorem Inv.mod (I:Inv X pins σ H s):Mod X.K X.mg X.base:=I.ok.mod
theorem Inv.kIn (I:Inv X pins σ H s):X.K.In s.heap:=I.ok.mod.kin.keeps I.bk
theorem Inv.lt (I:Inv X pins σ H s):X.env.locals < s.heap.objs.size:=let ⟨_,hn,_⟩:=I.loc;hn.lt
theorem Inv.sz (I:Inv X pins σ H s):X.s₀.heap.objs.size≤s.heap.objs.size:=aAA I.ok.above (aBa I.lt)
theorem Inv.nofs (I:Inv X pins σ H s) {a:Addr} (h:s.heap.objs.size≤a):a∉X.fs:=fun hb=>by
 obtain ⟨_,o,ho,_⟩:=I.ok.funs.mem hb;exact absurd (aAj (aAu ho) (aAA I.sz h)) (aAR _)
theorem Inv.cne (I:Inv X pins σ H s):∀ x c,X.env.cells.lookup x=some c→c≠X.env.locals:=fun x c e z=>by
 obtain ⟨v,o,ho,hd⟩:=I.cell x c e;obtain ⟨m,⟨o',es,ep,ho',hd',_⟩,_⟩:=I.loc;rw [z,ho'] at ho;cases ho;rw [hd'] at hd;cases hd
theorem Inv.funs (I:Inv X pins σ H s):s.heap.FunFrames X.base X.outer:=by
 have all:∀ (l:List Env),(∀ b∈frs l,b∈X.fs)→X.s₀.heap.FunFrames X.base l→s.heap.FunFrames X.base l:=by
  intro l
  induction l with
  | nil=>intro _ _;trivial
  | cons env r ih =>
   intro hs hl;obtain ⟨hk,⟨L,o,hf,hn,ho,hd⟩,hr⟩:=hl;have hL:L∈X.fs:=hs L (by unfold frs;rw [aBw,hf];exact aAi);obtain ⟨sl,e⟩:=I.base.slot L o ho (I.ok.frf L hL) hL fun z=>I.ok.exfs L z hL;exact ⟨hk,⟨L,_,hf,hn,e,hd⟩,ih (fun b hb=>hs b (by unfold frs;rw [aBw,hf];exact aAg _ hb)) hr⟩
 exact all X.outer (fun _ hb=>hb) I.ok.funs
theorem Inv.stack (I:Inv X pins σ H s):s.heap.FunFrames X.base X.stack:=by
 rcases I.ok.stk with e | ⟨e,hf⟩
 ·rw [e];exact I.funs
 ·rw [e];obtain ⟨m,hn,_⟩:=I.loc;refine .cons (by rw [I.ok.kind];decide) hf hn ?_ I.funs;exact Heap.get?_none_of_le (aAA I.ok.bsz I.ok.above)
theorem Inv.stkSub (I:Inv X pins σ H s):∀ b∈frs X.stack,b∈X.env.locals :: X.fs:=fun b hb=>by
 rcases I.ok.stk with e | ⟨e,hf⟩
 ·rw [e] at hb;exact aAg _ hb
 ·rw [e] at hb;unfold frs at hb;rw [aBw,hf] at hb;exact hb
theorem Inv.stkFree (I:Inv X pins σ H s):∀ b∈frs X.stack,H b=none:=fun b hb=>by
 rcases aAm.mp (I.stkSub b hb) with e | hb
 ·rw [e];exact I.free
 ·obtain ⟨_,o,ho,_⟩:=I.ok.funs.mem hb;exact I.base.free b o ho (I.ok.frf b hb) fun z=>I.ok.exfs b z hb
theorem Inv.step {g':Array GenState} {t':Nat} {d':Drawn} {ch:List Addr} (I:Inv X pins σ H s)
  (hch:∀ b∈ch,(b∈X.ex∨X.s₀.heap.objs.size≤b)∧b≠X.env.locals∧(∀ x c,X.env.cells.lookup x=some c→c≠b)∧∀ p∈X.pn++pins,p.1≠b)
  (keep:∀ b o,b≠X.env.locals→b∉X.fs→b∉ch→s.heap.get? b=some o→H b=none→h'.get? b=some o)
  (slot:∀ b o,b≠X.env.locals→b∈X.fs→b∉ch→s.heap.get? b=some o→H b=none→∃ sl,h'.get? b=some { o with slots:=sl }) (free:∀ b o,b∉ch→s.heap.get? b=some o→H b=none→H' b=none)
  (there:∀ b o,b∉ch→s.heap.get? b=some o→∃ o',h'.get? b=some o')
  (tups:∀ b xs,H b=some (.tup xs)→H' b=some (.tup xs)) (frzs:∀ b o u,H b=some (.frz o u)→H' b=some (.frz o u)) (tbls:∀ b ps,H b=some (.tbl ps)→∃ more,H' b=some (.tbl (ps++more)))
  (ns:∀ m,s.heap.Ns X.env.locals m→h'.Ns X.env.locals m) (hok:HOk X.prog X.w H' h') (hg:AllBare g') :
  Inv X pins σ H' { s with heap:=h',gens:=g',drawn:=d',toks:=t' }:=by
 have neL:∀ b o,X.s₀.heap.get? b=some o→b≠X.env.locals:=fun b o e=>aAH (aAj (aAu e) I.ok.above);have neC:∀ b o,X.s₀.heap.get? b=some o→b∉X.ex→b∉ch:=fun b o e hx hb=>by
  rcases (hch b hb).1 with z | z
  ·exact hx z
  ·exact absurd (aAj (aAu e) z) (aAR _)
 have cellK:∀ x c,X.env.cells.lookup x=some c→∀ v,s.heap.IsCell c v→h'.IsCell c v:=fun x c e v ⟨o,ho,hd⟩=>by
  have nch:c∉ch:=fun z=>(hch c z).2.2.1 x c e rfl
  by_cases hc:c∈X.fs
  ·obtain ⟨sl,q⟩:=slot c o (I.cne x c e) hc nch ho (I.freeC x c e);exact ⟨_,q,hd⟩
  ·exact ⟨o,keep c o (I.cne x c e) hc nch ho (I.freeC x c e),hd⟩
 refine ⟨I.ok,I.os,hg,⟨fun b o e n hb hx=>?_,fun b o e n hb hx=>?_,fun b o e n hx=>?_,fun b o e hx=>?_,fun b xs e=>tups b xs (I.base.tups b xs e),fun b o xs e=>frzs b o xs (I.base.frzs b o xs e),fun b ps e=>?_⟩,?_,fun x c e=>?_,?_,fun x c e=>?_,fun p hp=>?_,hok,I.len⟩
 ·exact keep b o (neL b o e) hb (neC b o e hx) (I.base.keep b o e n hb hx) (I.base.free b o e n hx)
 ·obtain ⟨sl,e1⟩:=I.base.slot b o e n hb hx;obtain ⟨sl',e2⟩:=slot b _ (neL b o e) hb (neC b o e hx) e1 (I.base.free b o e n hx);exact ⟨sl',e2⟩
 ·obtain ⟨o',e1⟩:=I.base.there b o e hx;exact free b o' (neC b o e hx) e1 (I.base.free b o e n hx)
 ·obtain ⟨o',e1⟩:=I.base.there b o e hx;exact there b o' (neC b o e hx) e1
 ·obtain ⟨m1,e1⟩:=I.base.tbls b ps e;obtain ⟨m2,e2⟩:=tbls b _ e1;exact ⟨m1++m2,by rw [e2,aBC]⟩
 ·obtain ⟨m,hn,hl⟩:=I.loc;refine ⟨m,ns m hn,fun i x v e1 e2 e3=>?_⟩;obtain ⟨u,r,l⟩:=hl i x v e1 e2 e3;refine ⟨u,r,?_⟩;rcases l with l | ⟨k,c,e,z⟩
  ·exact .inl l
  ·exact .inr ⟨k,c,e,cellK x c e _ z⟩
 ·obtain ⟨v,z⟩:=I.cell x c e;exact ⟨v,cellK x c e v z⟩
 ·obtain ⟨m,⟨o,_,_,ho,_⟩,_⟩:=I.loc;exact free _ o (fun z=>(hch _ z).2.1 rfl) ho I.free
 ·obtain ⟨v,o,ho,hd⟩:=I.cell x c e;exact free c o (fun z=>(hch c z).2.2.1 x c e rfl) ho (I.freeC x c e)
 ·obtain ⟨e,n,ne,nf,d⟩:=I.pin p hp;have nch:p.1∉ch:=fun z=>(hch p.1 z).2.2.2 p hp rfl;exact ⟨keep p.1 p.2 ne nf nch e n,free p.1 p.2 nch e n,ne,nf,d⟩
theorem Inv.un {t':Nat} (I:Inv X pins σ H s) (u:Un X.fs [] H H' s.heap h') (hok:HOk X.prog X.w H' h'):Inv X pins σ H' { s with heap:=h',toks:=t' }:=by
 obtain ⟨m,⟨o,es,ep,ho,r⟩,_⟩:=id I.loc;obtain ⟨sl,hL⟩:=u.any ho I.free (by simp);exact I.step (g':=s.gens) (d':=s.drawn) (ch:=[]) (fun _ z=>nomatch z) (fun b o _ hb _ e n=>u.keep b o e n hb (by simp)) (fun b o _ hb _ e n=>u.slot b o e n hb (by simp)) (fun b o _ e n=>u.free b o e n (by simp)) (fun b o _ e=>u.there b o e (by simp)) u.tups u.frzs u.tbls (fun m' hm=>by
  obtain ⟨o',es',ep',ho',r'⟩:=hm;rw [ho] at ho';cases ho';exact ⟨_,es',ep',hL,r'⟩) hok I.bare
theorem Inv.call {g':Array GenState} {t':Nat} {d':Drawn} {ch:List Addr} (I:Inv X pins σ H s) (u:Un (frs X.stack) ch H H' s.heap h') (hok:HOk X.prog X.w H' h') (hg:AllBare g')
  (hch:∀ b∈ch,(b∈X.ex∨X.s₀.heap.objs.size≤b)∧b≠X.env.locals∧(∀ x c,X.env.cells.lookup x=some c→c≠b)∧∀ p∈X.pn++pins,p.1≠b) :
  Inv X pins σ H' { s with heap:=h',gens:=g',drawn:=d',toks:=t' }:=by
 obtain ⟨m,⟨o,es,ep,ho,r⟩,_⟩:=id I.loc;obtain ⟨sl,hL⟩:=u.any ho I.free fun z=>(hch _ z).2.1 rfl;exact I.step (ch:=ch) hch (fun b o hL hb hc e n=>u.keep b o e n (fun z=>(aAm.mp (I.stkSub b z)).elim hL hb) hc) (fun b o _ _ hc e n=>u.any e n hc) (fun b o hc e n=>u.free b o e n hc) (fun b o hc e=>u.there b o e hc) u.tups u.frzs u.tbls (fun m' hm=>by
  obtain ⟨o',es',ep',ho',r'⟩:=hm;rw [ho] at ho';cases ho';exact ⟨_,es',ep',hL,r'⟩) hok hg
theorem Inv.turned {t':Nat} {it:Addr} (I:Inv X pins σ H s) (k:∀ b o,b≠it→s.heap.get? b=some o→h'.get? b=some o) (hn:H it=none) (hL:it≠X.env.locals)
  (h1:it∈X.ex∨X.s₀.heap.objs.size≤it) (h2:∀ x c,X.env.cells.lookup x=some c→c≠it) (h3:∀ p∈X.pn++pins,p.1≠it):Inv X pins σ H { s with heap:=h',toks:=t' }:=by
 have nit:∀ b u,H b=some u→b≠it:=fun b u e z=>by rw [z,hn] at e;cases e
 refine I.step (g':=s.gens) (d':=s.drawn) (ch:=[it]) (fun b hb=>?_) (fun b o _ _ hc e _=>k b o (fun z=>hc (by simp [z])) e) (fun b o _ _ hc e _=>⟨o.slots,k b o (fun z=>hc (by simp [z])) e⟩) (fun _ _ _ _ n=>n)
  (fun b o hc e=>⟨o,k b o (fun z=>hc (by simp [z])) e⟩) (fun _ _ e=>e) (fun _ _ _ e=>e) (fun b ps e=>⟨#[],by rw [e];simp⟩) (fun m hm=>?_) (fun b u e=>?_) I.bare
 ·have e:b=it:=by simpa using hb
  subst e;exact ⟨h1,hL,h2,h3⟩
 ·obtain ⟨o,es,ep,ho,r⟩:=hm;exact ⟨o,es,ep,k _ o (Ne.symm hL) ho,r⟩
 ·refine (I.hok b u e).stay (fun c v hc q=>k c v ?_ q) (fun _ q=>q) fun _ _ q=>q;rcases hc with z | z
  ·rw [z];exact nit b u e
  ·exact nit c _ z
theorem Inv.tok (I:Inv X pins σ H s) (t:Nat):Inv X pins σ H { s with toks:=t }:=I.un (h':=s.heap) (t':=t) Un.refl I.hok
theorem Inv.kept {t':Nat} (I:Inv X pins σ H s) (k:∀ b u,s.heap.get? b=some u→h'.get? b=some u):Inv X pins σ H { s with heap:=h',toks:=t' }:=I.un (Un.kept k) (I.hok.kept k)
theorem Inv.laid {a:Addr} {o:HO} {t':Nat} (I:Inv X pins σ H s) (k:∀ b u,s.heap.get? b=some u→h'.get? b=some u) (hp:s.heap.objs.size≤a) (new:ObjOk X.prog X.w (upd H a o) h' a o) :
  Inv X pins σ (upd H a o) { s with heap:=h',toks:=t' }:=I.un (Un.laid k hp (I.hok.fresh hp)) (I.hok.laid k hp new)
theorem Inv.write {x e:Addr} {o:HO} {t':Nat} (I:Inv X pins σ H s) (mu:Mut (H x)) (he:e=x∨H e=some (.own x)) (k:∀ b u,b≠e→s.heap.get? b=some u→h'.get? b=some u) (heo:∃ u,h'.get? e=some u)
  (new:ObjOk X.prog X.w (upd H x o) h' x o):Inv X pins σ (upd H x o) { s with heap:=h',toks:=t' }:=I.un (Un.write mu he k heo) (I.hok.write mu he k heo new)
theorem Inv.pins_of {pins':List (Addr×Obj)} (I:Inv X pins σ H s) (h:∀ p∈pins',s.heap.get? p.1=some p.2∧H p.1=none∧p.1≠X.env.locals∧p.1∉X.fs∧∀ v,p.2.data≠.cell v):Inv X pins' σ H s :=
 ⟨I.ok,I.os,I.bare,I.base,I.loc,I.cell,I.free,I.freeC,fun p hp=>(aAG.mp hp).elim (fun z=>I.pin p (List.mem_append_left _ z)) (h p),I.hok,I.len⟩
theorem oP {N:List Str} (hN:N.Nodup) {i j:Nat} {x:Str} (a:N[i]?=some x) (b:N[j]?=some x):i=j:=by
 obtain ⟨h1,e1⟩:=aAk.mp a;obtain ⟨h2,e2⟩:=aAk.mp b;exact (List.getElem_inj hN).mp (e1.trans e2.symm)
theorem sU {M:Model} {A:Around} {E:Value→Shared→Prop} {i:Nat} {x:Str} {v:V} {u:Value} {Q:Unit→Shared→Prop} (I:Inv X pins σ H s) (hN:X.N.Nodup) (hi:X.N[i]?=some x) (hx:Loc X.env.scope x) (r:RelV v u)
  (h:∀ s',Inv X pins (σ.set i (some v)) H s'→(∃ a,Heap.SameBut a s.heap s'.heap∧(a=X.env.locals∨X.env.cells.lookup x=some a))→Q () s') (hf:X.fn x=true∨X.env.scope.names.lookup x=some .local:=by first | exact .inl rfl | exact .inr rfl | assumption):wpAny M A (storeName X.env x u) Q E s:=by
 obtain ⟨m,hn,hl⟩:=id I.loc;have hcls:(X.env.scope.kind == .class || (X.env.scope.kind == .module && X.env.locals != X.env.globals))=false:=by rw [I.ok.kind];rfl
 have hiσ:i < σ.length:=by rw [I.len];exact (aAk.mp hi).1
 have cne:=I.cne;have tracked:∀ {a:Addr} {h':Heap},(∃ o,s.heap.get? a=some o∧H a=none)→Heap.SameBut a s.heap h'→HOk X.prog X.w H h':=fun {a h'} ha hs b ob e=>by
  obtain ⟨_,_,hfree⟩:=ha;refine (I.hok b ob e).stay (fun c w' hc q=>(hs.2 c ?_).trans q) (fun _ q=>q) fun _ _ q=>q;rintro rfl;rcases hc with rfl | hc
  ·rw [hfree] at e;cases e
  ·rw [hfree] at hc;cases hc
 rcases hx with hk | hk
 ·refine wpAny_storeName_local hk hn (fun h' hn' hs=>?_) hcls;obtain ⟨oL,_,_,hoL,_⟩:=id hn;refine h _ ⟨I.ok,I.os,I.bare,⟨fun b o e n hb hx=>?_,fun b o e n hb hx=>?_,I.base.free,fun b o e hx=>?_,I.base.tups,I.base.frzs,I.base.tbls⟩,⟨_,hn',fun j y v' e1 e2 e3=>?_⟩,fun y c e=>?_,I.free,I.freeC,fun p hp=>?_,tracked ⟨oL,hoL,I.free⟩ hs,by simpa using I.len⟩ ⟨_,hs,.inl rfl⟩
  ·exact (hs.2 b (aAH (aAj (aAu e) I.ok.above))).trans (I.base.keep b o e n hb hx)
  ·obtain ⟨sl,e1⟩:=I.base.slot b o e n hb hx;exact ⟨sl,(hs.2 b (aAH (aAj (aAu e) I.ok.above))).trans e1⟩
  ·obtain ⟨o',e1⟩:=I.base.there b o e hx;exact ⟨o',(hs.2 b (aAH (aAj (aAu e) I.ok.above))).trans e1⟩
  ·by_cases hj:j=i
   ·subst hj;rw [hi] at e1;cases e1;rw [aBW hiσ] at e2
    cases e2
    exact ⟨u,r,.inl ⟨hk,by simp⟩⟩
   ·rw [List.getElem?_set_ne (Ne.symm hj)] at e2;obtain ⟨u',r',q⟩:=hl j y v' e1 e2 e3;refine ⟨u',r',?_⟩;rcases q with ⟨k,e⟩ | ⟨k,c,e,z⟩
    ·refine .inl ⟨k,?_⟩;have:y≠x:=fun e=>hj (oP hN e1 (e ▸ hi));simp [this,e]
    ·exact .inr ⟨k,c,e,z.sameBut hs (cne y c e)⟩
  ·obtain ⟨w',z⟩:=I.cell y c e;exact ⟨w',z.sameBut hs (cne y c e)⟩
  ·obtain ⟨e,n,ne,nf,d⟩:=I.pin p hp;exact ⟨(hs.2 p.1 ne).trans e,n,ne,nf,d⟩
 ·have hfn:X.fn x=true:=by
   rcases hf with z | z
   ·exact z
   ·rw [z] at hk;cases hk
  obtain ⟨c,hc⟩:=I.ok.has x (.inl hk);obtain ⟨w',z⟩:=I.cell x c hc;refine wpAny_storeName_cell I.ok.kind hk hc z (fun h' hc' hs=>?_);obtain ⟨oc,hoc,hocd⟩:=id z;refine h { s with heap:=h' } ⟨I.ok,I.os,I.bare,⟨fun b o e n hb hx=>?_,fun b o e n hb hx=>?_,I.base.free,fun b o e hx=>?_,I.base.tups,I.base.frzs,I.base.tbls⟩,⟨m,hn.sameBut hs (Ne.symm (cne x c hc)),fun j y v' e1 e2 e3=>?_⟩,fun y c' e=>?_,I.free,I.freeC,fun p hp=>?_,tracked ⟨oc,hoc,I.freeC x c hc⟩ hs,by simpa using I.len⟩ ⟨c,hs,.inr hc⟩
  ·exact (hs.2 b (aAH (aAj (aAu e) (I.ok.cab x c hfn hc)))).trans (I.base.keep b o e n hb hx)
  ·obtain ⟨sl,e1⟩:=I.base.slot b o e n hb hx;exact ⟨sl,(hs.2 b (aAH (aAj (aAu e) (I.ok.cab x c hfn hc)))).trans e1⟩
  ·obtain ⟨o',e1⟩:=I.base.there b o e hx;exact ⟨o',(hs.2 b (aAH (aAj (aAu e) (I.ok.cab x c hfn hc)))).trans e1⟩
  ·by_cases hj:j=i
   ·subst hj;rw [hi] at e1;cases e1;rw [aBW hiσ] at e2
    cases e2
    exact ⟨u,r,.inr ⟨.inl hk,c,hc,hc'⟩⟩
   ·rw [List.getElem?_set_ne (Ne.symm hj)] at e2;obtain ⟨u',r',q⟩:=hl j y v' e1 e2 e3;refine ⟨u',r',?_⟩;rcases q with q | ⟨k,c',e,z'⟩
    ·exact .inl q
    ·refine .inr ⟨k,c',e,z'.sameBut hs ?_⟩;rintro rfl;exact hj (oP hN e1 (I.ok.inj _ _ _ e hc ▸ hi))
  ·by_cases hcc:c'=c
   ·subst hcc;exact ⟨_,hc'⟩
   ·obtain ⟨w2,z2⟩:=I.cell y c' e;exact ⟨w2,z2.sameBut hs hcc⟩
  ·obtain ⟨e,n,ne,nf,d⟩:=I.pin p hp;refine ⟨(hs.2 p.1 ?_).trans e,n,ne,nf,d⟩;intro q;rw [q,hoc] at e;have q':oc=p.2:=Option.some.inj e;exact d w' (by rw [← q'];exact hocd)
theorem kn {M:Model} {A:Around} {E:Value→Shared→Prop} {i:Nat} {x:Str} {v:V} {u:Value} {Q:Unit→Shared→Prop} (I:Inv X pins σ H s) (hN:X.N.Nodup) (hi:X.N[i]?=some x) (hx:Loc X.env.scope x) (r:RelV v u)
  (h:∀ s',Inv X pins (σ.set i (some v)) H s'→Q () s') (hf:X.fn x=true∨X.env.scope.names.lookup x=some .local:=by first | exact .inl rfl | exact .inr rfl | assumption):wpAny M A (storeName X.env x u) Q E s :=
 sU I hN hi hx r (fun s' I' _=>h s' I') hf
theorem Inv.call' {s':Shared} {ch:List Addr} (I:Inv X pins σ H s) (ho:s'.os=s.os) (u:Un (frs X.stack) ch H H' s.heap s'.heap) (hok:HOk X.prog X.w H' s'.heap) (hg:AllBare s'.gens)
  (hch:∀ b∈ch,(b∈X.ex∨X.s₀.heap.objs.size≤b)∧b≠X.env.locals∧(∀ x c,X.env.cells.lookup x=some c→c≠b)∧∀ p∈X.pn++pins,p.1≠b):Inv X pins σ H' s':=by
 obtain ⟨h',g',d',t',o'⟩:=s';have e:o'=s.os:=ho;subst e;exact I.call (g':=g') (t':=t') (d':=d') u hok hg hch
end
abbrev XK:=Value→Option Addr→Hp→Prop
abbrev St:=List (Option V)
abbrev VK:=V→Hp→Prop
abbrev TE:=St→Hp→VK→Prop
abbrev TT:=St→Hp→(Bool→Hp→Prop)→Prop
abbrev TA:=St→Hp→(List V→Hp→Prop)→Prop
structure Ends where
 nx:St→Hp→Prop
 rt:VK
 bk:St→Hp→Prop:=fun _ _=>False
 ct:St→Hp→Prop:=fun _ _=>False
abbrev TS:=Ends→St→Hp→Prop
def EP (X:Cx) (pins:List (Addr×Obj)) (σ:St) (Q:VK) (u:Value) (s':Shared):Prop:=∃ v H',Inv X pins σ H' s'∧RelV v u∧Q v H'
def TP (X:Cx) (pins:List (Addr×Obj)) (σ:St) (Q:Bool→Hp→Prop) (b:Bool) (s':Shared):Prop:=∃ H',Inv X pins σ H' s'∧Q b H'
def AP (X:Cx) (pins:List (Addr×Obj)) (σ:St) (Q:List V→Hp→Prop) (us:List Value) (s':Shared):Prop:=∃ vs H',Inv X pins σ H' s'∧Vals vs us∧Q vs H'
def SP (X:Cx) (pins:List (Addr×Obj)) (D:Ends) (f:Flow) (s':Shared):Prop :=
 match f with
 | .next=>∃ σ' H',Inv X pins σ' H' s'∧D.nx σ' H'
 | .brk=>∃ σ' H',Inv X pins σ' H' s'∧D.bk σ' H'
 | .cont=>∃ σ' H',Inv X pins σ' H' s'∧D.ct σ' H'
 | .ret u=>∃ v σ' H',Inv X pins σ' H' s'∧RelV v u∧D.rt v H'
def PE (X:Cx) (e:Expr) (t:TE):Prop :=
 ∀ (pins:List (Addr×Obj)) (s:Shared) (σ:St) (H:Hp) (Q:VK),Inv X pins σ H s→t σ H Q→wpAny (model X.prog X.w) X.A (eval e X.env) (EP X pins σ Q) X.xe s
def PT (X:Cx) (e:Expr) (t:TT):Prop :=
 ∀ (pins:List (Addr×Obj)) (s:Shared) (σ:St) (H:Hp) (Q:Bool→Hp→Prop),Inv X pins σ H s→t σ H Q→wpAny (model X.prog X.w) X.A (isTrue e X.env (eval e X.env)) (TP X pins σ Q) X.xe s
def PW (X:Cx) (e:Expr) (t:TT):Prop :=
 ∀ (whole:Sem Value) (pins:List (Addr×Obj)) (s:Shared) (σ:St) (H:Hp) (Q:Bool→Hp→Prop),Inv X pins σ H s→t σ H Q→wpAny (model X.prog X.w) X.A (isTrue e X.env whole) (TP X pins σ Q) X.xe s
theorem PW.pt {X:Cx} {e:Expr} {t:TT} (h:PW X e t):PT X e t:=h _
def PA (X:Cx) (es:List Expr) (t:TA):Prop :=
 ∀ (pos:Pos) (pins:List (Addr×Obj)) (s:Shared) (σ:St) (H:Hp) (Q:List V→Hp→Prop),Inv X pins σ H s→t σ H Q→wpAny (model X.prog X.w) X.A (spliced (backTo pos (starEach es X.env))) (AP X pins σ Q) X.xe s
def PS (X:Cx) (st:Stmt) (t:TS):Prop :=
 ∀ (pins:List (Addr×Obj)) (s:Shared) (σ:St) (H:Hp) (D:Ends),Inv X pins σ H s→t D σ H→wpAny (model X.prog X.w) X.A (exec st X.env) (SP X pins D) X.xe s
def PSs (X:Cx) (st:List Stmt) (t:TS):Prop :=
 ∀ (pins:List (Addr×Obj)) (s:Shared) (σ:St) (H:Hp) (D:Ends),Inv X pins σ H s→t D σ H→wpAny (model X.prog X.w) X.A (execs st X.env) (SP X pins D) X.xe s
theorem thn {α:Type} {t:Sem α} {Q Q':α→Shared→Prop} {M:Model} {A:Around} {E:Value→Shared→Prop} {s:Shared} (h:wpAny M A t Q E s) (hQ:∀ a s,Q a s→Q' a s):wpAny M A t Q' E s:=wpAny_mono h hQ fun _ _ x=>x
section
variable {X:Cx}
inductive IVar (i:Nat) (σ:St) (H:Hp) (Q:VK):Prop
 | mk (v:V):(σ[i]?=some (some v))→(Q v H)→IVar i σ H Q
def ik (i:Nat):TE:=fun σ H Q=>IVar i σ H Q
def tC (v:V):TE:=fun _ H Q=>Q v H
theorem Aw {i:Nat} {x:Str} {pos:Pos} (hN:X.N[i]?=some x) (hv:Vis X.env.scope x) (hd:(x == ("__debug__" : Str))=false:=by decide) (hcd:(x == ("__classdict__" : Str))=false:=by decide):PE X (.Name x pos) (ik i):=by
 intro pins s σ H Q I h;obtain ⟨v,e,h⟩:=h;obtain ⟨m,hn,hl⟩:=I.loc;obtain ⟨u,r,l⟩:=hl i x v hN e hv;have fin:EP X pins σ Q u s:=⟨v,H,I,r,h⟩;rcases l with ⟨hk,hm⟩ | ⟨hk,c,hc,hcell⟩
 ·exact wpAny_Name (wpAny_loadName_local I.ok.kind hk hn hm fin) hd
 ·rcases hk with hk | hk
  ·exact wpAny_Name (wpAny_loadName_cell I.ok.kind hk hc hcell fin) hd
  ·exact wpAny_Name (wpAny_loadName_free I.ok.kind hk hc hcell fin hcd) hd
theorem pe_int {i j pos}:PE X (.Constant (.int i) j pos) (tC (.int i)):=fun _ _ _ H _ I h=>wpAny_Constant_int ⟨.int i,H,I.tok _,⟨_,rfl⟩,h⟩
theorem uB {b j pos}:PE X (.Constant (.bool b) j pos) (tC (.bl b)):=fun _ _ _ H _ I h=>Constant_bool ⟨.bl b,H,I,rfl,h⟩
theorem pe_non {j pos}:PE X (.Constant .none j pos) (tC .non):=fun _ _ _ H _ I h=>Constant_none ⟨.non,H,I,rfl,h⟩
theorem pe_str {x j pos}:PE X (.Constant (.str x) j pos) (tC (.str x)):=fun _ _ _ H _ I h=>Calls.Constant_str ⟨.str x,H,I.tok _,⟨_,rfl⟩,h⟩
def Gl (X:Cx) (x:Str):Prop:=X.env.kindOf x=some .globalImplicit
theorem im {E:Value→Shared→Prop} {pins:List (Addr×Obj)} {s:Shared} {σ:St} {H:Hp} {x:Str} {u:Value} {pos:Pos} {Q:Value→Shared→Prop} (I:Inv X pins σ H s) (hg:Gl X x) (hm:X.mg x=some u) (h:Q u s)
  (hd:(x == ("__debug__" : Str))=false:=by decide):wpAny (model X.prog X.w) X.A (eval (.Name x pos) X.env) Q E s :=
 Calls.Name_function_global I.ok.kind hg (Calls.loadGlobal_global (by rw [I.ok.glob];exact I.mod.glob.keeps I.bk) hm h) hd
theorem i8 {E:Value→Shared→Prop} {pins:List (Addr×Obj)} {s:Shared} {σ:St} {H:Hp} {x:Str} {u:Value} {pos:Pos} {Q:Value→Shared→Prop} (I:Inv X pins σ H s) (hg:Gl X x) (hm:X.mg x=none) (hv:bootBuiltins x=some u) (h:Q u s)
  (hn:x≠ "__name__" :=by decide) (hd:(x == ("__debug__" : Str))=false:=by decide):wpAny (model X.prog X.w) X.A (eval (.Name x pos) X.env) Q E s:=by
 obtain ⟨mb,h1,h2⟩:=I.mod.blt;exact Calls.Name_function_global I.ok.kind hg (Calls.loadGlobal_builtin (by rw [I.ok.glob];exact I.mod.glob.keeps I.bk) hm (by rw [I.ok.blt];exact h1.keeps I.bk) ((h2 x hn).trans hv) h) hd
theorem m4 {x:Str} {v:V} {u:Value} {pos:Pos} (hg:Gl X x) (hm:X.mg x=some u) (r:RelV v u) (hd:(x == ("__debug__" : Str))=false:=by decide):PE X (.Name x pos) (tC v) :=
 fun _ _ _ H _ I h=>im I hg hm ⟨v,H,I,r,h⟩ hd
theorem wD {x:Str} {v:V} {u:Value} {pos:Pos} (hg:Gl X x) (hm:X.mg x=none) (hv:bootBuiltins x=some u) (r:RelV v u) (hn:x≠ "__name__" :=by decide) (hd:(x == ("__debug__" : Str))=false:=by decide):PE X (.Name x pos) (tC v) :=
 fun _ _ _ H _ I h=>i8 I hg hm hv ⟨v,H,I,r,h⟩ hn hd
variable {a b:Expr} {ta tb:TE} {pos:Pos}
def tB (t:TE):TT:=fun σ H Q=>t σ H fun x H1=>∃ c,x=.bl c∧Q c H1
theorem pt_val {e:Expr} {t:TE} (h:PE X e t) (he:∀ whole,isTrue e X.env whole=(do let v ← whole;standAt e.pos;holding [v] (truthy v)):=by intro _;rfl):PT X e (tB t):=by
 intro pins s σ H Q I hw;refine isTrue_plain (thn (h pins s σ H _ I hw) fun v s1 ⟨x,H1,I1,r1,q1⟩=>?_) (he _);obtain ⟨d,rfl,q⟩:=q1
 cases r1
 exact wpAny_truthy_bool ⟨H1,I1,q⟩
variable {tA tB':TT} {rest:List Expr}
def Ax (t u:TT):TT:=fun σ H Q=>t σ H fun c H1=>if c=true then u σ H1 Q else Q false H1
def tOr (t u:TT):TT:=fun σ H Q=>t σ H fun c H1=>if c=true then Q true H1 else u σ H1 Q
def Hl (t:TT):TT:=fun σ H Q=>t σ H fun c H1=>Q (!c) H1
theorem pw_and1 (ha:PT X a tA):PW X (.BoolOp .And [a] pos) tA:=by
 intro wh pins s σ H Q I h;refine isTrue_and (thn (ha pins s σ H Q I h) fun c s1 e=>?_)
 cases c with
 | true=>exact isTrue_and_nil e
 | false=>exact e
theorem i9 (ha:PT X a tA):PW X (.BoolOp .Or [a] pos) tA:=by
 intro wh pins s σ H Q I h;refine isTrue_or (thn (ha pins s σ H Q I h) fun c s1 e=>?_)
 cases c with
 | false=>exact isTrue_or_nil e
 | true=>exact e
theorem pw_and (ha:PT X a tA) (hb:PW X (.BoolOp .And (b :: rest) pos) tB'):PW X (.BoolOp .And (a :: b :: rest) pos) (Ax tA tB'):=by
 intro wh pins s σ H Q I h;refine isTrue_and (thn (ha pins s σ H _ I h) fun c s1 ⟨H1,I1,q1⟩=>?_)
 cases c with
 | true=>exact hb wh pins s1 σ H1 Q I1 q1
 | false=>exact ⟨H1,I1,q1⟩
theorem io (ha:PT X a tA) (hb:PW X (.BoolOp .Or (b :: rest) pos) tB'):PW X (.BoolOp .Or (a :: b :: rest) pos) (tOr tA tB'):=by
 intro wh pins s σ H Q I h;refine isTrue_or (thn (ha pins s σ H _ I h) fun c s1 ⟨H1,I1,q1⟩=>?_)
 cases c with
 | true=>exact ⟨H1,I1,q1⟩
 | false=>exact hb wh pins s1 σ H1 Q I1 q1
theorem qp (ha:PT X a tA):PT X (.UnaryOp .Not a pos) (Hl tA):=by
 intro pins s σ H Q I h;exact isTrue_not (ha pins s σ H (fun c H1=>Q (!c) H1) I h)
def Ga (ta tb:TE):TE:=fun σ H Q=>ta σ H fun x H1=>∃ c,x=.bl c∧if c=true then tb σ H1 Q else Q (.bl false) H1
theorem Ay {op} {t:TE} (h:PE X a t):PE X (.BoolOp op [a] pos) t:=fun pins s σ H Q I hw=>BoolOp_one (h pins s σ H Q I hw)
theorem uC (ha:PE X a ta) (hb:PE X (.BoolOp .And (b :: rest) pos) tb):PE X (.BoolOp .And (a :: b :: rest) pos) (Ga ta tb):=by
 intro pins s σ H Q I h;refine BoolOp_and (thn (ha pins s σ H _ I h) fun v s1 ⟨x,H1,I1,r1,q1⟩=>?_);obtain ⟨c,rfl,q1⟩:=q1
 cases r1
 refine wpAny_truthy_bool ?_
 cases c with
 | true=>exact hb pins s1 σ H1 Q I1 q1
 | false=>exact ⟨.bl false,H1,I1,rfl,q1⟩
def tIf (t:TT) (ta tb:TE):TE:=fun σ H Q=>t σ H fun c H1=>if c=true then ta σ H1 Q else tb σ H1 Q
theorem ko {c:Expr} (hc:PT X c tA) (ha:PE X a ta) (hb:PE X b tb):PE X (.IfExp c a b pos) (tIf tA ta tb):=by
 intro pins s σ H Q I h;refine wpAny_IfExp (thn (hc pins s σ H _ I h) fun d s1 ⟨H1,I1,q1⟩=>?_)
 cases d with
 | true=>exact ha pins s1 σ H1 Q I1 q1
 | false=>exact hb pins s1 σ H1 Q I1 q1
end
def SqL (K:W.Frag) (H:Hp) (a:Addr) (xs:List V):Prop :=
 Rd H a (.lst xs) ∨
  ∃ (o:Obj) (its:Array Value) (n:Nat),K.lookup a=some o∧o.cls=.type "list" ∧o.dict=none∧o.data=.seq its n∧its.size≤sizeLine∧Vals xs its.toList
def SqT (K:W.Frag) (H:Hp) (a:Addr) (xs:List V):Prop :=
 Rd H a (.tup xs) ∨
  ∃ (o:Obj) (its:Array Value) (n:Nat),K.lookup a=some o∧o.cls=.type "tuple" ∧o.data=.seq its n∧its.size≤sizeLine∧Vals xs its.toList
def Hm:Value→Option V
 | .none=>some .non
 | .bool b=>some (.bl b)
 | .int i _=>some (.int i)
 | .str x _=>some (.str x)
 | .bytes b _=>some (.byt b)
 | .float b _=>some (.flt b)
 | .ref a=>some (.ref a)
 | .type n=>some (.ty n)
 | _=>none
theorem RelV.abs {x:V} {u:Value} (r:RelV x u):Hm u=some x:=by
 cases x with
 | non=>cases r;rfl
 | bl _=>cases r;rfl
 | int _=>obtain ⟨t,rfl⟩:=r;rfl
 | str _=>obtain ⟨t,rfl⟩:=r;rfl
 | byt _=>obtain ⟨t,rfl⟩:=r;rfl
 | flt _=>obtain ⟨t,rfl⟩:=r;rfl
 | ref _=>cases r;rfl
 | ty _=>cases r;rfl
theorem RelV.inj {x y:V} {u:Value} (r:RelV x u) (q:RelV y u):x=y:=Option.some.inj (r.abs.symm.trans q.abs)
theorem Vals.inj:∀ {xs ys:List V} {us:List Value},Vals xs us→Vals ys us→xs=ys
 | _,_,_,.nil,.nil=>rfl
 | _,_,_,.cons r t,.cons r' t'=>by rw [r.inj r',Vals.inj t t']
section
variable {X:Cx} {pins:List (Addr×Obj)} {σ:St} {H:Hp} {s:Shared} {a:Addr} {xs ys:List V}
theorem SqL.of {K:W.Frag} (h:H a=some (.lst xs)):SqL K H a xs:=.inl (.inl h)
theorem SqT.of {K:W.Frag} (h:H a=some (.tup xs)):SqT K H a xs:=.inl (.inl h)
theorem Inv.list (I:Inv X pins σ H s) (h:SqL X.K H a xs):∃ its:List Value,Vals xs its∧PlainL s.heap a its.toArray∧xs.length≤sizeLine:=by
 rcases h with h | ⟨o,its,n,hk,hc,hd,hs,hz,r⟩
 ·obtain ⟨z,its,n,r,e⟩:=h.ok I.hok;exact ⟨its,r,⟨_,n,e,rfl,rfl,rfl⟩,z⟩
 ·refine ⟨its.toList,r,⟨o,n,I.kIn a o hk,hc,hd,by simpa using hs⟩,?_⟩;have e:=r.length;simp only [aAU] at e;lia
theorem Inv.tuple (I:Inv X pins σ H s) (h:SqT X.K H a xs):∃ its:List Value,Vals xs its∧IsTup s.heap a its.toArray∧xs.length≤sizeLine:=by
 rcases h with h | ⟨o,its,n,hk,hc,hs,hz,r⟩
 ·obtain ⟨z,its,r,p⟩:=h.ok I.hok;exact ⟨its,r,p,z⟩
 ·refine ⟨its.toList,r,⟨o,I.kIn a o hk,hc,n,by simpa using hs⟩,?_⟩;have e:=r.length;simp only [aAU] at e;lia
theorem Inv.list_inj (I:Inv X pins σ H s) (h:SqL X.K H a xs) (h':SqL X.K H a ys):xs=ys:=by
 obtain ⟨its,r,⟨o,n,e,_,_,d⟩,_⟩:=I.list h;obtain ⟨its',r',⟨o',n',e',_,_,d'⟩,_⟩:=I.list h';rw [e] at e';cases e';rw [d] at d';injection d' with d1 _
 have:its=its':=by simpa using congrArg Array.toList d1
 subst this;exact r.inj r'
theorem Inv.tuple_inj (I:Inv X pins σ H s) (h:SqT X.K H a xs) (h':SqT X.K H a ys):xs=ys:=by
 obtain ⟨its,r,⟨o,e,_,n,d⟩,_⟩:=I.tuple h;obtain ⟨its',r',⟨o',e',_,n',d'⟩,_⟩:=I.tuple h';rw [e] at e';cases e';rw [d] at d';injection d' with d1 _
 have:its=its':=by simpa using congrArg Array.toList d1
 subst this;exact r.inj r'
end
abbrev Cx.wish (X:Cx) (E:Value→Shared→Prop):Cx:={ X with xe:=E }
abbrev Cx.nox (X:Cx):Cx:=X.wish fun _ _=>False
theorem Cx.Ok.wish {X:Cx} (ok:X.Ok) (E:Value→Shared→Prop):(X.wish E).Ok :=
 ⟨ok.mod,ok.kind,ok.glob,ok.blt,ok.above,ok.inj,ok.has,ok.cab,ok.hd,ok.frames,ok.stk,ok.exf,ok.bs,ok.bsz,ok.noex,ok.exfs,ok.funs,ok.frf⟩
theorem Cx.Ok.unwish {X:Cx} {E:Value→Shared→Prop} (ok:(X.wish E).Ok):X.Ok :=
 ⟨ok.mod,ok.kind,ok.glob,ok.blt,ok.above,ok.inj,ok.has,ok.cab,ok.hd,ok.frames,ok.stk,ok.exf,ok.bs,ok.bsz,ok.noex,ok.exfs,ok.funs,ok.frf⟩
section
variable {X:Cx} {pins:List (Addr×Obj)} {σ:St} {H:Hp} {s:Shared} {E:Value→Shared→Prop}
theorem Inv.wish (I:Inv X pins σ H s) (E:Value→Shared→Prop):Inv (X.wish E) pins σ H s:=⟨I.ok.wish E,I.os,I.bare,I.base,I.loc,I.cell,I.free,I.freeC,I.pin,I.hok,I.len⟩
theorem Inv.unwish (I:Inv (X.wish E) pins σ H s):Inv X pins σ H s:=⟨I.ok.unwish,I.os,I.bare,I.base,I.loc,I.cell,I.free,I.freeC,I.pin,I.hok,I.len⟩
theorem SP.unwish {D:Ends} {f:Flow} {s':Shared} (h:SP (X.wish E) pins D f s'):SP X pins D f s':=by
 cases f with
 | next=>obtain ⟨σ',H',I,q⟩:=h;exact ⟨σ',H',I.unwish,q⟩
 | brk=>obtain ⟨σ',H',I,q⟩:=h;exact ⟨σ',H',I.unwish,q⟩
 | cont=>obtain ⟨σ',H',I,q⟩:=h;exact ⟨σ',H',I.unwish,q⟩
 | ret u=>obtain ⟨v,σ',H',I,r,q⟩:=h;exact ⟨v,σ',H',I.unwish,r,q⟩
theorem PSs.nox {st:List Stmt} {t:TS} (h:PSs X.nox st t):PSs X st t:=fun pins s σ H D I hw =>
 wpAny_mono (h pins s σ H D (I.wish _) hw) (fun _ _ q=>q.unwish) fun _ _ z=>False.elim z
end
section
variable {X:Cx} {st:Stmt} {rest:List Stmt} {t u:TS} {e:Expr} {te:TE} {pos:Pos}
def xL:TS:=fun D σ H=>D.nx σ H
def Gb (t u:TS):TS:=fun D σ H=>t { D with nx:=u D } σ H
theorem pss_nil:PSs X [] xL:=fun _ _ σ H _ I h=>wpAny_execs_nil ⟨σ,H,I,h⟩
theorem pss_cons (h1:PS X st t) (h2:PSs X rest u):PSs X (st :: rest) (Gb t u):=by
 intro pins s σ H D I h;refine wpAny_execs_cons (thn (h1 pins s σ H { D with nx:=u D } I h) fun f s1 q=>?_)
 cases f with
 | next =>
  obtain ⟨σ',H',I',q⟩:=q;exact h2 pins s1 σ' H' D I' q
 | ret v=>exact q
 | brk=>exact q
 | cont=>exact q
theorem pss_one (h1:PS X st t):PSs X [st] t:=by
 intro pins s σ H D I h;refine wpAny_execs_cons (thn (h1 pins s σ H D I h) fun f s1 q=>?_)
 cases f with
 | next=>exact wpAny_execs_nil q
 | ret v=>exact q
 | brk=>exact q
 | cont=>exact q
theorem Inv.quiet {pins:List (Addr×Obj)} {σ:St} {H:Hp} {s:Shared} (I:Inv X pins σ H s):interactive X.env=false:=by simp [interactive,I.ok.kind]
def Gc (te:TE):TS:=fun D σ H=>te σ H fun _ H1=>D.nx σ H1
theorem ps_expr (he:PE X e te) (hs:swapsWith e none pos.line X.env=pure false:=by rfl):PS X (.Expr e pos) (Gc te):=by
 intro pins s σ H D I h;exact wpAny_Expr_any (thn (he pins s σ H _ I h) fun v s1 ⟨x,H1,I1,r1,q1⟩=>⟨σ,H1,I1,q1⟩) I.quiet hs
def Az (te:TE):TS:=fun D σ H=>te σ H D.rt
theorem ps_ret (he:PE X e te):PS X (.Return (some e) pos) (Az te):=by
 intro pins s σ H D I h;exact wpAny_Return_some (thn (he pins s σ H _ I h) fun v s1 ⟨x,H1,I1,r1,q1⟩=>⟨x,σ,H1,I1,r1,q1⟩)
def Hn (c:TT) (t u:TS):TS:=fun D σ H=>c σ H fun b H1=>if b=true then t D σ H1 else u D σ H1
theorem ps_if {c:Expr} {a b:List Stmt} {tc:TT} (hc:PT X c tc) (ha:PSs X a t) (hb:PSs X b u):PS X (.If c a b pos) (Hn tc t u):=by
 intro pins s σ H D I h;refine wpAny_If (thn (hc pins s σ H _ I h) fun d s1 ⟨H1,I1,q1⟩=>?_)
 cases d with
 | true=>exact ha pins s1 σ H1 D I1 q1
 | false=>exact hb pins s1 σ H1 D I1 q1
end
abbrev TG:=V→St→Hp→(St→Hp→Prop)→Prop
abbrev TGs:=List V→St→Hp→(St→Hp→Prop)→Prop
def PG (X:Cx) (target:Expr) (t:TG):Prop :=
 ∀ (pins:List (Addr×Obj)) (s:Shared) (σ:St) (H:Hp) (v:V) (u:Value) (Q:St→Hp→Prop),Inv X pins σ H s→RelV v u→t v σ H Q →
  wpAny (model X.prog X.w) X.A (assign target X.env u) (fun _ s'=>∃ σ' H',Inv X pins σ' H' s'∧Q σ' H') X.xe s
def PGs (X:Cx) (ts:List Expr) (t:TGs):Prop :=
 ∀ (pins:List (Addr×Obj)) (s:Shared) (σ:St) (H:Hp) (vs:List V) (us:List Value) (Q:St→Hp→Prop),Inv X pins σ H s→Vals vs us→t vs σ H Q →
  wpAny (model X.prog X.w) X.A (assignInOrder ((assignEach ts X.env).map (·.2)) us) (fun _ s'=>∃ σ' H',Inv X pins σ' H' s'∧Q σ' H') X.xe s
abbrev AA:=V→V→V→Hp→(Hp→Prop)→Prop
def Gd (X:Cx) (t:AA):Prop :=
 ∀ (pins:List (Addr×Obj)) (s:Shared) (σ:St) (H:Hp) (o i v:V) (ov iv u:Value) (Q:Hp→Prop),Inv X pins σ H s→RelV o ov→RelV i iv→RelV v u→t o i v H Q →
  wpAny (model X.prog X.w) X.A (setItem ov iv u) (fun _ s'=>∃ H',Inv X pins σ H' s'∧Q H') X.xe s
abbrev TIp:=V→V→Hp→VK→Prop
def PIp (X:Cx) (op:Operator) (t:TIp):Prop :=
 ∀ (pins:List (Addr×Obj)) (s:Shared) (σ:St) (H:Hp) (x y:V) (v u:Value) (Q:VK),Inv X pins σ H s→RelV x v→RelV y u→t x y H Q →
  wpAny (model X.prog X.w) X.A (inplaceOp op v u) (EP X pins σ Q) X.xe s
section
variable {X:Cx} {pos:Pos}
def dC (i:Nat):TG:=fun v σ H Q=>Q (σ.set i (some v)) H
theorem ai {i:Nat} {x:Str} (hN:X.N.Nodup) (hi:X.N[i]?=some x) (hx:Loc X.env.scope x) (hf:X.fn x=true∨X.env.scope.names.lookup x=some .local:=by first | exact .inl rfl | exact .inr rfl | assumption):PG X (.Name x pos) (dC i):=by
 intro pins s σ H v u Q I r h;exact wpAny_assign_Name (kn I hN hi hx r (fun s' I'=>⟨_,H,I',h⟩) hf)
def Ho:TGs:=fun vs σ H Q=>vs=[]∧Q σ H
def Ge (t:TG) (u:TGs):TGs:=fun vs σ H Q=>∃ v r,vs=v :: r∧t v σ H fun σ' H'=>u r σ' H' Q
theorem di:PGs X [] Ho:=by
 intro pins s σ H vs us Q I r h;obtain ⟨e,h⟩:=h;subst e
 cases r
 exact assignInOrder_nil ⟨σ,H,I,h⟩
theorem aG {e:Expr} {es:List Expr} {t:TG} {u:TGs} (h1:PG X e t) (h2:PGs X es u)
  (hs:(assignEach (e :: es) X.env).map (·.2)=assign e X.env :: (assignEach es X.env).map (·.2):=by rfl):PGs X (e :: es) (Ge t u):=by
 intro pins s σ H vs us Q I r h;obtain ⟨v,vr,e1,h⟩:=h;subst e1
 cases r with
 | cons r rr =>
  rw [hs];refine assignInOrder_cons (thn (h1 pins s σ H _ _ _ I r h) fun _ s1 ⟨σ1,H1,I1,q1⟩=>?_);exact h2 pins s1 σ1 H1 _ _ Q I1 rr q1
def Gf (K:W.Frag) (n:Nat) (t:TGs):TG:=fun v σ H Q=>∃ a xs,v=.ref a∧SqT K H a xs∧xs.length=n∧t xs σ H Q
theorem ja {es:List Expr} {k:Nat} {t:TGs} {n:Nat} (hc:X.calm=true) (h:PGs X es t)
  (hn:(assignEach es X.env).length=n:=by rfl) (hst:(assignEach es X.env).findIdx? (·.1)=none:=by rfl):PG X (.Tuple es k pos) (Gf X.K n t):=by
 intro pins s σ H v u Q I r hw;obtain ⟨a,xs,e1,hq,hl,hw⟩:=hw;subst e1
 cases r
 obtain ⟨its,rv,ht,hz⟩:=I.tuple hq;refine assign_Tuple_tuple (I.ok.hd hc) ht (by simp [hn,← hl,rv.length]) hst fun h' hx=>?_;have I1:Inv X pins σ H { s with heap:=h' }:=I.kept (t':=s.toks) fun b o e=>hx b o (aAH (aAu e)) e;exact h pins _ σ H xs _ Q I1 (by simpa using rv) hw
def gSub (to ti:TE) (t:AA):TG:=fun v σ H Q=>to σ H fun o H1=>ti σ H1 fun i H2=>t o i v H2 fun H3=>Q σ H3
theorem qq {o i:Expr} {to ti:TE} {t:AA} (ho:PE X o to) (hi:PE X i ti) (hs:Gd X t)
  (ha:∀ v,assign (.Subscript o i pos) X.env v=(do
   let ov ← holding [v] (eval o X.env)
   let iv ← holding [v,ov] (eval i X.env)
   standAt pos
   holding [v,ov,iv] (setItem ov iv v)
   release [v,ov,iv] []):=by intro _;rfl):PG X (.Subscript o i pos) (gSub to ti t):=by
 intro pins s σ H v u Q I r h;rw [ha];refine wpAny_bind (wpAny_holding (thn (ho pins s σ H _ I h) fun ov s1 ⟨x,H1,I1,r1,q1⟩=>?_));refine wpAny_bind (wpAny_holding (thn (hi pins s1 σ H1 _ I1 q1) fun iv s2 ⟨y,H2,I2,r2,q2⟩=>?_));refine wpAny_bind (wpAny_standAt (wpAny_bind (wpAny_holding (thn (hs pins s2 σ H2 x y v ov iv u _ I2 r1 r2 r q2) fun _ s3 ⟨H3,I3,q3⟩=>?_))));exact wpAny_release ⟨σ,H3,I3,q3⟩
def Gg (te:TE) (g:TG):TS:=fun D σ H=>te σ H fun x H1=>g x σ H1 D.nx
theorem m5 {tg e:Expr} {te:TE} {g:TG} (he:PE X e te) (hg:PG X tg g) (hs:swapsWithSole [tg] e pos.line X.env=pure false:=by rfl) (hw:swappedStores [tg] e X.env=pure none:=by rfl)
  (h1:(assignEach [tg] X.env).map (·.2)=[assign tg X.env]:=by rfl):PS X (.Assign [tg] e pos) (Gg te g):=by
 intro pins s σ H D I h;refine wpAny_Assign_stores (thn (he pins s σ H _ I h) fun v s1 ⟨x,H1,I1,r1,q1⟩=>?_) hs hw;rw [h1];exact thn (hg pins s1 σ H1 x v _ I1 r1 q1) fun _ s2 q=>q
theorem ps_set {i:Nat} {x:Str} {e:Expr} {te:TE} {pos':Pos} (hN:X.N.Nodup) (hi:X.N[i]?=some x) (hx:Loc X.env.scope x) (he:PE X e te) (hs:swapsWith e (some (.Name x pos')) pos.line X.env=pure false:=by rfl) (hf:X.fn x=true∨X.env.scope.names.lookup x=some .local:=by first | exact .inl rfl | exact .inr rfl | assumption) :
  PS X (.Assign [.Name x pos'] e pos) (Gg te (dC i)):=by
 intro pins s σ H D I h;refine wpAny_Assign_Name (thn (he pins s σ H _ I h) fun v s1 ⟨y,H1,I1,r1,q1⟩=>?_) hs;exact kn I1 hN hi hx r1 (fun s2 I2=>⟨_,H1,I2,q1⟩) hf
def Hq (i:Nat) (te:TE) (ti:TIp):TS:=fun D σ H=>∃ x,σ[i]?=some (some x)∧te σ H fun y H1=>ti x y H1 fun z H2=>D.nx (σ.set i (some z)) H2
theorem qr {i:Nat} {x:Str} {e:Expr} {te:TE} {op:Operator} {ti:TIp} {pos':Pos} (hN:X.N.Nodup) (hi:X.N[i]?=some x) (hx:Loc X.env.scope x) (he:PE X e te) (ho:PIp X op ti) (hf:X.fn x=true∨X.env.scope.names.lookup x=some .local:=by first | exact .inl rfl | exact .inr rfl | assumption) :
  PS X (.AugAssign (.Name x pos') op e pos) (Hq i te ti):=by
 intro pins s σ H D I h;obtain ⟨v,e1,h⟩:=h;obtain ⟨m,hn,hl⟩:=I.loc;have vis:Vis X.env.scope x:=by rcases hx with k | k;exact .inl k;exact .inr (.inl k)
 obtain ⟨u,r,l⟩:=hl i x v hi e1 vis;refine wpAny_AugAssign_Name ?_;have go:wpAny (model X.prog X.w) X.A (eval e X.env) (fun w s₂=>wpAny (model X.prog X.w) X.A (inplaceOp op u w) (fun r s₃=>wpAny (model X.prog X.w) X.A (storeName X.env x r) (fun _=>SP X pins D .next) X.xe s₃) X.xe s₂) X.xe s:=by
  refine thn (he pins s σ H _ I h) fun w s1 ⟨y,H1,I1,r1,q1⟩=>?_;refine thn (ho pins s1 σ H1 v y u w _ I1 r r1 q1) fun z s2 ⟨zv,H2,I2,r2,q2⟩=>?_;exact kn I2 hN hi hx r2 (fun s3 I3=>⟨_,H2,I3,q2⟩) hf
 rcases l with ⟨hk,hm⟩ | ⟨hk,c,hc,hcell⟩
 ·exact wpAny_loadName_local I.ok.kind hk hn hm go
 ·rcases hk with hk | hk
  ·exact wpAny_loadName_cell I.ok.kind hk hc hcell go
  ·rcases hx with k | k
   ·have:X.env.scope.names.lookup x=some .free:=hk;rw [k] at this;cases this
   ·have:X.env.scope.names.lookup x=some .free:=hk;rw [k] at this;cases this
def ipI (f:Int→Int→Int):TIp:=fun x y H Q=>∃ i j,x=.int i∧y=.int j∧Q (.int (f i j)) H
theorem ip_add:PIp X .Add (ipI fun i j=>i+j):=by
 intro pins s σ H x y v u Q I r1 r2 h;obtain ⟨i,j,e1,e2,q⟩:=h;subst e1;subst e2;obtain ⟨t,rfl⟩:=r1;obtain ⟨t',rfl⟩:=r2;exact iadd_int ⟨.int _,H,I.tok _,⟨_,rfl⟩,q⟩
theorem AB:PIp X .Sub (ipI fun i j=>i - j):=by
 intro pins s σ H x y v u Q I r1 r2 h;obtain ⟨i,j,e1,e2,q⟩:=h;subst e1;subst e2;obtain ⟨t,rfl⟩:=r1;obtain ⟨t',rfl⟩:=r2;exact isub_int ⟨.int _,H,I.tok _,⟨_,rfl⟩,q⟩
end
section
variable {X:Cx} {pos:Pos}
def AC (c:TT) (tb:TS):TS:=fun D σ H=>∃ W:Nat→St→Hp→Prop,(∃ m,W m σ H)∧∀ m σ H,W m σ H →
 c σ H fun b H1=>if b=true then ∃ N:St→Hp→Prop,(∀ σ' H',N σ' H'→∃ m',m' < m∧W m' σ' H')∧tb { D with nx:=N,ct:=N,bk:=D.nx } σ H1 else D.nx σ H1
theorem kq {c:Expr} {body:List Stmt} {tc:TT} {tb:TS} (hp:PassesOwn (model X.prog X.w) X.A X.env X.xe) (hc:PT X c tc) (hb:PSs X body tb):PS X (.While c body [] pos) (AC tc tb):=by
 intro pins s σ H D I h;obtain ⟨W,⟨m0,w0⟩,turn⟩:=h;refine wpAny_While (codeAny_whileLoop (fun n s'=>∃ σ' H',Inv X pins σ' H' s'∧W n σ' H') ?_ m0 ⟨σ,H,I,w0⟩);rintro n s1 ⟨σ1,H1,I1,w1⟩;refine wpAny_passesOwn hp (thn (hc pins s1 σ1 H1 _ I1 (turn n σ1 H1 w1)) fun b s2 ⟨H2,I2,q2⟩=>?_)
 cases b with
 | true =>
  obtain ⟨N,hN,q2⟩:=q2;rw [if_pos rfl];refine wpAny_passesOwn hp (thn (hb pins s2 σ1 H2 _ I2 q2) fun f s3 q3=>?_)
  cases f with
  | next =>
   obtain ⟨σ3,H3,I3,n3⟩:=q3;obtain ⟨m',hm,w3⟩:=hN σ3 H3 n3;exact ⟨m',hm,σ3,H3,I3,w3⟩
  | cont =>
   obtain ⟨σ3,H3,I3,n3⟩:=q3;obtain ⟨m',hm,w3⟩:=hN σ3 H3 n3;exact ⟨m',hm,σ3,H3,I3,w3⟩
  | brk=>exact q3
  | ret v=>exact q3
 | false =>
  rw [if_neg aAx];exact wpAny_execs_nil ⟨σ1,H2,I2,q2⟩
end
structure It where
 go:Nat→Hp→Prop
 yld:Nat→Hp→V→Hp→Prop
 stop:Nat→Hp→Prop
def ip (X:Cx) (pins:List (Addr×Obj)) (H:Hp) (b:Addr):Prop :=
 H b=none∧b≠X.env.locals∧b∉X.fs∧(b∈X.ex∨X.s₀.heap.objs.size≤b)∧(∀ x c,X.env.cells.lookup x=some c→c≠b)∧∀ p∈X.pn++pins,p.1≠b
theorem Inv.fpOk {X:Cx} {pins:List (Addr×Obj)} {σ:St} {H H':Hp} {s:Shared} {b:Addr} (I:Inv X pins σ H s) (hb:s.heap.objs.size≤b) (hn:H' b=none):ip X pins H' b:=by
 refine ⟨hn,aBJ (aAj I.lt hb),I.nofs hb,.inr (aAA I.sz hb),fun x c e z=>?_,fun p hp z=>?_⟩
 ·obtain ⟨v,q⟩:=I.cell x c e;exact absurd (aAj q.lt (by rw [z];exact hb)) (aAR _)
 ·exact absurd (aAj (aAu (I.pin p hp).1) (by rw [z];exact hb)) (aAR _)
structure Turn (P:Program) (w:World) (K:W.Frag) (tg:Expr) (J:It) (fp:List Addr) (it:Addr) (tn:Nat→Heap→Prop):Prop where
 mem:it∈fp
 obj:∀ i h,tn i h→∀ b∈fp,∃ o,h.get? b=some o∧∀ v,o.data≠.cell v
 keep:∀ i h h',tn i h→(∀ b∈fp,∀ o,h.get? b=some o→h'.get? b=some o)→tn i h'
 item:∀ (X:Cx),X.prog=P→X.w=w→X.K=K→X.calm=true→∀ (i:Nat) (pins:List (Addr×Obj)) (s:Shared) (σ:St) (H:Hp) (E:Value→Shared→Prop),Inv X pins σ H s→(∀ b∈fp,ip X pins H b)→tn i s.heap→J.go i H →
  wpAny (model P w) X.A (pyNext (.ref it)) (fun r s1=>∃ u,r=some u ∧
   wpAny (model P w) X.A (letOwnedTupleGo tg (.ref it) u) (fun _ s2=>∃ x H',Inv X pins σ H' s2∧RelV x u∧J.yld i H x H'∧tn (i+1) s2.heap∧∀ b∈fp,H' b=none) E s1) E s
 done:∀ (X:Cx),X.prog=P→X.w=w→X.K=K→X.calm=true→∀ (i:Nat) (pins:List (Addr×Obj)) (s:Shared) (σ:St) (H:Hp) (E:Value→Shared→Prop),Inv X pins σ H s→(∀ b∈fp,ip X pins H b)→tn i s.heap→J.stop i H →
  wpAny (model P w) X.A (pyNext (.ref it)) (fun r s1=>r=none∧Inv X pins σ H s1) E s
 self:∀ (A:Around) (i:Nat) (s:Shared) (Q:Value→Shared→Prop) (E:Value→Shared→Prop),tn i s.heap→Q (.ref it) s→wpAny (model P w) A (pyIter (.ref it)) Q E s
abbrev TI:=St→Hp→(It→Hp→Prop)→Prop
def PIE (X:Cx) (pins:List (Addr×Obj)) (σ:St) (tg:Expr) (R:It→Hp→Prop) (itv:Value) (s2:Shared):Prop :=
 ∃ (it:Addr) (fp:List Addr) (tn:Nat→Heap→Prop) (J:It) (H':Hp),itv=.ref it∧Inv X pins σ H' s2∧Turn X.prog X.w X.K tg J fp it tn∧tn 0 s2.heap∧(∀ b∈fp,ip X pins H' b)∧R J H'
def PI (X:Cx) (tg iter:Expr) (wi:TI):Prop :=
 ∀ (pins:List (Addr×Obj)) (s:Shared) (σ:St) (H:Hp) (R:It→Hp→Prop),Inv X pins σ H s→wi σ H R →
  wpAny (model X.prog X.w) X.A (eval iter X.env) (fun v s1=>wpAny (model X.prog X.w) X.A (pyIter v) (PIE X pins σ tg R) X.xe s1) X.xe s
theorem rE {M:Model} {A:Around} {E:Value→Shared→Prop} {s:Shared} {tg:Expr} {it:Addr} {u:Value} {o:Obj} {n:String} {vs:Array Value} {Q:Unit→Shared→Prop} (ho:s.heap.get? it=some o) (hc:o.cls=.type n) (hd:o.data=.fields vs)
    (hn:["enumerate","zip","dict_itemiterator","dict_reverseitemiterator","odict_iterator","itertools.zip_longest","itertools.pairwise"].contains n=false) (hQ:Q () s):wpAny M A (letOwnedTupleGo tg (.ref it) u) Q E s:=by
  unfold letOwnedTupleGo
  cases tg <;> first
    | exact wpAny_pure hQ
    | (cases u <;> first
        | exact wpAny_pure hQ
        | (refine wpAny_bind (wpAny_load ho ?_)
           rw [hc,hd];show wpAny M A (if (["enumerate","zip","dict_itemiterator","dict_reverseitemiterator","odict_iterator","itertools.zip_longest","itertools.pairwise"].contains n && vs[0]? == some (rawInt _))=true then _ else _) Q E s;rw [if_neg (by intro h;rw [hn,Bool.false_and] at h;cases h)];exact wpAny_pure hQ))
def Itl (K:W.Frag) (a:Addr):It :=
 ⟨fun i H=>∃ xs x,SqL K H a xs∧xs[i]?=some x,fun i H x H'=>H'=H∧∀ xs,SqL K H a xs→xs[i]?=some x,fun i H=>∃ xs,SqL K H a xs∧xs.length≤i⟩
def Itt (K:W.Frag) (a:Addr):It :=
 ⟨fun i H=>∃ xs x,SqT K H a xs∧xs[i]?=some x,fun i H x H'=>H'=H∧∀ xs,SqT K H a xs→xs[i]?=some x,fun i H=>∃ xs,SqT K H a xs∧xs.length≤i⟩
def Itr (lo:Int) (n:Nat):It:=⟨fun i _=>i < n,fun i H x H'=>H'=H∧x=.int (lo+i),fun i _=>n≤i⟩
theorem sV {P:Program} {w:World} {K:W.Frag} {tg:Expr} (a it:Addr):Turn P w K tg (Itl K a) [it] it (fun i h=>h.IsListIter it a i) where
 mem:=by simp
 obj:=fun i h st b hb=>by
  have e:b=it:=by simpa using hb
  subst e;obtain ⟨o,e,c,d⟩:=st;exact ⟨o,e,fun v z=>by rw [d] at z;cases z⟩
 keep:=fun i h h' st k=>st.at fun o e=>k it (by simp) o e
 item:=by
  intro X hP hw hK hc i pins s σ H E I hf st hg;subst hP hw hK;obtain ⟨xs,x,hq,hx⟩:=hg;obtain ⟨its,rv,p,hz⟩:=I.list hq;obtain ⟨u,hu,ru⟩:=rv.get hx;obtain ⟨f0,f1,f2,f3,f4,f5⟩:=hf it (by simp);refine wpAny_pyNext_list_item st p.isList (x:=u) (by simpa using hu) fun h' st' sb=>?_;have I1:Inv X pins σ H { s with heap:=h' }:=I.turned (t':=s.toks) (fun b o hb e=>(sb.2 b hb).trans e) f0 f1 f3 f4 f5;obtain ⟨o,e,c,d⟩:=id st';exact ⟨u,rfl,rE (s:={ s with heap:=h' }) e c d (by decide) ⟨x,H,I1,ru,⟨rfl,fun ys hy=>by rw [I.list_inj hy hq];exact hx⟩,st',fun b hb=>(hf b hb).1⟩⟩
 done:=by
  intro X hP hw hK hc i pins s σ H E I hf st hg;subst hP hw hK;obtain ⟨xs,hq,hx⟩:=hg;obtain ⟨its,rv,p,hz⟩:=I.list hq;obtain ⟨f0,f1,f2,f3,f4,f5⟩:=hf it (by simp);have hl:=rv.length;exact wpAny_pyNext_list_end (I.ok.hd hc) st p.isList (by simp;lia) fun h' eb=>⟨rfl,I.turned (t':=s.toks) (fun b o hb e=>eb b o hb e) f0 f1 f3 f4 f5⟩
 self:=fun _ _ _ _ _ st h=>wpAny_pyIter_listiter st h
theorem qt {P:Program} {w:World} {K:W.Frag} {tg:Expr} (a it:Addr):Turn P w K tg (Itt K a) [it] it (fun i h=>h.IsTupleIter it a i) where
 mem:=by simp
 obj:=fun i h st b hb=>by
  have e:b=it:=by simpa using hb
  subst e;obtain ⟨o,e,c,d⟩:=st;exact ⟨o,e,fun v z=>by rw [d] at z;cases z⟩
 keep:=fun i h h' st k=>st.at fun o e=>k it (by simp) o e
 item:=by
  intro X hP hw hK hc i pins s σ H E I hf st hg;subst hP hw hK;obtain ⟨xs,x,hq,hx⟩:=hg;obtain ⟨its,rv,p,hz⟩:=I.tuple hq;obtain ⟨u,hu,ru⟩:=rv.get hx;obtain ⟨f0,f1,f2,f3,f4,f5⟩:=hf it (by simp);refine wpAny_pyNext_tuple_item st (show s.heap.IsTuple a its.toArray from p) (x:=u) (by simpa using hu) fun h' st' sb=>?_;have I1:Inv X pins σ H { s with heap:=h' }:=I.turned (t':=s.toks) (fun b o hb e=>(sb.2 b hb).trans e) f0 f1 f3 f4 f5;obtain ⟨o,e,c,d⟩:=id st';exact ⟨u,rfl,rE (s:={ s with heap:=h' }) e c d (by decide) ⟨x,H,I1,ru,⟨rfl,fun ys hy=>by rw [I.tuple_inj hy hq];exact hx⟩,st',fun b hb=>(hf b hb).1⟩⟩
 done:=by
  intro X hP hw hK hc i pins s σ H E I hf st hg;subst hP hw hK;obtain ⟨xs,hq,hx⟩:=hg;obtain ⟨its,rv,p,hz⟩:=I.tuple hq;obtain ⟨f0,f1,f2,f3,f4,f5⟩:=hf it (by simp);have hl:=rv.length;exact wpAny_pyNext_tuple_end (I.ok.hd hc) st (show s.heap.IsTuple a its.toArray from p) (by simp;lia) fun h' eb=>⟨rfl,I.turned (t':=s.toks) (fun b o hb e=>eb b o hb e) f0 f1 f3 f4 f5⟩
 self:=fun _ _ _ _ _ st h=>wpAny_pyIter_tupleiter st h
theorem qu {P:Program} {w:World} {K:W.Frag} {tg:Expr} (it:Addr) (lo:Int) (n:Nat):Turn P w K tg (Itr lo n) [it] it (fun i h=>IsRangeIter h it (lo+(i:Nat)*1) ((n:Int) - (i:Nat)) 1) where
 mem:=by simp
 obj:=fun i h st b hb=>by
  have e:b=it:=by simpa using hb
  subst e;exact ⟨_,st,fun v z=>by
   have z':Data.fields _=Data.cell v:=z
   cases z'⟩
 keep:=fun i h h' st k=>k it (by simp) _ st
 item:=by
  intro X hP hw hK hc i pins s σ H E I hf st hg;subst hP hw hK;obtain ⟨f0,f1,f2,f3,f4,f5⟩:=hf it (by simp);have W:=Walks.range (prog:=X.prog) (w:=X.w) (I.ok.hd hc) it lo 1 n;refine W.item i s _ _ hg st fun v h' tk hv st' kk=>?_;obtain ⟨t,rfl⟩:=hv;have I1:Inv X pins σ H { s with heap:=h',toks:=tk }:=I.turned (fun b o hb e=>kk b o (by simpa using hb) e) f0 f1 f3 f4 f5;refine ⟨_,rfl,rE (s:={ s with heap:=h',toks:=tk }) (n:= "range_iterator") st' rfl rfl (by decide) ⟨.int (lo+i),H,I1,⟨t,?_⟩,⟨rfl,rfl⟩,st',fun b hb=>(hf b hb).1⟩⟩;rw [Int.mul_one]
 done:=by
  intro X hP hw hK hc i pins s σ H E I hf st hg;subst hP hw hK;obtain ⟨f0,f1,f2,f3,f4,f5⟩:=hf it (by simp);exact wpAny_pyNext_range_end (I.ok.hd hc) st (by have:n≤i:=hg;lia) fun h' eb=>⟨rfl,I.turned (t':=s.toks) (fun b o hb e=>eb b o hb e) f0 f1 f3 f4 f5⟩
 self:=fun _ _ _ _ _ st h=>wpAny_pyIter_rangeiter st h
section
variable {X:Cx} {tg:Expr}
def xM (K:W.Frag) (tl:TE):TI:=fun σ H R=>tl σ H fun x H1=>∃ a,x=.ref a∧(∃ xs,SqL K H1 a xs)∧R (Itl K a) H1
def Gh (K:W.Frag) (tl:TE):TI:=fun σ H R=>tl σ H fun x H1=>∃ a,x=.ref a∧(∃ xs,SqT K H1 a xs)∧R (Itt K a) H1
theorem wE {l:Expr} {tl:TE} (hl:PE X l tl):PI X tg l (xM X.K tl):=by
 intro pins s σ H R I h;refine thn (hl pins s σ H _ I h) fun v s1 ⟨x,H1,I1,r1,q1⟩=>?_;obtain ⟨a,e,⟨xs,hq⟩,q⟩:=q1;subst e
 cases r1
 obtain ⟨its,rv,p,hz⟩:=I1.list hq;refine wpAny_pyIter_list p.isList ?_;refine ⟨s1.heap.objs.size,[s1.heap.objs.size],_,_,H1,rfl,I1.kept (t':=s1.toks) fun b o e=>aAe _ e,sV a _,⟨_,aAz _ rfl,rfl,rfl⟩,fun b hb=>?_,q⟩;have e:b=s1.heap.objs.size:=by simpa using hb
 subst e;exact I1.fpOk (aAp _) (I1.hok.fresh (aAp _))
theorem AD {l:Expr} {tl:TE} (hl:PE X l tl):PI X tg l (Gh X.K tl):=by
 intro pins s σ H R I h;refine thn (hl pins s σ H _ I h) fun v s1 ⟨x,H1,I1,r1,q1⟩=>?_;obtain ⟨a,e,⟨xs,hq⟩,q⟩:=q1;subst e
 cases r1
 obtain ⟨its,rv,p,hz⟩:=I1.tuple hq;refine wpAny_pyIter_tuple (show s1.heap.IsTuple a its.toArray from p) ?_;refine ⟨s1.heap.objs.size,[s1.heap.objs.size],_,_,H1,rfl,I1.kept (t':=s1.toks) fun b o e=>aAe _ e,qt a _,⟨_,aAz _ rfl,rfl,rfl⟩,fun b hb=>?_,q⟩;have e:b=s1.heap.objs.size:=by simpa using hb
 subst e;exact I1.fpOk (aAp _) (I1.hok.fresh (aAp _))
theorem oQ {pins:List (Addr×Obj)} {σ:St} {H:Hp} {s:Shared} {R:It→Hp→Prop} {E:Value→Shared→Prop} {lo hi:Int} {t u v:Tok} {tk:Nat} (I:Inv X pins σ H s) (h1:-(2 ^ 62)≤lo) (h2:lo < 2 ^ 62) (h3:-(2 ^ 62)≤hi) (h4:hi < 2 ^ 62)
  (q:R (Itr lo (hi - lo).toNat) H):wpAny (model X.prog X.w) X.A (pyIter (.ref s.heap.objs.size)) (PIE X pins σ tg R) E { s with heap:=s.heap.push { cls:=.type "range",data:=.fields #[.int lo t,.int hi u,.int 1 v] },toks:=tk }:=by
 refine wpAny_pyIter_range (IsRange.new ..) (small_one h1 h2 h3 h4) ?_;have I1:Inv X pins σ H { s with heap:=s.heap.push { cls:=.type "range",data:=.fields #[.int lo t,.int hi u,.int 1 v] },toks:=tk }:=I.kept fun b o e=>aAe _ e;refine ⟨(s.heap.push { cls:=.type "range",data:=.fields #[.int lo t,.int hi u,.int 1 v] }).objs.size,[(s.heap.push { cls:=.type "range",data:=.fields #[.int lo t,.int hi u,.int 1 v] }).objs.size],_,_,H,rfl,
  I1.kept (t':=tk) fun b o e=>aAe _ e,qu _ lo (hi - lo).toNat,?_,fun b hb=>?_,q⟩
 ·have e1:lo+((0:Nat):Int)*1=lo:=by simp
  have e2:(((hi - lo).toNat:Nat):Int) - ((0:Nat):Int)=Builtin.Range.rangeSize lo hi 1:=by rw [rangeSize_one];split <;> lia
  show IsRangeIter _ _ (lo+((0:Nat):Int)*1) ((((hi - lo).toNat:Nat):Int) - ((0:Nat):Int)) 1;rw [e1,e2];exact aAz _ rfl
 ·have e:b=(s.heap.push { cls:=.type "range",data:=.fields #[.int lo t,.int hi u,.int 1 v] }).objs.size:=by simpa using hb
  subst e;exact I1.fpOk (aAp _) (I1.hok.fresh (aAp _))
def Gi (ta:TA):TI:=fun σ H R=>ta σ H fun vs H1=>∃ j:Int,vs=[.int j]∧-(2 ^ 62)≤j∧j < 2 ^ 62∧R (Itr 0 j.toNat) H1
def Gj (ta:TA):TI:=fun σ H R=>ta σ H fun vs H1=>∃ i j:Int,vs=[.int i,.int j]∧(-(2 ^ 62)≤i∧i < 2 ^ 62∧-(2 ^ 62)≤j∧j < 2 ^ 62)∧R (Itr i (j - i).toNat) H1
theorem bf {a:Expr} {ta:TA} {p pos:Pos} (hg:Gl X "range") (hm:X.mg "range" = none) (ha:PA X [a] ta) (hs:starEach [a] X.env=[(false,eval a X.env)]:=by rfl):PI X tg (.Call (.Name "range" p) [a] [] pos) (Gi ta):=by
 intro pins s σ H R I h;refine Call_ (i8 I hg hm boot_range (PyProof.Rows.callWith_type1 (thn (ha pos pins s σ H _ I h) fun us s1 ⟨vs,H1,I1,r1,q1⟩=>?_) hs rfl));obtain ⟨j,e,q1,q2,q⟩:=q1;subst e
 cases r1 with
 | cons r rr =>
  cases rr
  obtain ⟨t,rfl⟩:=r;exact call_range_1 (oQ I1 (by lia) (by lia) q1 q2 (by simpa using q))
theorem sW {a b:Expr} {ta:TA} {p pos:Pos} (hg:Gl X "range") (hm:X.mg "range" = none) (ha:PA X [a,b] ta) (hs:starEach [a,b] X.env=[(false,eval a X.env),(false,eval b X.env)]:=by rfl) (hs2:starEach [b] X.env=[(false,eval b X.env)]:=by rfl) :
  PI X tg (.Call (.Name "range" p) [a,b] [] pos) (Gj ta):=by
 intro pins s σ H R I h;refine Call_ (i8 I hg hm boot_range (PyProof.Rows.callWith_type1 (thn (ha pos pins s σ H _ I h) fun us s1 ⟨vs,H1,I1,r1,q1⟩=>?_) (by rw [hs,hs2]) (by rw [hs2];rfl)));obtain ⟨i,j,e,⟨q1,q2,q3,q4⟩,q⟩:=q1;subst e
 cases r1 with
 | cons r rr =>
  cases rr with
  | cons r' rr =>
   cases rr
   obtain ⟨t,rfl⟩:=r;obtain ⟨t',rfl⟩:=r';exact call_range_2 (oQ I1 q1 q2 q3 q4 q)
def tFor (wi:TI) (g:TG) (tb:TS):TS:=fun D σ H=>wi σ H fun J H1=>∃ W:Nat→Nat→St→Hp→Prop,(∃ m,W 0 m σ H1)∧∀ i m σ H,W i m σ H →
 (J.stop i H∧D.nx σ H)∨(J.go i H∧∃ N:St→Hp→Prop,(∀ σ' H',N σ' H'→∃ m',m' < m∧W (i+1) m' σ' H')∧∀ x H',J.yld i H x H'→g x σ H' fun σ2 H2=>tb { D with nx:=N,ct:=N,bk:=D.nx } σ2 H2)
def m6 (fp:List Addr) (h:Heap):List (Addr×Obj):=fp.filterMap fun b=>(h.get? b).map fun o=>(b,o)
theorem eW {fp:List Addr} {h:Heap} {b:Addr} {o:Obj} (hb:b∈fp) (e:h.get? b=some o):(b,o)∈m6 fp h:=aAK.mpr ⟨b,hb,by rw [e];rfl⟩
theorem sX {fp:List Addr} {h:Heap} {p:Addr×Obj} (hp:p∈m6 fp h):p.1∈fp∧h.get? p.1=some p.2:=by
 obtain ⟨b,hb,e⟩:=aAK.mp hp
 cases q:h.get? b with
 | none=>rw [q] at e;cases e
 | some o =>
  rw [q] at e;have e':(b,o)=p:=Option.some.inj e;subst e';exact ⟨hb,q⟩
theorem Inv.pinned {pins:List (Addr×Obj)} {σ:St} {H:Hp} {s:Shared} {fp:List Addr} (I:Inv X pins σ H s) (hf:∀ b∈fp,ip X pins H b) (ho:∀ b∈fp,∃ o,s.heap.get? b=some o∧∀ v,o.data≠.cell v):Inv X (pins++m6 fp s.heap) σ H s :=
 I.pins_of fun p hp=>(aAG.mp hp).elim (fun z=>I.pin p (aAM _ z)) fun z=>by
  obtain ⟨hb,e⟩:=sX z;obtain ⟨f0,f1,f2,_⟩:=hf p.1 hb;obtain ⟨o,e',d⟩:=ho p.1 hb;rw [e] at e';cases e';exact ⟨e,f0,f1,f2,d⟩
theorem Inv.unpinned {pins pl:List (Addr×Obj)} {σ:St} {H:Hp} {s:Shared} (I:Inv X (pins++pl) σ H s):Inv X pins σ H s:=I.pins_of fun p hp=>I.pin p (aAM _ (List.mem_append_left _ hp))
theorem ps_for {iter:Expr} {body:List Stmt} {wi:TI} {g:TG} {tb:TS} {pos:Pos} (hp:PassesOwn (model X.prog X.w) X.A X.env X.xe) (hc:X.calm=true) (hi:PI X tg iter wi) (hg:PG X tg g) (hb:PSs X body tb)
  (hs:∀ x,foldedSetIterable iter X.env x=pure x:=by intro _;rfl):PS X (.For tg iter body [] pos) (tFor wi g tb):=by
 intro pins s σ H D I h;refine wpAny_For (thn (hi pins s σ H _ I h) fun v s1 h1=>thn h1 fun itv s2 h2=>?_) hs;obtain ⟨it,fp,tn,J,H2,e,I2,T,st2,f2,W,⟨m0,w0⟩,turn⟩:=h2;subst e;have stat:∀ {H':Hp},(∀ b∈fp,H' b=none)→∀ b∈fp,ip X pins H' b:=fun hn b hb=>⟨hn b hb,(f2 b hb).2⟩;refine codeAny_forLoop_any (fun n s'=>∃ i σ' H',Inv X pins σ' H' s'∧tn i s'.heap∧(∀ b∈fp,H' b=none)∧W i n σ' H') ?_ m0 ⟨0,σ,H2,I2,st2,fun b hb=>(f2 b hb).1,w0⟩;rintro n s3 ⟨i,σ3,H3,I3,st3,fr3,w3⟩;rcases turn i n σ3 H3 w3 with ⟨stop,qn⟩ | ⟨go,N,hN,step⟩
 ·refine wpAny_passesOwn hp (thn (T.done X rfl rfl rfl hc i pins s3 σ3 H3 X.xe I3 (stat fr3) st3 stop) fun r s4 ⟨hr,I4⟩=>?_);subst hr;exact wpAny_execs_nil ⟨σ3,H3,I4,qn⟩
 ·refine wpAny_passesOwn hp (thn (T.item X rfl rfl rfl hc i pins s3 σ3 H3 X.xe I3 (stat fr3) st3 go) fun r s4 ⟨u,hr,h4⟩=>?_);subst hr;refine wpAny_passesOwn hp (thn h4 fun _ s5 ⟨x,H5,I5,r5,y5,st5,fr5⟩=>?_);have I5':=I5.pinned (stat fr5) (T.obj _ _ st5);refine wpAny_passesOwn hp (thn (hg _ s5 σ3 H5 x u _ I5' r5 (step x H5 y5)) fun _ s6 ⟨σ6,H6,I6,q6⟩=>?_);refine wpAny_passesOwn hp (thn (hb _ s6 σ6 H6 _ I6 q6) fun f s7 q7=>?_);have again:∀ {σ7:St} {H7:Hp},Inv X (pins++m6 fp s5.heap) σ7 H7 s7→N σ7 H7→∃ m,m < n∧∃ i σ' H',Inv X pins σ' H' s7∧tn i s7.heap∧(∀ b∈fp,H' b=none)∧W i m σ' H':=fun {σ7 H7} I7 n7=>by
   obtain ⟨m',hm,w7⟩:=hN σ7 H7 n7;refine ⟨m',hm,i+1,σ7,H7,I7.unpinned,T.keep _ _ _ st5 fun b hb o e=>(I7.pin (b,o) (aAM _ (aAM _ (eW hb e)))).1,fun b hb=>?_,w7⟩;obtain ⟨o,e,d⟩:=T.obj _ _ st5 b hb;exact (I7.pin (b,o) (aAM _ (aAM _ (eW hb e)))).2.1
  cases f with
  | next=>obtain ⟨σ7,H7,I7,n7⟩:=q7;exact again I7 n7
  | cont=>obtain ⟨σ7,H7,I7,n7⟩:=q7;exact again I7 n7
  | brk=>obtain ⟨σ7,H7,I7,q7⟩:=q7;exact ⟨σ7,H7,I7.unpinned,q7⟩
  | ret v=>obtain ⟨x7,σ7,H7,I7,r7,q7⟩:=q7;exact ⟨x7,σ7,H7,I7.unpinned,r7,q7⟩
end
theorem kr {K:W.Frag} {a:Addr} {xs:List V} {g:TG} {tb:TS} {D:Ends} {σ:St} {H:Hp} (Pv:Nat→St→Hp→Prop) (h0:Pv 0 σ H) (hl:∀ i σ H,i≤xs.length→Pv i σ H→SqL K H a xs)
  (hs:∀ i x σ H,xs[i]?=some x→Pv i σ H→g x σ H fun σ2 H2=>tb { D with nx:=Pv (i+1),ct:=Pv (i+1),bk:=D.nx } σ2 H2) (hd:∀ σ H,Pv xs.length σ H→D.nx σ H) :
  ∃ W:Nat→Nat→St→Hp→Prop,(∃ m,W 0 m σ H)∧∀ i m σ H,W i m σ H →
   ((Itl K a).stop i H∧D.nx σ H)∨((Itl K a).go i H∧∃ N:St→Hp→Prop,(∀ σ' H',N σ' H'→∃ m',m' < m∧W (i+1) m' σ' H')∧∀ x H',(Itl K a).yld i H x H'→g x σ H' fun σ2 H2=>tb { D with nx:=N,ct:=N,bk:=D.nx } σ2 H2):=by
 refine ⟨fun i m σ H=>m=xs.length - i∧i≤xs.length∧Pv i σ H,⟨xs.length,by simp,aAD _,h0⟩,?_⟩;rintro i m σ H ⟨rfl,hi,p⟩;have q:=hl i σ H hi p
 by_cases hlt:i < xs.length
 ·refine .inr ⟨⟨xs,xs[i],q,by simp [hlt]⟩,Pv (i+1),fun σ' H' p'=>⟨xs.length - (i+1),by lia,rfl,hlt,p'⟩,fun x H' y=>?_⟩;obtain ⟨e,y⟩:=y;subst e;exact hs i x σ _ (y xs q) p
 ·have e:i=xs.length:=by lia
  subst e;exact .inl ⟨⟨xs,q,aAp _⟩,hd σ H p⟩
theorem dj {K:W.Frag} {a:Addr} {xs:List V} {g:TG} {tb:TS} {D:Ends} {σ:St} {H:Hp} (Pv:Nat→St→Hp→Prop) (h0:Pv 0 σ H) (hl:∀ i σ H,i≤xs.length→Pv i σ H→SqT K H a xs)
  (hs:∀ i x σ H,xs[i]?=some x→Pv i σ H→g x σ H fun σ2 H2=>tb { D with nx:=Pv (i+1),ct:=Pv (i+1),bk:=D.nx } σ2 H2) (hd:∀ σ H,Pv xs.length σ H→D.nx σ H) :
  ∃ W:Nat→Nat→St→Hp→Prop,(∃ m,W 0 m σ H)∧∀ i m σ H,W i m σ H →
   ((Itt K a).stop i H∧D.nx σ H)∨((Itt K a).go i H∧∃ N:St→Hp→Prop,(∀ σ' H',N σ' H'→∃ m',m' < m∧W (i+1) m' σ' H')∧∀ x H',(Itt K a).yld i H x H'→g x σ H' fun σ2 H2=>tb { D with nx:=N,ct:=N,bk:=D.nx } σ2 H2):=by
 refine ⟨fun i m σ H=>m=xs.length - i∧i≤xs.length∧Pv i σ H,⟨xs.length,by simp,aAD _,h0⟩,?_⟩;rintro i m σ H ⟨rfl,hi,p⟩;have q:=hl i σ H hi p
 by_cases hlt:i < xs.length
 ·refine .inr ⟨⟨xs,xs[i],q,by simp [hlt]⟩,Pv (i+1),fun σ' H' p'=>⟨xs.length - (i+1),by lia,rfl,hlt,p'⟩,fun x H' y=>?_⟩;obtain ⟨e,y⟩:=y;subst e;exact hs i x σ _ (y xs q) p
 ·have e:i=xs.length:=by lia
  subst e;exact .inl ⟨⟨xs,q,aAp _⟩,hd σ H p⟩
theorem gB {lo:Int} {n:Nat} {g:TG} {tb:TS} {D:Ends} {σ:St} {H:Hp} (Pv:Nat→St→Hp→Prop) (h0:Pv 0 σ H)
  (hs:∀ i σ H,i < n→Pv i σ H→g (.int (lo+i)) σ H fun σ2 H2=>tb { D with nx:=Pv (i+1),ct:=Pv (i+1),bk:=D.nx } σ2 H2) (hd:∀ σ H,Pv n σ H→D.nx σ H) :
  ∃ W:Nat→Nat→St→Hp→Prop,(∃ m,W 0 m σ H)∧∀ i m σ H,W i m σ H →
   ((Itr lo n).stop i H∧D.nx σ H)∨((Itr lo n).go i H∧∃ N:St→Hp→Prop,(∀ σ' H',N σ' H'→∃ m',m' < m∧W (i+1) m' σ' H')∧∀ x H',(Itr lo n).yld i H x H'→g x σ H' fun σ2 H2=>tb { D with nx:=N,ct:=N,bk:=D.nx } σ2 H2):=by
 refine ⟨fun i m σ H=>m=n - i∧i≤n∧Pv i σ H,⟨n,by simp,aAD _,h0⟩,?_⟩;rintro i m σ H ⟨rfl,hi,p⟩
 by_cases hlt:i < n
 ·refine .inr ⟨hlt,Pv (i+1),fun σ' H' p'=>⟨n - (i+1),by lia,rfl,hlt,p'⟩,fun x H' y=>?_⟩;obtain ⟨e,y⟩:=y;subst e y;exact hs i σ _ hlt p
 ·have e:i=n:=by lia
  subst e;exact .inl ⟨aAp _,hd σ H p⟩
abbrev R2:=V→V→Hp→VK→Prop
def OpR (X:Cx) (f:Value→Value→Sem Value) (r:R2):Prop :=
 ∀ (pins:List (Addr×Obj)) (s:Shared) (σ:St) (H:Hp) (x y:V) (v u:Value) (Q:VK),Inv X pins σ H s→RelV x v→RelV y u→r x y H Q →
  wpAny (model X.prog X.w) X.A (f v u) (EP X pins σ Q) X.xe s
def UnR (X:Cx) (f:Value→Sem Value) (r:V→Hp→VK→Prop):Prop :=
 ∀ (pins:List (Addr×Obj)) (s:Shared) (σ:St) (H:Hp) (x:V) (v:Value) (Q:VK),Inv X pins σ H s→RelV x v→r x H Q →
  wpAny (model X.prog X.w) X.A (f v) (EP X pins σ Q) X.xe s
def bB (X:Cx) (f:Value) (r:List V→Hp→VK→Prop):Prop :=
 ∀ (pins:List (Addr×Obj)) (s:Shared) (σ:St) (H:Hp) (xs:List V) (us:List Value) (Q:VK),Inv X pins σ H s→Vals xs us→r xs H Q →
  wpAny (model X.prog X.w) X.A (call f us) (EP X pins σ Q) X.xe s
def tOp (r:R2) (ta tb:TE):TE:=fun σ H Q=>ta σ H fun x H1=>tb σ H1 fun y H2=>r x y H2 Q
def tUn (r:V→Hp→VK→Prop) (ta:TE):TE:=fun σ H Q=>ta σ H fun x H1=>r x H1 Q
inductive IRI (C:Int→Int→Prop) (g:Int→Int→V) (x y:V) (H:Hp) (Q:VK):Prop
 | mk (i j:Int):(x=.int i)→(y=.int j)→(C i j)→(Q (g i j) H)→IRI C g x y H Q
def rI (C:Int→Int→Prop) (g:Int→Int→V):R2:=fun x y H Q=>IRI C g x y H Q
inductive IRI0 (g:Int→Int→V) (x y:V) (H:Hp) (Q:VK):Prop
 | mk (i j:Int):(x=.int i)→(y=.int j)→(Q (g i j) H)→IRI0 g x y H Q
def rI0 (g:Int→Int→V):R2:=fun x y H Q=>IRI0 g x y H Q
def rU (g:Int→V):V→Hp→VK→Prop:=fun x H Q=>∃ i,x=.int i∧Q (g i) H
section
variable {X:Cx} {a b c:Expr} {ta tb tc:TE} {pos:Pos}
theorem AE (ha:PE X a ta) (hb:PE X b tb) {pins:List (Addr×Obj)} {s:Shared} {σ:St} {H:Hp} {R:V→V→Hp→Prop} (I:Inv X pins σ H s)
  (h:ta σ H fun x H1=>tb σ H1 fun y H2=>R x y H2) {Q:Value→Shared→Prop} {f:Value→Value→Sem Value}
  (hf:∀ v u s2 x y H2,Inv X pins σ H2 s2→RelV x v→RelV y u→R x y H2→wpAny (model X.prog X.w) X.A (f v u) Q X.xe s2) :
  wpAny (model X.prog X.w) X.A (eval a X.env) (fun v s₁=>wpAny (model X.prog X.w) X.A (eval b X.env) (fun u s₂=>wpAny (model X.prog X.w) X.A (f v u) Q X.xe s₂) X.xe s₁) X.xe s:=by
 refine thn (ha pins s σ H _ I h) fun v s1 ⟨x,H1,I1,r1,q1⟩=>?_;refine thn (hb pins s1 σ H1 _ I1 q1) fun u s2 ⟨y,H2,I2,r2,q2⟩=>?_;exact hf v u s2 x y H2 I2 r1 r2 q2
theorem pe_op {op:Operator} {r:R2} (ho:OpR X (binaryOp op) r) (ha:PE X a ta) (hb:PE X b tb):PE X (.BinOp a op b pos) (tOp r ta tb):=by
 intro pins s σ H Q I h;exact wpAny_BinOp (AE ha hb I h fun v u s2 x y H2 I2 rx ry q=>ho pins s2 σ H2 x y v u Q I2 rx ry q)
theorem pe_un {op:UnaryOp} {r:V→Hp→VK→Prop} (ho:UnR X (unaryOp op) r) (ha:PE X a ta):PE X (.UnaryOp op a pos) (tUn r ta):=by
 intro pins s σ H Q I h;exact UnaryOp_ (thn (ha pins s σ H _ I h) fun v s1 ⟨x,H1,I1,r1,q1⟩=>ho pins s1 σ H1 x v Q I1 r1 q1)
theorem opI {f:Value→Value→Sem Value} {C:Int→Int→Prop} {g:Int→Int→Int}
  (rule:∀ (i j:Int) (t u:Tok) (s:Shared) (Q:Value→Shared→Prop) (E:Value→Shared→Prop),C i j→Q (.int (g i j) s.toks) { s with toks:=s.toks+1 }→wpAny (model X.prog X.w) X.A (f (.int i t) (.int j u)) Q E s) :
  OpR X f (rI C fun i j=>.int (g i j)):=by
 intro pins s σ H x y v u Q I rx ry h;obtain ⟨i,j,rfl,rfl,hc,q⟩:=h;obtain ⟨t,rfl⟩:=rx;obtain ⟨t',rfl⟩:=ry;exact rule i j t t' s _ _ hc ⟨.int (g i j),H,I.tok _,⟨_,rfl⟩,q⟩
theorem Gk {f:Value→Value→Sem Value} {g:Int→Int→Int}
  (rule:∀ (i j:Int) (t u:Tok) (s:Shared) (Q:Value→Shared→Prop) (E:Value→Shared→Prop),Q (.int (g i j) s.toks) { s with toks:=s.toks+1 }→wpAny (model X.prog X.w) X.A (f (.int i t) (.int j u)) Q E s) :
  OpR X f (rI0 fun i j=>.int (g i j)):=by
 intro pins s σ H x y v u Q I rx ry h;obtain ⟨i,j,rfl,rfl,q⟩:=h;obtain ⟨t,rfl⟩:=rx;obtain ⟨t',rfl⟩:=ry;exact rule i j t t' s _ _ ⟨.int (g i j),H,I.tok _,⟨_,rfl⟩,q⟩
theorem wF {f:Value→Value→Sem Value} {g:Int→Int→Bool}
  (rule:∀ (i j:Int) (t u:Tok) (s:Shared) (Q:Value→Shared→Prop) (E:Value→Shared→Prop),Q (.bool (g i j)) s→wpAny (model X.prog X.w) X.A (f (.int i t) (.int j u)) Q E s) :
  OpR X f (rI0 fun i j=>.bl (g i j)):=by
 intro pins s σ H x y v u Q I rx ry h;obtain ⟨i,j,rfl,rfl,q⟩:=h;obtain ⟨t,rfl⟩:=rx;obtain ⟨t',rfl⟩:=ry;exact rule i j t t' s _ _ ⟨.bl (g i j),H,I,rfl,q⟩
def Hr (i j:Int):Prop:=0≤j∧j≤1000000∧i.natAbs < 2 ^ 64
def CMul (i j:Int):Prop:=(-(2 ^ 64) < i∧i < 2 ^ 64)∨(-(2 ^ 64) < j∧j < 2 ^ 64)
theorem CMul.ok {i j:Int} (h:CMul i j):IntMulOk i j:=by
 rcases h with ⟨h1,h2⟩ | ⟨h1,h2⟩
 ·exact .of_left (intBits_le_64 h1 h2)
 ·exact .of_right (intBits_le_64 h1 h2)
theorem aS:OpR X (binaryOp .Add) (rI0 fun i j=>.int (i+j)):=Gk fun _ _ _ _ _ _ _ q=>add_int q
theorem bV:OpR X (binaryOp .Sub) (rI0 fun i j=>.int (i - j)):=Gk fun _ _ _ _ _ _ _ q=>sub_int q
theorem fI:OpR X (binaryOp .Mult) (rI CMul fun i j=>.int (i*j)):=opI fun _ _ _ _ _ _ _ hc q=>mul_int q hc.ok
theorem dD:OpR X (binaryOp .Mod) (rI (fun _ j=>0 < j) fun i j=>.int (i % j)):=opI fun i j _ _ _ _ _ hc q=>by
 have h1:(0:Int) < j:=hc;exact mod_int' (by lia) (by rw [Int.fmod_eq_emod_of_nonneg i (by lia)];exact q)
theorem eB:OpR X (binaryOp .Pow) (rI Hr fun i j=>.int (i ^ j.toNat)):=opI fun _ _ _ _ _ _ _ hc q=>pow_int_small hc.1 hc.2.1 hc.2.2 q
theorem unI {f:Value→Sem Value} {g:Int→Int}
  (rule:∀ (i:Int) (t:Tok) (s:Shared) (Q:Value→Shared→Prop) (E:Value→Shared→Prop),Q (.int (g i) s.toks) { s with toks:=s.toks+1 }→wpAny (model X.prog X.w) X.A (f (.int i t)) Q E s) :
  UnR X f (rU fun i=>.int (g i)):=by
 intro pins s σ H x v Q I rx h;obtain ⟨i,rfl,q⟩:=h;obtain ⟨t,rfl⟩:=rx;exact rule i t s _ _ ⟨.int (g i),H,I.tok _,⟨_,rfl⟩,q⟩
theorem un_neg:UnR X (unaryOp .USub) (rU fun i=>.int (-i)):=unI fun _ _ _ _ _ q=>neg_int q
end
def Gm:V→V→Bool
 | .non,.non=>true | .non,.int _=>true | .int _,.non=>true | .non,.bl _=>true | .bl _,.non=>true | .non,.str _=>true | .str _,.non=>true
 | .int _,.int _=>true | .bl _,.bl _=>true | .str _,.str _=>true | .byt _,.byt _=>true
 | .int _,.str _=>true | .str _,.int _=>true | .bl _,.str _=>true | .str _,.bl _=>true
 | _,_=>false
def rEq:R2:=fun x y H Q=>Gm x y=true∧Q (.bl (decide (x=y))) H
def rNe:R2:=fun x y H Q=>Gm x y=true∧Q (.bl (!decide (x=y))) H
theorem rF {i j:Int}:decide (V.int i=V.int j)=(i == j):=by
 rw [aAY];simp
theorem uD {i j:Bool}:decide (V.bl i=V.bl j)=(i == j):=by
 rw [aAY];simp
theorem rG {i j:Str}:decide (V.str i=V.str j)=(i == j):=by
 rw [aAY];simp
theorem rH {i j:Array UInt8}:decide (V.byt i=V.byt j)=(i.toList == j.toList):=by
 rw [aAY]
 cases i
 cases j
 simp
section
variable {X:Cx} {a b c:Expr} {ta tb tc:TE} {pos:Pos}
theorem aI {pins:List (Addr×Obj)} {σ:St} {H:Hp} {s:Shared} {Q:VK} {k k':Bool} (I:Inv X pins σ H s) (q:Q (.bl k) H) (e:k=k'):EP X pins σ Q (.bool k') s:=by
 subst e;exact ⟨.bl k,H,I,rfl,q⟩
theorem op_eq:OpR X (compareOp .Eq) rEq:=by
 intro pins s σ H x y v u Q I rx ry h;obtain ⟨hs,q⟩:=h
 cases x with
 | non =>
  cases rx
  cases y with
  | non=>cases ry;exact PySem.EqNone.eq_none_none (aI I q (by simp))
  | bl j=>cases ry;exact PySem.EqNone.eq_none_bool (aI I q (by simp))
  | int j=>obtain ⟨t',rfl⟩:=ry;exact PySem.EqNone.eq_none_int (aI I q (by simp))
  | str j=>obtain ⟨t',rfl⟩:=ry;exact PySem.EqNone.eq_none_str (aI I q (by simp))
  | _=>exact absurd (show false=true from hs) aAx
 | bl i =>
  cases rx
  cases y with
  | non=>cases ry;exact PySem.EqNone.eq_bool_none (aI I q (by simp))
  | bl j=>cases ry;exact eq_bool (aI I q uD)
  | str j=>obtain ⟨t',rfl⟩:=ry;exact PySem.EqMixed.eq_bool_str (aI I q (by simp))
  | _=>exact absurd (show false=true from hs) aAx
 | int i =>
  obtain ⟨t,rfl⟩:=rx
  cases y with
  | non=>cases ry;exact PySem.EqNone.eq_int_none (aI I q (by simp))
  | int j=>obtain ⟨t',rfl⟩:=ry;exact eq_int (aI I q rF)
  | str j=>obtain ⟨t',rfl⟩:=ry;exact PySem.EqMixed.eq_int_str (aI I q (by simp))
  | _=>exact absurd (show false=true from hs) aAx
 | str i =>
  obtain ⟨t,rfl⟩:=rx
  cases y with
  | non=>cases ry;exact PySem.EqNone.eq_str_none (aI I q (by simp))
  | bl j=>cases ry;exact PySem.EqMixed.eq_str_bool (aI I q (by simp))
  | int j=>obtain ⟨t',rfl⟩:=ry;exact PySem.EqMixed.eq_str_int (aI I q (by simp))
  | str j=>obtain ⟨t',rfl⟩:=ry;exact eq_str (aI I q rG)
  | _=>exact absurd (show false=true from hs) aAx
 | byt i =>
  obtain ⟨t,rfl⟩:=rx
  cases y with
  | byt j=>obtain ⟨t',rfl⟩:=ry;exact W.eq_bytes (aI I q rH)
  | _=>exact absurd (show false=true from hs) aAx
 | _=>cases y <;> exact absurd (show false=true from hs) aAx
theorem op_ne:OpR X (compareOp .NotEq) rNe:=by
 intro pins s σ H x y v u Q I rx ry h;obtain ⟨hs,q⟩:=h
 cases x with
 | non =>
  cases rx
  cases y with
  | non=>cases ry;exact PySem.EqNone.ne_none_none (aI I q (by simp))
  | bl j=>cases ry;exact PySem.EqNone.ne_none_bool (aI I q (by simp))
  | int j=>obtain ⟨t',rfl⟩:=ry;exact PySem.EqNone.ne_none_int (aI I q (by simp))
  | str j=>obtain ⟨t',rfl⟩:=ry;exact PySem.EqNone.ne_none_str (aI I q (by simp))
  | _=>exact absurd (show false=true from hs) aAx
 | bl i =>
  cases rx
  cases y with
  | non=>cases ry;exact PySem.EqNone.ne_bool_none (aI I q (by simp))
  | bl j=>cases ry;exact ne_bool (aI I q (congrArg not uD))
  | str j=>obtain ⟨t',rfl⟩:=ry;exact PySem.EqMixed.ne_bool_str (aI I q (by simp))
  | _=>exact absurd (show false=true from hs) aAx
 | int i =>
  obtain ⟨t,rfl⟩:=rx
  cases y with
  | non=>cases ry;exact PySem.EqNone.ne_int_none (aI I q (by simp))
  | int j=>obtain ⟨t',rfl⟩:=ry;exact ne_int (aI I q (congrArg not rF))
  | str j=>obtain ⟨t',rfl⟩:=ry;exact PySem.EqMixed.ne_int_str (aI I q (by simp))
  | _=>exact absurd (show false=true from hs) aAx
 | str i =>
  obtain ⟨t,rfl⟩:=rx
  cases y with
  | non=>cases ry;exact PySem.EqNone.ne_str_none (aI I q (by simp))
  | bl j=>cases ry;exact PySem.EqMixed.ne_str_bool (aI I q (by simp))
  | int j=>obtain ⟨t',rfl⟩:=ry;exact PySem.EqMixed.ne_str_int (aI I q (by simp))
  | str j=>obtain ⟨t',rfl⟩:=ry;exact ne_str (aI I q (congrArg not rG))
  | _=>exact absurd (show false=true from hs) aAx
 | byt i =>
  obtain ⟨t,rfl⟩:=rx
  cases y with
  | byt j=>obtain ⟨t',rfl⟩:=ry;exact W.ne_bytes (aI I q (congrArg not rH))
  | _=>exact absurd (show false=true from hs) aAx
 | _=>cases y <;> exact absurd (show false=true from hs) aAx
theorem fz:OpR X (compareOp .Lt) (rI0 fun i j=>.bl (decide (i < j))):=wF fun _ _ _ _ _ _ _ q=>lt_int q
theorem xN:OpR X (compareOp .LtE) (rI0 fun i j=>.bl (decide (i≤j))):=wF fun _ _ _ _ _ _ _ q=>le_int q
theorem mo:OpR X (compareOp .Gt) (rI0 fun i j=>.bl (decide (j < i))):=wF fun _ _ _ _ _ _ _ q=>gt_int q
theorem Go:OpR X (compareOp .GtE) (rI0 fun i j=>.bl (decide (j≤i))):=wF fun _ _ _ _ _ _ _ q=>ge_int q
theorem op_in_str:OpR X (compareOp .In) (fun x y H Q=>∃ i j,x=.str i∧y=.str j∧Q (.bl (!(Builtin.Str.occurrences j i 0 j.length 1).isEmpty)) H):=by
 intro pins s σ H x y v u Q I rx ry h;obtain ⟨i,j,rfl,rfl,q⟩:=h;obtain ⟨t,rfl⟩:=rx;obtain ⟨t',rfl⟩:=ry;exact in_str (aI I q rfl)
theorem uE:OpR X (compareOp .Is) (fun x y H Q=>y=.non∧Q (.bl (decide (x=.non))) H):=by
 intro pins s σ H x y v u Q I rx ry h;obtain ⟨rfl,q⟩:=h
 cases ry
 refine is_none_gen (aI I q ?_)
 cases x <;> first
  | (cases rx;rfl)
  | (obtain ⟨t,rfl⟩:=rx;rfl)
theorem nomark (b:Expr) {op:CmpOp} (h:op≠.In:=by decide) (h2:op≠.NotIn:=by decide):behindInMarks op b=false:=by
 have e1:(op == CmpOp.In)=false:=by cases op <;> first | rfl | exact absurd rfl h
 have e2:(op == CmpOp.NotIn)=false:=by cases op <;> first | rfl | exact absurd rfl h2
 cases b <;> simp [behindInMarks,e1,e2]
theorem gC {op:CmpOp} {r:R2} (ho:OpR X (compareOp op) r) (ha:PE X a ta) (hb:PE X b tb) (hm:behindInMarks op b=false):PE X (.Compare a [op] [b] pos) (tOp r ta tb):=by
 intro pins s σ H Q I h;exact wpAny_Compare1 (AE ha hb I h fun v u s2 x y H2 I2 rx ry q=>ho pins s2 σ H2 x y v u Q I2 rx ry q) hm
inductive IBl (x:V) (H':Hp) (Q:Bool→Hp→Prop):Prop
 | mk (k:Bool):(x=.bl k)→(Q k H')→IBl x H' Q
def mq (t:TE):TT:=fun σ H Q=>t σ H fun x H'=>IBl x H' Q
theorem pt_cmpR {op:CmpOp} {r:R2} (ho:OpR X (compareOp op) r) (ha:PE X a ta) (hb:PE X b tb) (hm:behindInMarks op b=false):PT X (.Compare a [op] [b] pos) (mq (tOp r ta tb)):=by
 intro pins s σ H Q I h;refine wpAny_isTrue_Compare1 (thn (ha pins s σ H _ I h) fun v s1 ⟨x,H1,I1,r1,q1⟩=>thn (hb pins s1 σ H1 _ I1 q1) fun u s2 ⟨y,H2,I2,r2,q2⟩ =>
  thn (ho pins s2 σ H2 x y v u _ I2 r1 r2 q2) fun c s3 ⟨z,H3,I3,r3,k,e,q3⟩=>?_) hm
 subst e
 cases r3
 exact wpAny_truthy_bool ⟨H3,I3,q3⟩
def AF (r r':R2) (ta tb tc:TE):TE:=fun σ H Q=>ta σ H fun x H1=>tb σ H1 fun y H2=>r x y H2 fun z H3=>∃ k,z=.bl k ∧
 (if k=true then tc σ H3 fun w' H4=>r' y w' H4 Q else Q (.bl false) H3)
theorem uF {op op':CmpOp} {r r':R2} (ho:OpR X (compareOp op) r) (ho':OpR X (compareOp op') r') (ha:PE X a ta) (hb:PE X b tb) (hc:PE X c tc)
  (hm:lastMarks [op,op'] [b,c]=false:=by with_unfolding_all rfl):PE X (.Compare a [op,op'] [b,c] pos) (AF r r' ta tb tc):=by
 intro pins s σ H Q I h;refine Compare_chain (thn (ha pins s σ H _ I h) fun v s1 ⟨x,H1,I1,r1,q1⟩=>chain_link (thn (hb pins s1 σ H1 _ I1 q1) fun u s2 ⟨y,H2,I2,r2,q2⟩ =>
  thn (ho pins s2 σ H2 x y v u _ I2 r1 r2 q2) fun d s3 ⟨z,H3,I3,r3,k,e,q3⟩=>?_)) hm
 subst e
 cases r3
 refine wpAny_truthy_bool ?_
 cases k with
 | false=>exact ite_ff ⟨.bl false,H3,I3,rfl,q3⟩
 | true=>exact ite_tt (chain_last (thn (hc pins s3 σ H3 _ I3 q3) fun w' s4 ⟨z',H4,I4,r4,q4⟩=>ho' pins s4 σ H4 y z' u w' Q I4 r2 r4 q4))
theorem jb:(sizeLine:Nat) < 2 ^ 63:=by rw [sizeLine_eq];decide
theorem op_add_str:OpR X (binaryOp .Add) (fun x y H Q=>∃ i j,x=.str i∧y=.str j∧i.length+j.length≤sizeLine∧Q (.str (i++j)) H):=by
 intro pins s σ H x y v u Q I rx ry h;obtain ⟨i,j,rfl,rfl,hz,q⟩:=h;obtain ⟨t,rfl⟩:=rx;obtain ⟨t',rfl⟩:=ry;exact add_str (fun t' tk=>⟨.str (i++j),H,I.tok _,⟨_,rfl⟩,q⟩) hz
theorem dE {x:V} {us:List Value} (r:Vals [x] us):∃ u,us=[u]∧RelV x u:=by
 cases r with
 | cons r1 r2=>cases r2;exact ⟨_,rfl,r1⟩
theorem rJ {x y:V} {us:List Value} (r:Vals [x,y] us):∃ u w',us=[u,w']∧RelV x u∧RelV y w':=by
 cases r with
 | cons r1 r2 =>
  cases r2 with
  | cons r3 r4=>cases r4;exact ⟨_,_,rfl,r1,r3⟩
theorem mr (hc:X.calm=true):bB X (.builtin "max") (fun xs H Q=>∃ i j,xs=[.int i,.int j]∧Q (.int (if j > i then j else i)) H):=by
 intro pins s σ H xs us Q I r h;obtain ⟨i,j,rfl,q⟩:=h;obtain ⟨u,w',rfl,⟨t,rfl⟩,⟨t',rfl⟩⟩:=rJ r;refine max_two_ints (I.ok.hd hc) fun h' tk k=>⟨_,H,I.kept k,?_,q⟩
 by_cases hj:j > i
 ·rw [if_pos hj,if_pos hj];exact ⟨_,rfl⟩
 ·rw [if_neg hj,if_neg hj];exact ⟨_,rfl⟩
theorem ms (hc:X.calm=true):bB X (.builtin "min") (fun xs H Q=>∃ i j,xs=[.int i,.int j]∧Q (.int (if j < i then j else i)) H):=by
 intro pins s σ H xs us Q I r h;obtain ⟨i,j,rfl,q⟩:=h;obtain ⟨u,w',rfl,⟨t,rfl⟩,⟨t',rfl⟩⟩:=rJ r;refine min_two_ints (I.ok.hd hc) fun h' tk k=>⟨_,H,I.kept k,?_,q⟩
 by_cases hj:j < i
 ·rw [if_pos hj,if_pos hj];exact ⟨_,rfl⟩
 ·rw [if_neg hj,if_neg hj];exact ⟨_,rfl⟩
theorem mv:bB X (.type "int") (fun xs H Q=>(∃ i,xs=[.int i]∧Q (.int i) H)∨∃ k,xs=[.bl k]∧Q (.int (if k then 1 else 0)) H):=by
 intro pins s σ H xs us Q I r h;rcases h with ⟨i,rfl,q⟩ | ⟨k,rfl,q⟩
 ·obtain ⟨u,rfl,t,rfl⟩:=dE r;exact call_int_int ⟨.int i,H,I,⟨_,rfl⟩,q⟩
 ·obtain ⟨u,rfl,r1⟩:=dE r
  cases r1
  exact call_int_bool ⟨.int (if k then 1 else 0),H,I.tok _,⟨_,rfl⟩,q⟩
theorem call_str_int:bB X (.type "str") (fun xs H Q=>∃ i,xs=[.int i]∧i.natAbs.log2 < 1920∧Q (.str (toString i)) H):=by
 intro pins s σ H xs us Q I r h;obtain ⟨i,rfl,hz,q⟩:=h;obtain ⟨u,rfl,t,rfl⟩:=dE r;exact PySem.P.str_of_int hz ⟨.str _,H,I.tok _,⟨_,rfl⟩,q⟩
theorem uG:bB X (.builtin "ord") (fun xs H Q=>∃ x,xs=[.str x]∧x.length=1∧Q (.int (x.cps.getD 0 0:Nat)) H):=by
 intro pins s σ H xs us Q I r h;obtain ⟨x,rfl,hz,q⟩:=h;obtain ⟨u,rfl,t,rfl⟩:=dE r;exact ord_of_one hz ⟨.int _,H,I.tok _,⟨_,rfl⟩,q⟩
end
structure ObjM (h:Heap) (x dx C:Addr) (mA:Str→Option Value):Prop where
 obj:h.get? x=some (W.instObj C dx)
 ns:h.Ns1 dx mA
 ne:dx≠x
theorem sY {h:Heap} {dx:Addr} {mA:Str→Option Value} (n:h.Ns1 dx mA):∃ od,h.get? dx=some od∧∀ name,W.lookIn name od=some (mA name):=by
 obtain ⟨o,es,ep,ho,hd,hk,_,hm⟩:=n;refine ⟨o,ho,fun name=>?_⟩;have e:=hm name;unfold nsFind findBy at e;rw [← Array.find?_toList] at e;unfold W.lookIn;rw [hd];dsimp only
 split
 ·rename_i y q
  rw [q] at e;exact congrArg some e
 ·rename_i q
  rw [q] at e;have a:es.toList.any (·.refKey)=false:=by
   rw [List.any_eq_false];intro y hy;obtain ⟨z,t,hkey⟩:=hk y (Array.mem_toList_iff.mp hy);simp [DictEntry.refKey,hkey]
  have a':¬ es.toList.any (·.refKey)=true:=by rw [a];exact aAx
  rw [if_neg a'];exact congrArg some e
theorem ObjM.look {h:Heap} {x dx C:Addr} {mA:Str→Option Value} (I:ObjM h x dx C mA):∃ od,W.InstAt h x (W.instObj C dx) C (some od)∧∀ name,W.lookIn name od=some (mA name) :=
 let ⟨od,ho,hl⟩:=sY I.ns
 ⟨od,⟨I.obj,rfl,rfl,ho⟩,hl⟩
section
variable {prog:Program} {w:World} {A:Around} {E:Value→Shared→Prop} {s:Shared} {K:W.Frag} {x dx C f:Addr} {mA:Str→Option Value} {name:Str} {v:Value}
theorem wG {expr:Bool} {Q:Value→Shared→Prop} (X:K.In s.heap) (I:ObjM s.heap x dx C mA) (hg:W.plainGet K C name=true) (hh:W.hasDictIn K C=true)
  (ha:W.findIn K (.ref C) name=some none) (hv:mA name=some v) (hv':W.handedIn v=true) (h:Q v { s with toks:=s.toks+1 }) :
  wpAny (model prog w) A (getAttr (.ref x) name expr) Q E s:=by
 obtain ⟨od,J,hl⟩:=I.look;exact W.get_value X J (W.plainGet_of hg).1 (W.findObj_own hh ha rfl (by rw [hl,hv])) hv' h
theorem uH {pl:Sem Bool} {Q:Value×List Value→Shared→Prop} (X:K.In s.heap) (I:ObjM s.heap x dx C mA) (hg:W.plainGet K C name=true)
  (hf:W.findIn K (.ref C) name=some (some (.ref f))) (ht:W.isFn K (.ref f)=true) (hv:mA name=none) (h:Q (.ref f,[.ref x]) s) :
  wpAny (model prog w) A (getMethod (.ref x) name pl) Q E s:=by
 obtain ⟨od,J,hl⟩:=I.look;exact W.method_fn X J (W.plainGet_of hg).1 (W.plainGet_of hg).2 hf (beq_iff_eq.mp ht) (by show (W.lookIn name od).map (·.isSome)=some false;rw [hl,hv];rfl) h
theorem wI {ns:List Str} {Q:Unit→Shared→Prop} (X:K.In s.heap) (I:ObjM s.heap x dx C mA)
  (hs:W.findIn K (.ref C) "__setattr__" = some (some (.builtin "object.__setattr__"))) (hp:W.plainOver K C=true) (ht:W.takerIn K C name=some none) (hh:W.hasDictIn K C=true)
  (hw:PySem.Within mA ns) (hsz:ns.length≤sizeLine)
  (h:∀ h',ObjM h' x dx C (fun y=>if y=name then some v else mA y)→Heap.SameBut dx s.heap h'→Q () { s with heap:=h',toks:=s.toks+2 }) :
  wpAny (model prog w) A (setAttr (.ref x) name v) Q E s:=by
 obtain ⟨od,J,hl⟩:=I.look;refine W.set_plain X J hs (W.osa_open (s:={ s with toks:=s.toks+1 }) (r:=none) X J hp ht fun b=>?_);obtain ⟨cd,hc,hd'⟩:=W.any_some hh;have hx:s.heap.get? x=some ⟨.ref C,some dx,.plain,#[]⟩:=I.obj;refine wpAny_bind (wpAny_pure (wpAny_bind (wpAny_bind (wpAny_loadPart hx (wpAny_bind (W.Looks.here (s:={ s with toks:=s.toks+1 }) (W.looks_clsIn X hc) ?_))))));rw [hd'];refine wpAny_pure (a:=some dx) (wpAny_bind (wpAny_pure (wpAny_bind ?_)));refine wpAny_nsSet1 (s:={ s with toks:=s.toks+1 }) I.ns fun h' hn2 hs2=>?_;obtain ⟨oD,esD,epD,hoD,hdD,hcD⟩:=hn2.count (PySem.Within.cons name v hw);refine wpAny_bind (wpAny_lookBehind hoD (by rw [hdD];exact pastItsLine_dict (aAA hcD (by rw [aAb];lia))) ?_);exact wpAny_pure (h _ ⟨(hs2.2 _ (Ne.symm I.ne)).trans I.obj,hn2,I.ne⟩ hs2)
theorem uI {R:Result→Shared→Prop} {vs:List Value} {kw:List (Str×Value)} (X:K.In s.heap) (hm:W.makesIn K C=true)
  (hi:W.findIn K (.ref C) "__init__" = some (some (.ref f))) (hf:W.typeIn K (.ref f)=some (.type "function"))
  (h:codeAny (model prog w) (A.under (.builtin "type.__call__" ⟨.ref C :: vs,kw⟩)) (.call (.ref f) ⟨.ref (s.heap.objs.size+1) :: vs,kw⟩) (W.InitBack (s.heap.objs.size+1) R)
   { s with heap:=(s.heap.push W.emptyDict).push (W.instObj C s.heap.objs.size) }) :
  codeAny (model prog w) A (.call (.ref C) ⟨vs,kw⟩) R s:=by
 obtain ⟨hh,g,d,t,os⟩:=s;exact W.make_core (W.makes_of X hm) (W.looks_findIn X hi) (fun self=>W.bind_fn X self hf) (.inl rfl) h
end
def eX (f:Str) (v:V):List (Str×V)→List (Str×V)
 | []=>[(f,v)]
 | (g,x) :: r=>if g=f then (g,v) :: r else (g,x) :: eX f v r
theorem jH (f g:Str) (v:V):∀ fs:List (Str×V),(eX f v fs).lookup g=if g=f then some v else fs.lookup g
 | []=>by
  show List.lookup g [(f,v)]=_
  by_cases h:g=f
  ·have hb:(g == f)=true:=beq_iff_eq.mpr h;simp only [List.lookup,hb,if_pos h]
  ·have hb:(g == f)=false:=beq_eq_false_iff_ne.mpr h;simp only [List.lookup,hb,if_neg h]
 | (k,x) :: r=>by
  have ih:=jH f g v r;rw [show eX f v ((k,x) :: r)=(if k=f then (k,v) :: r else (k,x) :: eX f v r) from rfl]
  by_cases hk:k=f
  ·rw [if_pos hk]
   by_cases h:g=k
   ·have hb:(g == k)=true:=beq_iff_eq.mpr h;simp only [List.lookup,hb,if_pos (h.trans hk)]
   ·have hb:(g == k)=false:=beq_eq_false_iff_ne.mpr h;simp only [List.lookup,hb,if_neg (fun e:g=f=>h (e.trans hk.symm))]
  ·rw [if_neg hk]
   by_cases h:g=k
   ·have hb:(g == k)=true:=beq_iff_eq.mpr h;simp only [List.lookup,hb,if_neg (fun e:g=f=>hk (h.symm.trans e))]
   ·have hb:(g == k)=false:=beq_eq_false_iff_ne.mpr h;simp only [List.lookup,hb];exact ih
theorem jc (f:Str) (v:V):∀ fs:List (Str×V),f∈(eX f v fs).map (·.1)∧∀ g,g∈fs.map (·.1)→g∈(eX f v fs).map (·.1)
 | []=>⟨by simp [eX],fun g h=>by simp at h⟩
 | (k,x) :: r=>by
  obtain ⟨i1,i2⟩:=jc f v r;rw [show eX f v ((k,x) :: r)=(if k=f then (k,v) :: r else (k,x) :: eX f v r) from rfl]
  by_cases hk:k=f
  ·rw [if_pos hk];subst hk;exact ⟨by simp,fun g h=>by simpa using h⟩
  ·rw [if_neg hk];refine ⟨?_,fun g h=>?_⟩
   ·rw [aAo];exact aAg _ i1
   ·rw [aAo] at h ⊢;rcases aAm.mp h with e | e
    ·exact aAm.mpr (.inl e)
    ·exact aAg _ (i2 g e)
theorem jI (f:Str) (v:V):∀ fs:List (Str×V),(eX f v fs).length≤fs.length+1
 | []=>by simp [eX]
 | (k,x) :: r=>by
  have ih:=jI f v r;rw [show eX f v ((k,x) :: r)=(if k=f then (k,v) :: r else (k,x) :: eX f v r) from rfl]
  by_cases hk:k=f
  ·rw [if_pos hk,aAb,aAb];lia
  ·rw [if_neg hk,aAb,aAb];lia
theorem RelO.some_of {v:V} {o:Option Value} (r:RelO (some v) o):∃ u,o=some u∧RelV v u:=by
 cases o with
 | none=>exact (show False from r).elim
 | some u=>exact ⟨u,rfl,r⟩
theorem RelO.none_of {o:Option Value} (r:RelO none o):o=none:=by
 cases o with
 | none=>rfl
 | some u=>exact (show False from r).elim
theorem sZ {v:V} {u:Value} (r:RelV v u):W.handedIn u=true:=by
 cases v with
 | non=>cases (show u=Value.none from r);rfl
 | bl b=>cases (show u=Value.bool b from r);rfl
 | int i=>obtain ⟨t,e⟩:=(show ∃ t,u=Value.int i t from r);cases e;rfl
 | str x=>obtain ⟨t,e⟩:=(show ∃ t,u=Value.str x t from r);cases e;rfl
 | byt b=>obtain ⟨t,e⟩:=(show ∃ t,u=Value.bytes b t from r);cases e;rfl
 | flt b=>obtain ⟨t,e⟩:=(show ∃ t,u=Value.float b t from r);cases e;rfl
 | ref a=>cases (show u=Value.ref a from r);rfl
 | ty n=>cases (show u=Value.type n from r);rfl
section
variable {P:Program} {w:World} {H H':Hp} {h h':Heap} {a C dx:Addr} {fs fs':List (Str×V)}
theorem m7 (hok:HOk P w H h) (e:H a=some (.ins C dx fs)):∃ mA,ObjM h a dx C mA∧(∀ f,RelO (fs.lookup f) (mA f))∧PySem.Within mA (fs.map (·.1))∧fs.length≤1000∧H dx=some (.own a):=by
 obtain ⟨d,z,ne,ob,mA,n,r,q⟩:=(show ObjOk P w H h a (.ins C dx fs) from hok a _ e);exact ⟨mA,⟨ob,n,ne⟩,r,q,z,d⟩
end
structure Cls (K:W.Frag) (C:Addr):Prop where
 pg:W.plainGet K C Str.empty=true
 hd:W.hasDictIn K C=true
 po:W.plainOver K C=true
 sa:W.findIn K (.ref C) "__setattr__" = some (some (.builtin "object.__setattr__"))
theorem Cls.get {K:W.Frag} {C:Addr} (c:Cls K C) (f:Str):W.plainGet K C f=true:=c.pg
def NoAttr (K:W.Frag) (C:Addr) (f:Str):Prop:=W.findIn K (.ref C) f=some none
theorem NoAttr.taker {K:W.Frag} {C:Addr} {f:Str} (n:NoAttr K C f):W.takerIn K C f=some none:=by
 unfold W.takerIn;rw [show W.findIn K (.ref C) f=some none from n]
 rfl
structure Meth (K:W.Frag) (C:Addr) (m:Str) (f:Addr):Prop where
 at_:W.findIn K (.ref C) m=some (some (.ref f))
 fn:W.isFn K (.ref f)=true
 kp:W.keepIn K (.ref f)=true
section
variable {X:Cx} {pins:List (Addr×Obj)} {σ:St} {H:Hp} {s:Shared} {a C dx:Addr} {fs:List (Str×V)} {f:Str} {v:V} {A:Around} {E:Value→Shared→Prop}
theorem kt {b:Bool} {Q:Value→Shared→Prop} (I:Inv X pins σ H s) (e:H a=some (.ins C dx fs)) (c:Cls X.K C) (n:NoAttr X.K C f) (l:fs.lookup f=some v)
  (h:∀ u s',Inv X pins σ H s'→RelV v u→Q u s'):wpAny (model X.prog X.w) A (getAttr (.ref a) f b) Q E s:=by
 obtain ⟨mA,O,r,_,_,_⟩:=m7 I.hok e;obtain ⟨u,hu,ru⟩:=RelO.some_of (v:=v) (o:=mA f) (by rw [← l];exact r f);exact wG I.kIn O (c.get f) c.hd n hu (sZ ru) (h u _ (I.tok _) ru)
theorem qv {m:Str} {g:Addr} {pl:Sem Bool} {Q:Value×List Value→Shared→Prop} (I:Inv X pins σ H s) (e:H a=some (.ins C dx fs)) (c:Cls X.K C) (k:Meth X.K C m g) (l:fs.lookup m=none)
  (h:Q (.ref g,[.ref a]) s):wpAny (model X.prog X.w) A (getMethod (.ref a) m pl) Q E s:=by
 obtain ⟨mA,O,r,_,_,_⟩:=m7 I.hok e;have hn:mA m=none:=RelO.none_of (by rw [← l];exact r m);exact uH I.kIn O (c.get m) k.at_ k.fn hn h
theorem ku {y:V} {u:Value} {Q:Unit→Shared→Prop} (I:Inv X pins σ H s) (e:H a=some (.ins C dx fs)) (c:Cls X.K C) (n:NoAttr X.K C f) (hl:fs.length < 1000) (ry:RelV y u)
  (h:∀ s',Inv X pins σ (upd H a (.ins C dx (eX f y fs))) s'→Q () s'):wpAny (model X.prog X.w) A (setAttr (.ref a) f u) Q E s:=by
 obtain ⟨mA,O,r,wi,_,ho⟩:=m7 I.hok e;have hz:(fs.map (·.1)).length≤sizeLine:=by rw [aAa,sizeLine_eq];lia
 refine wI I.kIn O c.sa c.po n.taker c.hd wi hz fun h' O' sb=>h _ ?_;have hd:∃ o,h'.get? dx=some o:=let ⟨o,_,_,e',_⟩:=O'.ns;⟨o,e'⟩;refine I.write (x:=a) (e:=dx) (by rw [e];exact True.intro) (.inr ho) (fun b q hb z=>(sb.2 b hb).trans z) hd ?_;refine ⟨by rw [ac O.ne];exact ho,?_,O.ne,O'.obj,_,O'.ns,fun g=>?_,fun g hg=>?_⟩
 ·have:=jI f y fs;lia
 ·show RelO ((eX f y fs).lookup g) (if g=f then some u else mA g);rw [jH]
  by_cases q:g=f
  ·rw [if_pos q,if_pos q];exact ry
  ·rw [if_neg q,if_neg q];exact r g
 ·by_cases q:g=f
  ·rw [q];exact (jc f y fs).1
  ·refine (jc f y fs).2 g (wi g fun z=>hg ?_);show (if g=f then some u else mA g)=none;rw [if_neg q];exact z
theorem Inv.made (I:Inv X pins σ H s):Inv X pins σ (upd (upd H s.heap.objs.size (.own (s.heap.objs.size+1))) (s.heap.objs.size+1) (.ins C s.heap.objs.size []))
  { s with heap:=(s.heap.push W.emptyDict).push (W.instObj C s.heap.objs.size) }:=by
 have e1:(s.heap.push W.emptyDict).get? s.heap.objs.size=some W.emptyDict:=aAz s.heap rfl;have e2:((s.heap.push W.emptyDict).push (W.instObj C s.heap.objs.size)).get? (s.heap.objs.size+1)=some (W.instObj C s.heap.objs.size):=by
  have:=aAz (s.heap.push W.emptyDict) (o:=W.instObj C s.heap.objs.size) rfl
  rwa [aA2] at this
 have e3:(s.heap.push W.emptyDict).Ns s.heap.objs.size (fun _=>none):=⟨W.emptyDict,#[],_,e1,rfl,(fun e he=>absurd he (by simp)),fun _=>rfl⟩;have I1:=I.laid (a:=s.heap.objs.size) (o:=.own (s.heap.objs.size+1)) (h':=s.heap.push W.emptyDict) (t':=s.toks) (fun b u q=>aAe _ q) (aAp _) ⟨_,e1⟩;refine I1.laid (a:=s.heap.objs.size+1) (o:=.ins C s.heap.objs.size []) (t':=s.toks) (fun b u q=>aAe _ q) (aBK (aA2 _ _)) ?_;have ne:s.heap.objs.size≠s.heap.objs.size+1:=aAH (aA9 _);refine ⟨by rw [ac ne,aa],aAD _,ne,e2,fun _=>none,(Heap.Ns1.of_empty e3).at fun o q=>aAe _ q,fun _=>True.intro,fun y hy=>absurd rfl hy⟩
theorem wJ {prog:Program} {w:World} {env:Env} {e:Expr} {f:Str} {pos:Pos} {s:Shared} {Q:Value→Shared→Prop} (hb:attributeBase e f env (eval e env)=eval e env)
  (h:wpAny (model prog w) A (eval e env) (fun o s₁=>wpAny (model prog w) A (getAttr o f true) Q E s₁) E s):wpAny (model prog w) A (eval (.Attribute e f pos) env) Q E s :=
 Attribute_any_ h (by rw [arm_eval_Attribute,hb])
end
def Hs (K:W.Frag) (ta:TE) (f:Str):TE:=fun σ H Q=>ta σ H fun x H1=>∃ a C dx fs v,x=.ref a∧H1 a=some (.ins C dx fs)∧Cls K C∧NoAttr K C f∧fs.lookup f=some v∧Q v H1
def Ht (K:W.Frag) (ta tv:TE) (f:Str):TS:=fun D σ H=>tv σ H fun y H1=>ta σ H1 fun x H2=>∃ a C dx fs,x=.ref a∧H2 a=some (.ins C dx fs)∧Cls K C∧NoAttr K C f∧fs.length < 1000 ∧
 D.nx σ (upd H2 a (.ins C dx (eX f y fs)))
def Hu (X:Cx) (op:Operator) (rd:V→V→Hp→VK→Prop):Prop :=
 ∀ (pins:List (Addr×Obj)) (s:Shared) (σ:St) (H:Hp) (x y:V) (u v:Value) (Q:VK),Inv X pins σ H s→RelV x u→RelV y v→rd x y H Q→wpAny (model X.prog X.w) X.A (inplaceOp op u v) (EP X pins σ Q) X.xe s
def wK (K:W.Frag) (ta tv:TE) (rd:V→V→Hp→VK→Prop) (f:Str):TS:=fun D σ H=>ta σ H fun x H1=>∃ a C dx fs v,x=.ref a∧H1 a=some (.ins C dx fs)∧Cls K C∧NoAttr K C f∧fs.lookup f=some v ∧
 tv σ H1 fun y H2=>rd v y H2 fun z H3=>∃ dx' fs',H3 a=some (.ins C dx' fs')∧fs'.length < 1000∧D.nx σ (upd H3 a (.ins C dx' (eX f z fs')))
section
variable {X:Cx} {o e value:Expr} {f:Str} {pos pos' tpos:Pos} {ta tv:TE}
theorem qw (he:PE X e ta) (hb:attributeBase e f X.env (eval e X.env)=eval e X.env):PE X (.Attribute e f pos) (Hs X.K ta f):=by
 intro pins s σ H Q I h;refine wJ hb (thn (he pins s σ H _ I h) fun u s1 ⟨x,H1,I1,rx,a,C,dx,fs,v,ex,ea,c,n,l,q⟩=>?_);subst ex;obtain rfl:u=Value.ref a:=rx;exact kt I1 ea c n l fun u' s2 I2 ru=>⟨v,H1,I2,ru,q⟩
theorem uJ (ha:PE X o ta) (hv:PE X value tv) (hs:swapsWith value (some (.Attribute o f pos')) pos.line X.env=pure false):PS X (.Assign [.Attribute o f pos'] value pos) (Ht X.K ta tv f):=by
 intro pins s σ H D I h;refine plainObj_wpAny_Assign_Attribute (thn (hv pins s σ H _ I h) fun u s1 ⟨y,H1,I1,ry,q⟩=>thn (ha pins s1 σ H1 _ I1 q) fun ov s2 ⟨x,H2,I2,rx,a,C,dx,fs,ex,ea,c,n,l,q2⟩=>?_) hs;subst ex;obtain rfl:ov=Value.ref a:=rx;exact ku I2 ea c n l ry fun s3 I3=>⟨σ,_,I3,q2⟩
theorem ps_fldaug {op:Operator} {rd:V→V→Hp→VK→Prop} (ha:PE X o ta) (hv:PE X value tv) (hop:Hu X op rd):PS X (.AugAssign (.Attribute o f tpos) op value pos) (wK X.K ta tv rd f):=by
 intro pins s σ H D I h;refine wpAny_AugAssign_AttributeAny (thn (ha pins s σ H _ I h) fun ov s1 ⟨x,H1,I1,rx,a,C,dx,fs,v,ex,ea,c,n,l,q⟩=>?_);subst ex;obtain rfl:ov=Value.ref a:=rx;refine kt I1 ea c n l fun u s2 I2 ru=>thn (hv pins s2 σ H1 _ I2 q) fun w3 s3 ⟨y,H2,I3,ry,q3⟩=>thn (hop pins s3 σ H2 v y u w3 _ I3 ru ry q3) fun w4 s4 ⟨z,H3,I4,rz,dx',fs',ea',l',q4⟩=>?_;exact ku I4 ea' c n l' rz fun s5 I5=>⟨σ,_,I5,q4⟩
end
section
variable {X:Cx} {pins:List (Addr×Obj)} {σ:St} {H:Hp} {s:Shared} {A:Around} {E:Value→Shared→Prop} {Q:Value→Shared→Prop} {c:Value} {b:Bool}
end
structure Room (k:Nat) (A:Around):Prop where
 hd:A.handled=none
 dp:A.depth+3*k+5 < recursionLimit
 un:A.units+16*k+200 < cLine
theorem Room.mono {j k:Nat} {A:Around} (r:Room k A) (h:j≤k):Room j A:=⟨r.hd,by have:=r.dp;lia,by have:=r.un;lia⟩
theorem Room.deeper {k:Nat} {A:Around} (r:Room (k+1) A) (env:Env):Room k (A.deeper env) :=
 ⟨r.hd,by have:=r.dp;show A.depth+1+3*k+5 < _;lia,by have:=r.un;show A.units+3+16*k+200 < _;lia⟩
theorem qx {A:Around} {C:Addr} {us:List Value} {kw:List (Str×Value)}:(A.under (.builtin "type.__call__" ⟨.ref C :: us,kw⟩)).depth=A.depth+1:=by
 first | rfl | simp [Around.under,Code.weight,Code.isCreation,Code.isGuard,Code.isCaller,Code.frames,Code.isFrame,guardIds]
theorem qy {A:Around} {C:Addr} {us:List Value} {kw:List (Str×Value)}:(A.under (.builtin "type.__call__" ⟨.ref C :: us,kw⟩)).units=A.units+1:=by
 first | rfl | simp [Around.under,Code.cUnits,Code.frames,Code.isFrame]
theorem Room.make {k:Nat} {A:Around} (r:Room (k+1) A) (C:Addr) (us:List Value) (kw:List (Str×Value)):Room k (A.under (.builtin "type.__call__" ⟨.ref C :: us,kw⟩)) :=
 ⟨r.hd,by have:=r.dp;rw [qx];lia,by have:=r.un;rw [qy];lia⟩
theorem Room.depth {k:Nat} {A:Around} (r:Room k A):A.depth < recursionLimit:=by have:=r.dp;lia
theorem Room.units {k:Nat} {A:Around} (r:Room k A):A.units+64 < cLine:=by have:=r.un;lia
def iq:TA:=fun _ H Q=>Q [] H
def bI (ta:TE) (tr:TA):TA:=fun σ H Q=>ta σ H fun x H1=>tr σ H1 fun xs H2=>Q (x :: xs) H2
section
variable {X:Cx} {e:Expr} {es:List Expr} {te:TE} {t:TA} {pos:Pos}
theorem pa_nil:PA X [] iq:=fun _ _ _ _ H Q I h=>Calls.spliced_nil ⟨[],H,I,.nil,h⟩
theorem aq (ha:PE X e te) (hr:PA X es t) (hs:starEach (e :: es) X.env=(false,eval e X.env) :: starEach es X.env:=by rfl):PA X (e :: es) (bI te t):=by
 intro pos pins s σ H Q I h;rw [hs];show wpAny _ _ (spliced ((false,eval e X.env) :: backTo pos (starEach es X.env))) _ _ s;refine Calls.spliced_cons (thn (ha pins s σ H _ I h) fun u s1 ⟨x,H1,I1,r1,q1⟩=>?_);exact thn (hr pos pins s1 σ H1 _ I1 q1) fun us s2 ⟨xs,H2,I2,r2,q2⟩=>⟨x :: xs,H2,I2,.cons r1 r2,q2⟩
def AG (t:TA):TE:=fun σ H Q=>t σ H fun xs H1=>xs.length≤sizeLine∧∀ p,H1 p=none→Q (.ref p) (upd H1 p (.tup xs))
def s9 (t:TA):TE:=fun σ H Q=>t σ H fun xs H1=>xs.length≤sizeLine∧∀ p,H1 p=none→Q (.ref p) (upd H1 p (.lst xs))
theorem uK {x1} (h:PA X es t):PE X (.Tuple es x1 pos) (AG t):=by
 intro pins s σ H Q I hq;refine wpAny_Tuple_spliced (thn (h pos pins s σ H _ I hq) fun us s1 ⟨xs,H1,I1,r,z,q⟩=>⟨by rw [← r.length];exact z,?_⟩);have hf:H1 s1.heap.objs.size=none:=I1.hok.fresh (aAp _);refine ⟨.ref s1.heap.objs.size,upd H1 s1.heap.objs.size (.tup xs),I1.laid (t':=s1.toks) (fun b u e=>aAe _ e) (aAp _) ?_,rfl,q _ hf⟩;exact ⟨z,us,r,⟨_,aAz _ rfl,rfl,_,rfl⟩⟩
theorem pe_lst (h:PA X es t):PE X (.List es pos) (s9 t):=by
 intro pins s σ H Q I hq;refine wpAny_List_spliced (thn (h pos pins s σ H _ I hq) fun us s1 ⟨xs,H1,I1,r,z,q⟩=>⟨by rw [← r.length];exact z,?_⟩);have hf:H1 s1.heap.objs.size=none:=I1.hok.fresh (aAp _);refine ⟨.ref s1.heap.objs.size,upd H1 s1.heap.objs.size (.lst xs),I1.laid (t':=s1.toks) (fun b u e=>aAe _ e) (aAp _) ?_,rfl,q _ hf⟩;exact ⟨z,us,0,r,aAz _ rfl⟩
end
abbrev Sp:=List V→Hp→VK→XK→Prop
abbrev CXT:=List Env→Hp→Shared→XK→Value→Shared→Prop
structure Env0 (P:Program) (w:World) (K:W.Frag) (mg:Str→Option Value) (base:Heap) (A:Around) (outer:List Env) (s:Shared) (H:Hp):Prop where
 frames:A.frames=some outer
 mod:Mod K mg base
 bs:∀ b o,base.get? b=some o→s.heap.get? b=some o∧H b=none
 bsz:base.objs.size≤s.heap.objs.size
 funs:s.heap.FunFrames base outer
 frf:∀ b∈frs outer,H b=none
 hok:HOk P w H s.heap
 bare:AllBare s.gens
def CE (outer:List Env) (P:Program) (w:World) (H:Hp) (s:Shared) (Q:VK) (u:Value) (s':Shared):Prop :=
 ∃ v H',s'.os=s.os∧AllBare s'.gens∧Un (frs outer) [] H H' s.heap s'.heap∧HOk P w H' s'.heap∧RelV v u∧Q v H'
def CR (CX:CXT) (outer:List Env) (P:Program) (w:World) (H:Hp) (s:Shared) (Q:VK) (E:XK) (r:Result) (s':Shared):Prop :=
 match r with
 | .ok (.ret u)=>CE outer P w H s Q u s'
 | .ok _=>False
 | .error e=>CX outer H s E e s'
structure FnOk (P:Program) (w:World) (K:W.Frag) (mg:Str→Option Value) (base:Heap) (CX:CXT) (k:Nat) (f:Addr) (fd:FuncData) (ps:List Str) (sp:Sp):Prop where
 len:∀ vs H Q E,sp vs H Q E→vs.length=ps.length
 run:∀ (A:Around) (outer:List Env) (s:Shared) (H:Hp) (args:Args) (us:List Value) (vs:List V) (Q:VK) (E:XK),Room k A→Env0 P w K mg base A outer s H→BindsTo s fd args (ps.zip us)→Vals vs us→sp vs H Q E →
  codeAny (model P w) A (.call (.ref f) args) (CR CX outer P w H s Q E) s
theorem FnOk.mono {P:Program} {w:World} {K:W.Frag} {mg:Str→Option Value} {base:Heap} {CX:CXT} {j k:Nat} {f:Addr} {fd:FuncData} {ps:List Str} {sp:Sp} (F:FnOk P w K mg base CX j f fd ps sp) (h:j≤k) :
  FnOk P w K mg base CX k f fd ps sp:=⟨F.len,fun A outer s H args us vs Q E hr=>F.run A outer s H args us vs Q E (hr.mono h)⟩
theorem FnOk.imp {P:Program} {w:World} {K:W.Frag} {mg:Str→Option Value} {base:Heap} {CX:CXT} {k:Nat} {f:Addr} {fd:FuncData} {ps:List Str} {sp sp':Sp} (F:FnOk P w K mg base CX k f fd ps sp)
  (h:∀ vs H Q E,sp' vs H Q E→sp vs H Q E):FnOk P w K mg base CX k f fd ps sp' :=
 ⟨fun vs H Q E q=>F.len vs H Q E (h _ _ _ _ q),fun A outer s H args us vs Q E hr he hb hv hs=>F.run A outer s H args us vs Q E hr he hb hv (h _ _ _ _ hs)⟩
theorem Env0.make {P:Program} {w:World} {K:W.Frag} {mg:Str→Option Value} {base:Heap} {A:Around} {outer:List Env} {s:Shared} {H:Hp} (e:Env0 P w K mg base A outer s H) (C:Addr) (us:List Value) (kw:List (Str×Value)) :
  Env0 P w K mg base (A.under (.builtin "type.__call__" ⟨.ref C :: us,kw⟩)) outer s H:=⟨by first | exact e.frames | (simpa [Around.under,Code.envs,Code.isFrame,pushEnvs] using e.frames),e.mod,e.bs,e.bsz,e.funs,e.frf,e.hok,e.bare⟩
section
variable {X:Cx} {pins:List (Addr×Obj)} {σ:St} {H:Hp} {s s':Shared}
theorem Inv.env0 (I:Inv X pins σ H s):Env0 X.prog X.w X.K X.mg X.base X.A X.stack s H :=
 ⟨I.ok.frames,I.ok.mod,I.bs,aAA I.ok.bsz I.sz,I.stack,I.stkFree,I.hok,I.bare⟩
theorem Inv.after {Q:VK} {u:Value} (I:Inv X pins σ H s) (h:CE X.stack X.prog X.w H s Q u s'):EP X pins σ Q u s':=by
 obtain ⟨v,H',os,bare,un,hok,r,q⟩:=h;obtain ⟨hh,g,d,t,os'⟩:=s';obtain rfl:os'=s.os:=os;exact ⟨v,H',I.call (h':=hh) (g':=g) (d':=d) (t':=t) (ch:=[]) un hok bare (fun b z=>absurd z (by simp)),r,q⟩
end
def rK (sp:Sp) (dvs:List V) (E:XK) (t:TA):TE:=fun σ H Q=>t σ H fun vs H1=>sp (vs++dvs) H1 Q E
def Gp (C:Addr) (m:Str) (sp:Sp) (dvs:List V) (E:XK) (ta:TE) (t:TA):TE:=fun σ H Q=>ta σ H fun x H1=>∃ a dx fs,x=.ref a∧H1 a=some (.ins C dx fs)∧fs.lookup m=none ∧
 t σ H1 fun vs H2=>sp (x :: (vs++dvs)) H2 Q E
def Gq (C:Addr) (sp:Sp) (dvs:List V) (E:XK) (t:TA):TE:=fun σ H Q=>t σ H fun vs H1=>∀ x dx,H1 x=none→H1 dx=none→dx≠x →
 sp (.ref x :: (vs++dvs)) (upd (upd H1 dx (.own x)) x (.ins C dx [])) (fun v H2=>v=.non∧Q (.ref x) H2) E
def Binds (K:W.Frag) (fd:FuncData) (ps:List Str) (ds:List Value):Prop :=
 ∀ (s:Shared) (us:List Value),K.In s.heap→(us++ds).length=ps.length→BindsTo s fd ⟨us,[]⟩ (ps.zip (us++ds))
theorem Binds.all {K:W.Frag} {fd:FuncData} {ps:List Str} (h:∀ us:List Value,us.length=ps.length→bindArgs fd ⟨us,[]⟩=pure (ps.zip us)):Binds K fd ps []:=fun s us _ hl=>by
 rw [aAZ] at hl ⊢;exact .of_eq (h us hl)
def fJ (CX:CXT) (X:Cx) (E:XK):Prop:=∀ (pins:List (Addr×Obj)) (σ:St) (H:Hp) (s:Shared) (e:Value) (s':Shared),Inv X pins σ H s→CX X.stack H s E e s'→X.xe e s'
section
variable {X:Cx} {CX:CXT} {k:Nat} {f C:Addr} {fd:FuncData} {ps:List Str} {sp:Sp} {dvs:List V} {ds:List Value} {E:XK} {x m:Str} {p pos apos:Pos} {e o:Expr} {es:List Expr} {ta:TE} {t:TA}
theorem uL {pins:List (Addr×Obj)} {σ:St} {H:Hp} {s:Shared} {Q:VK} {us:List Value} {vs:List V} (F:FnOk X.prog X.w X.K X.mg X.base CX k f fd ps sp) (hr:Room k X.A) (hb:Binds X.K fd ps ds) (hd:Vals dvs ds) (hx:fJ CX X E)
  (I:Inv X pins σ H s) (r:Vals vs us) (h:sp (vs++dvs) H Q E):wpAny (model X.prog X.w) X.A (call (.ref f) us) (EP X pins σ Q) X.xe s:=by
 have r2:Vals (vs++dvs) (us++ds):=r.append hd;have hl:(us++ds).length=ps.length:=by rw [← r2.length];exact F.len _ _ _ _ h
 refine wpAny_call (codeAny_mono (F.run X.A X.stack s H ⟨us,[]⟩ (us++ds) (vs++dvs) Q E hr I.env0 (hb s us I.kIn hl) r2 h) fun r s' hq=>?_)
 cases r with
 | error e=>exact hx pins σ H s e s' I hq
 | ok fl =>
  cases fl with
  | ret u=>exact I.after hq
  | next=>exact False.elim hq
  | brk=>exact False.elim hq
  | cont=>exact False.elim hq
theorem pe_call (F:FnOk X.prog X.w X.K X.mg X.base CX k f fd ps sp) (hr:Room k X.A) (hg:Gl X x) (hm:X.mg x=some (.ref f)) (hk:W.keepIn X.K (.ref f)=true) (hb:Binds X.K fd ps ds) (hd:Vals dvs ds) (hx:fJ CX X E)
  (ha:PA X (e :: es) t) (hdb:(x == ("__debug__" : Str))=false:=by decide) (he:starEach (e :: es) X.env=(false,eval e X.env) :: starEach es X.env:=by rfl) (hpl:(backTo pos (starEach es X.env)).any (·.1)=false:=by rfl) :
  PE X (.Call (.Name x p) (e :: es) [] pos) (rK sp dvs E t):=by
 intro pins s σ H Q I h;refine wpAny_Call_Name_kw (im I hg hm ?_ hdb);refine W.callWith_K (h₀:=X.base) I.ok.mod.kin hk (thn (ha pos pins s σ H _ I h) fun us s1 ⟨vs,H1,I1,r,q⟩=>⟨I1.kIn,?_⟩) he hpl;exact uL F hr hb hd hx I1 r q
theorem pe_meth {pl:Sem Bool} (he:PE X o ta) (c:Cls X.K C) (hm:Meth X.K C m f) (F:FnOk X.prog X.w X.K X.mg X.base CX k f fd ps sp) (hr:Room k X.A) (hb:Binds X.K fd ps ds) (hd:Vals dvs ds) (hx:fJ CX X E) (ha:PA X (e :: es) t)
  (hst:starEach (e :: es) X.env=(false,eval e X.env) :: starEach es X.env:=by rfl) (hpl:(backTo pos (starEach es X.env)).any (·.1)=false:=by rfl)
  (ht:eval (.Call (.Attribute o m apos) (e :: es) [] pos) X.env=(do
   let ov ← eval o X.env
   standAt apos.atName
   let (f,first) ← holding [ov] (getMethod ov m pl)
   callWith pos f first (backTo pos (starEach (e :: es) X.env)) (backToKw pos (keywordEach [] X.env))):=by rfl) :
  PE X (.Call (.Attribute o m apos) (e :: es) [] pos) (Gp C m sp dvs E ta t):=by
 intro pins s σ H Q I h;refine W.methodCall_KW (pl:=pl) (thn (he pins s σ H _ I h) fun u s1 ⟨x,H1,I1,rx,a,dx,fs,ex,ea,l,q⟩=>?_) ht;subst ex;obtain rfl:u=Value.ref a:=rx;refine qv I1 ea c hm l ?_;refine W.callWith_K (first:=[.ref a]) (h₀:=X.base) I.ok.mod.kin hm.kp (thn (ha pos pins s1 σ H1 _ I1 q) fun us s2 ⟨vs,H2,I2,r,q2⟩=>⟨I2.kIn,?_⟩) hst hpl;exact uL (us:=.ref a :: us) (vs:=.ref a :: vs) F hr hb hd hx I2 (.cons rfl r) q2
structure Mk (K:W.Frag) (C f:Addr):Prop where
 makes:W.makesIn K C=true
 init:W.findIn K (.ref C) "__init__" = some (some (.ref f))
 fn:W.isFn K (.ref f)=true
 kp:W.keepIn K (.ref C)=true
theorem uM {pins:List (Addr×Obj)} {σ:St} {H:Hp} {s:Shared} {Q:VK} {us:List Value} {vs:List V} (M:Mk X.K C f) (F:FnOk X.prog X.w X.K X.mg X.base CX k f fd ps sp) (hr:Room (k+1) X.A) (hb:Binds X.K fd ps ds) (hd:Vals dvs ds)
  (hx:fJ CX X E) (I:Inv X pins σ H s) (r:Vals vs us)
  (h:∀ x dx,H x=none→H dx=none→dx≠x→sp (.ref x :: (vs++dvs)) (upd (upd H dx (.own x)) x (.ins C dx [])) (fun v H2=>v=.non∧Q (.ref x) H2) E) :
  wpAny (model X.prog X.w) X.A (call (.ref C) us) (EP X pins σ Q) X.xe s:=by
 have hq:=h (s.heap.objs.size+1) s.heap.objs.size (I.hok.fresh (aBX _)) (I.hok.fresh (aAp _)) (aAH (aA9 _));have I2:=Inv.made (C:=C) I;have r2:Vals (V.ref (s.heap.objs.size+1) :: (vs++dvs)) (Value.ref (s.heap.objs.size+1) :: (us++ds)):=.cons rfl (r.append hd);have hl:(Value.ref (s.heap.objs.size+1) :: us++ds).length=ps.length:=by
  have e:=r2.length;rw [F.len _ _ _ _ hq] at e;exact e.symm
 refine wpAny_call (uI (f:=f) I.kIn M.makes M.init (beq_iff_eq.mp M.fn) (codeAny_mono (F.run _ X.stack _ _ ⟨Value.ref (s.heap.objs.size+1) :: us,[]⟩ (Value.ref (s.heap.objs.size+1) :: (us++ds)) _ _ E (hr.make C us [])
  (I2.env0.make C us []) (hb _ (Value.ref (s.heap.objs.size+1) :: us) I2.kIn hl) r2 hq) fun r s' hq'=>?_))
 cases r with
 | error e=>exact hx pins σ _ _ e s' I2 hq'
 | ok fl =>
  cases fl with
  | ret u =>
   obtain ⟨v,H',I3,rv,ev,q3⟩:=I2.after hq';subst ev;exact ⟨rv,⟨V.ref (s.heap.objs.size+1),H',I3,rfl,q3⟩⟩
  | next=>exact False.elim hq'
  | brk=>exact False.elim hq'
  | cont=>exact False.elim hq'
theorem wL (M:Mk X.K C f) (F:FnOk X.prog X.w X.K X.mg X.base CX k f fd ps sp) (hr:Room (k+1) X.A) (hg:Gl X x) (hm:X.mg x=some (.ref C)) (hb:Binds X.K fd ps ds) (hd:Vals dvs ds) (hx:fJ CX X E)
  (ha:PA X (e :: es) t) (hdb:(x == ("__debug__" : Str))=false:=by decide) (he:starEach (e :: es) X.env=(false,eval e X.env) :: starEach es X.env:=by rfl) (hpl:(backTo pos (starEach es X.env)).any (·.1)=false:=by rfl) :
  PE X (.Call (.Name x p) (e :: es) [] pos) (Gq C sp dvs E t):=by
 intro pins s σ H Q I h;refine wpAny_Call_Name_kw (im I hg hm ?_ hdb);refine W.callWith_K (h₀:=X.base) I.ok.mod.kin M.kp (thn (ha pos pins s σ H _ I h) fun us s1 ⟨vs,H1,I1,r,q⟩=>⟨I1.kIn,?_⟩) he hpl;exact uM M F hr hb hd hx I1 r q
end
section
variable {X:Cx} {CX:CXT} {k:Nat} {f C:Addr} {fd:FuncData} {ps ks:List Str} {sp:Sp} {E:XK} {x m:Str} {p pos apos kpos:Pos} {e o:Expr} {es:List Expr} {kws:List Keyword} {te ta:TE} {t tk:TA} {nm:Option Str}
variable {g:List Value→List Value→List Value} {gV:List V→List V→List V}
end
structure FnScope (N P:List Str) (sc:Scope):Prop where
 kind:sc.kind=.function
 co:sc.isCoroutine=false
 gen:sc.isGenerator=false
 nd:N.Nodup
 pre:N.take P.length=P
 par:∀ x∈P,sc.names.lookup x=some .local∨sc.names.lookup x=some .cell
 nofree:∀ y∈sc.names,y.2≠.free
theorem mw {kindOf:Str→Option NameKind} {x:Str}:∀ {binds:List (Str×Value)} {m:Str→Option Value},(∀ v,(x,v)∉binds)→bindL kindOf binds m x=m x
 | [],_,_=>rfl
 | (n,v) :: r,m,h=>by
  unfold bindL;rw [mw fun w hw=>h w (aAg _ hw)]
  split
  ·have:x≠n:=by rintro rfl;exact h v aAi
   simp [this]
  ·rfl
theorem mx {kindOf:Str→Option NameKind} {x:Str}:∀ {binds:List (Str×Value)} {m:Str→Option Value},(∀ v,(x,v)∉binds)→bindC kindOf binds m x=m x
 | [],_,_=>rfl
 | (n,v) :: r,m,h=>by
  unfold bindC;rw [mx fun w hw=>h w (aAg _ hw)]
  split
  ·rfl
  ·have:x≠n:=by rintro rfl;exact h v aAi
   simp [this]
theorem my {kindOf:Str→Option NameKind} {x:Str} {v:Value}:∀ {P:List Str} {vs:List Value} {i:Nat} {m:Str→Option Value},P.Nodup→P[i]?=some x→vs[i]?=some v→kindOf x=some .local →
  bindL kindOf (P.zip vs) m x=some v
 | [],_,_,_,_,h,_,_=>by simp at h
 | _ :: _,[],_,_,_,_,h,_=>by simp at h
 | p :: P,w :: vs,0,m,nd,h1,h2,hk=>by
  simp at h1 h2;subst h1;subst h2;show bindL kindOf ((p,w) :: P.zip vs) m p=_;unfold bindL;rw [mw fun v hv=>(aBd.mp nd).1 (aBS hv).1,if_pos hk];simp
 | p :: P,w :: vs,i+1,m,nd,h1,h2,hk=>by
  show bindL kindOf ((p,w) :: P.zip vs) m x=_;unfold bindL;exact my (i:=i) (aBd.mp nd).2 (by simpa using h1) (by simpa using h2) hk
theorem mz {kindOf:Str→Option NameKind} {x:Str} {v:Value}:∀ {P:List Str} {vs:List Value} {i:Nat} {m:Str→Option Value},P.Nodup→P[i]?=some x→vs[i]?=some v→kindOf x≠some .local →
  bindC kindOf (P.zip vs) m x=some v
 | [],_,_,_,_,h,_,_=>by simp at h
 | _ :: _,[],_,_,_,_,h,_=>by simp at h
 | p :: P,w :: vs,0,m,nd,h1,h2,hk=>by
  simp at h1 h2;subst h1;subst h2;show bindC kindOf ((p,w) :: P.zip vs) m p=_;unfold bindC;rw [mx fun v hv=>(aBd.mp nd).1 (aBS hv).1,if_neg hk];simp
 | p :: P,w :: vs,i+1,m,nd,h1,h2,hk=>by
  show bindC kindOf ((p,w) :: P.zip vs) m x=_;unfold bindC;exact mz (i:=i) (aBd.mp nd).2 (by simpa using h1) (by simpa using h2) hk
def ir (N:List Str) (vs:List V):St:=vs.map some++List.replicate (N.length - vs.length) none
def oR (CX:CXT) (P:Program) (w:World) (K:W.Frag) (mg:Str→Option Value) (base:Heap) (N:List Str) (qual:Str) (scope:Scope) (f:Addr) (cd:Value) (A:Around) (outer:List Env) (s:Shared) (H:Hp) (E:XK):Cx where
 prog:=P
 w:=w
 K:=K
 mg:=mg
 base:=base
 A:=A.deeper (envOfC qual scope s.heap.objs.size f cd)
 N:=N
 s₀:=s
 H₀:=H
 env:=envOfC qual scope s.heap.objs.size f cd
 outer:=outer
 stack:=envOfC qual scope s.heap.objs.size f cd :: outer
 ex:=[]
 calm:=true
 fn:=fun _=>true
 pn:=[]
 xe:=fun e s'=>wpAny (model P w) (A.deeper (envOfC qual scope s.heap.objs.size f cd)) (leaving (envOfC qual scope s.heap.objs.size f cd) e) (fun _ s''=>CX outer H s E e s'') (fun e' s''=>CX outer H s E e' s'') s'
theorem oS {sc:Scope} {n:Nat} {x:Str} (h:sc.names.lookup x=some .cell):∃ c,(cellsFrom n sc.names []).lookup x=some c:=by
 have q:=W.cellsFrom_some sc.names n [] (.inl h);exact Option.isSome_iff_exists.mp q
theorem tj {CX:CXT} {P:Program} {w:World} {K:W.Frag} {mg:Str→Option Value} {base:Heap} {N ps:List Str} {qual:Str} {scope:Scope} {f:Addr} {cd:Value} {A:Around} {outer:List Env} {s s1:Shared} {H:Hp} {E:XK} {us:List Value} {vs:List V}
  (S:FnScope N ps scope) (hd:A.handled=none) (e0:Env0 P w K mg base A outer s H) (hl:vs.length=ps.length) (r:Vals vs us)
  (x:InCallC s s.heap.objs.size (bindL (envOfC qual scope s.heap.objs.size f cd).kindOf (ps.zip us) fun _=>none) (cellsFrom (s.heap.objs.size+1) scope.names []) (bindC (envOfC qual scope s.heap.objs.size f cd).kindOf (ps.zip us) fun _=>none) s1) :
  Inv (oR CX P w K mg base N qual scope f cd A outer s H E) [] (ir N vs) H s1:=by
 have hpl:ps.length≤N.length:=by have:=congrArg List.length S.pre;rw [aAE] at this;lia
 obtain ⟨h1,tk,rfl,hk⟩:=x.done;have noA:∀ b:Addr,b∉(oR CX P w K mg base N qual scope f cd A outer s H E).ex:=fun b z=>absurd (show b∈([]:List Addr) from z) (by simp);refine ⟨⟨e0.mod,S.kind,rfl,rfl,aAp _,fun y z c h1 h2=>?_,fun y hy=>?_,fun y c _ h=>?_,fun _=>hd,Around.frames_deeper e0.frames,.inr ⟨rfl,rfl⟩,fun b z=>absurd z (noA b),e0.bs,e0.bsz,fun b _ _=>noA b,fun b z=>absurd z (noA b),e0.funs,e0.frf⟩,
  rfl,e0.bare,Un.kept hk,⟨_,x.toInCall.ns,fun i y v h1 h2 h3=>?_⟩,fun y c h=>⟨_,x.cell y c h⟩,e0.hok.fresh (aAp _),fun y c h=>?_,fun p hp=>absurd (show p∈([]:List (Addr×Obj)) from hp) (by simp),e0.hok.kept hk,?_⟩
 ·exact name_of_addr x.apart (PySem.mem_of_lookup h1) (PySem.mem_of_lookup h2)
 ·have hy:scope.names.lookup y=some .cell∨scope.names.lookup y=some .free:=hy;rcases hy with hy | hy
  ·exact oS hy
  ·exact absurd rfl (S.nofree _ (PySem.mem_of_lookup hy))
 ·exact aBa (x.above y c (PySem.mem_of_lookup h))
 ·have hi:i < vs.length:=by
   unfold ir at h2
   by_cases hi:i < vs.length
   ·exact hi
   ·rw [aBl (by simpa using hi)] at h2;rw [aBR] at h2
    split at h2 <;> cases h2
  have ha:vs[i]?=some v:=by
   unfold ir at h2;rw [aBI (by simpa using hi),aAf] at h2
   cases e:vs[i]? with
   | none=>rw [e] at h2;cases h2
   | some a=>rw [e] at h2;cases h2;rfl
  obtain ⟨u,hu,rv⟩:=r.get ha;have hp:ps[i]?=some y:=by
   rw [← S.pre,List.getElem?_take_of_lt (by lia)];exact h1
  have ndP:ps.Nodup:=by rw [← S.pre];exact S.nd.sublist (List.take_sublist _ _)
  refine ⟨u,rv,?_⟩;rcases S.par y (aAr hp) with k | k
  ·exact .inl ⟨k,my ndP hp hu k⟩
  ·obtain ⟨c,e⟩:=oS (n:=s.heap.objs.size+1) k;refine .inr ⟨.inl k,c,e,?_⟩;have q:=x.cell y c e;rw [mz ndP hp hu (by show scope.names.lookup y≠_;rw [k];decide)] at q;exact q
 ·exact e0.hok.fresh (aBa (x.above y c (PySem.mem_of_lookup h)))
 ·unfold ir;show _=N.length;rw [aAc,aAa,aA0];lia
theorem xO {CX:CXT} {P:Program} {w:World} {K:W.Frag} {mg:Str→Option Value} {base:Heap} {k:Nat} {f:Addr} {name qual:Str} {params:Arguments} {body:List Stmt} {scope:Scope} {dV kV doc pm cdv ct oc:Value} {an od:Option Addr}
  {osl:Array (Option Value)} {N ps:List Str} {sp:Sp} (lk:K.lookup f=some ⟨oc,od,.func (W.fnOf name qual params body scope dV kV doc pm an cdv ct),osl⟩) (hcd:W.codeIn K cdv qual=true) (S:FnScope N ps scope)
  (len:∀ vs H Q E,sp vs H Q E→vs.length=ps.length)
  (hbody:∀ (A:Around) (outer:List Env) (s:Shared) (H:Hp) (vs:List V) (Q:VK) (E:XK),Room k (A.deeper (envOfC qual scope s.heap.objs.size f cdv))→sp vs H Q E →
   ∃ t,PSs (oR CX P w K mg base N qual scope f cdv A outer s H E) body t∧t { nx:=fun _ H'=>Q .non H',rt:=Q } (ir N vs) H) :
  FnOk P w K mg base CX (k+1) f (W.fnOf name qual params body scope dV kV doc pm an cdv ct) ps sp:=by
 refine ⟨len,fun A outer s H args us vs Q E hr e0 hb r hsp=>?_⟩;have hl:=len _ _ _ _ hsp;have KX:K.In s.heap:=e0.mod.kin.keeps fun b o e=>(e0.bs b o e).1;have lim:s.heap.NoLimit:=e0.mod.nolimit.keeps fun b o e=>(e0.bs b o e).1;have hkind:∀ y∈ps.zip us,scope.names.lookup y.1=some .local∨(scope.names.lookup y.1=some .cell∧((cellsFrom (s.heap.objs.size+1) scope.names []).lookup y.1).isSome=true):=fun ⟨n,v⟩ hy=>by
  rcases S.par n (aBS hy).1 with q | q
  ·exact .inl q
  ·exact .inr ⟨q,W.cellsFrom_some _ _ _ (.inl q)⟩
 refine codeAny_call_function hr.depth (KX _ _ lk) rfl S.co S.gen rfl (W.codeRec_of KX hcd) (hb _ _ _ _ ?_);refine wpAny_newFunctionEnv_cells S.kind hkind fun env he s1 x=>?_;subst he;refine ⟨lim.keeps x.toInCall.keep,codeAny_func ?_⟩;obtain ⟨t,ht,hq⟩:=hbody A outer s H vs Q E (hr.deeper _) hsp;have I:Inv (oR CX P w K mg base N qual scope f cdv A outer s H E) [] (ir N vs) H s1:=tj S hr.hd e0 hl r x;refine wpAny_mono (ht [] s1 (ir N vs) H _ I hq) (fun fl s' hs=>?_) fun e s' hs=>hs;have fin:∀ {σ':St} {H':Hp} {v:V} {u:Value},Inv (oR CX P w K mg base N qual scope f cdv A outer s H E) [] σ' H' s'→RelV v u→Q v H'→CE outer P w H s Q u s' :=
  fun {σ' H' v u} J rv q=>⟨v,H',J.os,J.bare,J.base,J.hok,rv,q⟩
 cases fl with
 | ret u =>
  obtain ⟨v,σ',H',J,rv,q⟩:=hs;exact fin J rv q
 | next =>
  obtain ⟨σ',H',J,q⟩:=hs;exact fin (v:=V.non) (u:=Value.none) J rfl q
 | brk =>
  obtain ⟨_,_,_,q⟩:=hs;exact False.elim q
 | cont =>
  obtain ⟨_,_,_,q⟩:=hs;exact False.elim q
section
variable {X:Cx} {x:Str} {p pos:Pos} {e:Expr} {es:List Expr} {t:TA} {id T:String} {r:List V→Hp→VK→Prop}
def tCB (r:List V→Hp→VK→Prop) (t:TA):TE:=fun σ H Q=>t σ H fun vs H1=>r vs H1 Q
theorem pe_callB (hc:bB X (.builtin id) r) (hg:Gl X x) (hm:X.mg x=none) (hv:bootBuiltins x=some (.builtin id)) (ha:PA X (e :: es) t) (hn:x≠ "__name__" :=by decide) (hdb:(x == ("__debug__" : Str))=false:=by decide)
  (he:starEach (e :: es) X.env=(false,eval e X.env) :: starEach es X.env:=by rfl) (hpl:(backTo pos (starEach es X.env)).any (·.1)=false:=by rfl):PE X (.Call (.Name x p) (e :: es) [] pos) (tCB r t):=by
 intro pins s σ H Q I h;refine wpAny_Call_Name_kw (i8 I hg hm hv ?_ hn hdb);exact PyProof.Rows.callWith_builtin1 (thn (ha pos pins s σ H _ I h) fun us s1 ⟨vs,H1,I1,r1,q1⟩=>hc pins s1 σ H1 vs us Q I1 r1 q1) he hpl
theorem pe_callTy (hc:bB X (.type T) r) (hg:Gl X x) (hm:X.mg x=none) (hv:bootBuiltins x=some (.type T)) (ha:PA X (e :: es) t) (hn:x≠ "__name__" :=by decide) (hdb:(x == ("__debug__" : Str))=false:=by decide)
  (he:starEach (e :: es) X.env=(false,eval e X.env) :: starEach es X.env:=by rfl) (hpl:(backTo pos (starEach es X.env)).any (·.1)=false:=by rfl):PE X (.Call (.Name x p) (e :: es) [] pos) (tCB r t):=by
 intro pins s σ H Q I h;refine wpAny_Call_Name_kw (i8 I hg hm hv ?_ hn hdb);exact PyProof.Rows.callWith_type1 (thn (ha pos pins s σ H _ I h) fun us s1 ⟨vs,H1,I1,r1,q1⟩=>hc pins s1 σ H1 vs us Q I1 r1 q1) he hpl
end
end L2
namespace HT
open PySem PyProof.Rows
section
open PySem.SeqAt
open PySem.AutoSeq1 (wpAny_loadPart')
open PySem.MeetsSeq PySem.MeetsSeq2 PySem.MeetsSeq3
end
section
variable {prog:Program} {w:World} {A:Around} {E:Value→Shared→Prop} {s:Shared}
theorem cat_tup {t b:Addr} {vs ws:List Value} {Q:Value→Shared→Prop} (ht:IsTup s.heap t vs.toArray) (hb:IsTup s.heap b ws.toArray) (hv:vs≠[])
  (h1:ws=[]→Q (.ref t) s) (h2:ws≠[]→Q (.ref s.heap.objs.size) { s with heap:=s.heap.push { cls:=.type "tuple",data:=.seq (vs++ws).toArray } })
  (hsz:vs.length+ws.length≤sizeLine):wpAny (model prog w) A (binaryOp .Add (.ref t) (.ref b)) Q E s:=by
 obtain ⟨⟨cls,dd,data,sl⟩,ho,hc,n,hd⟩:=id ht;obtain ⟨⟨cls2,dd2,data2,sl2⟩,ho2,hc2,n2,hd2⟩:=id hb;simp only at hc hd hc2 hd2;subst hc hd hc2 hd2;have e:vs.toArray++ws.toArray=(vs++ws).toArray:=by simp
 by_cases hw:ws=[]
 ·exact concat_meets ⟨_,ho,rfl⟩ ⟨_,ho2,rfl⟩ noFill_tuple_add seq_tuple_add PySem.F.slot_tuple_add PySem.F.entry_tuple_add (PySem.F.args_tuple_add_2 _ _)
   (tuple_addW1 t b vs.toArray ws.toArray n n2 dd dd2 sl sl2 (by simpa using hv) (by simp [hw])) ⟨ho,ho2,h1 hw⟩
 ·refine concat_meets ⟨_,ho,rfl⟩ ⟨_,ho2,rfl⟩ noFill_tuple_add seq_tuple_add PySem.F.slot_tuple_add PySem.F.entry_tuple_add (PySem.F.args_tuple_add_2 _ _)
   (tuple_addW2 t b vs.toArray ws.toArray n n2 dd dd2 sl sl2 (by simpa using hv) (by simpa using hw) (by rw [aAw,aAw];exact hsz)) ⟨ho,ho2,?_⟩
  rw [e];exact h2 hw
def sIx (n d:Nat):Option Int→Nat
 | none=>d
 | some v=>if v < 0 then (v+(n:Int)).toNat else min v.toNat n
theorem sIx_none (n d:Nat):sIx n d none=d:=rfl
theorem sIx_nat (n d k:Nat):sIx n d (some (k:Int))=min k n:=by
 show (if (k:Int) < 0 then ((k:Int)+(n:Int)).toNat else min (k:Int).toNat n)=min k n;rw [if_neg (by lia),aBf]
theorem AH (n d:Nat) (hd:d≤n) (o:Option Int):sIx n d o≤n:=by
 cases o with
 | none=>exact hd
 | some v =>
  show (if v < 0 then (v+(n:Int)).toNat else min v.toNat n)≤n
  by_cases hv:v < 0
  ·rw [if_pos hv];lia
  ·rw [if_neg hv];exact Nat.min_le_right _ _
theorem rL (v:Int) (n d:Nat):(if v < 0 then max (v+(n:Int)) 0 else min v (n:Int))=((sIx n d (some v):Nat):Int):=by
 show (if v < 0 then max (v+(n:Int)) 0 else min v (n:Int))=(((if v < 0 then (v+(n:Int)).toNat else min v.toNat n):Nat):Int)
 by_cases hv:v < 0
 ·simp only [if_pos hv];lia
 ·simp only [if_neg hv];lia
theorem qz (lo hi:Option Int) (n:Nat):Builtin.Slice.sliceAdjust lo hi 1 (n:Int)=(((sIx n 0 lo:Nat):Int),((sIx n n hi:Nat):Int)):=by
 have h1:¬ ((1:Int) < 0):=by lia
 unfold Builtin.Slice.sliceAdjust;simp only [h1,if_false];refine Prod.ext ?_ ?_
 ·cases lo with
  | none=>rfl
  | some v=>exact rL v n 0
 ·cases hi with
  | none=>rfl
  | some v=>exact rL v n n
theorem qA (i j:Nat):Builtin.Slice.slicePlaces (i:Int) (j:Int) 1=j - i:=by
 unfold Builtin.Slice.slicePlaces;have h1:(1:Int) > 0:=by lia
 simp only [h1,if_true,Int.ediv_one]
 split <;> lia
theorem kx {v:Value} {o:Option Int} {Q:Option Int→Shared→Prop} (p:IsPart v o) (h:Q o s):wpAny (model prog w) A (Builtin.Slice.slicePartIndex v) Q E s:=by
 cases p with
 | none=>exact slicePart_none h
 | int i t=>exact slicePart_int h
theorem eH {sl:Addr} {vl vu:Value} {lo hi:Option Int} {n:Nat} {Q:Int×Int×Nat→Shared→Prop} (hs:s.heap.IsSliceOf sl vl vu .none) (pl:IsPart vl lo) (pu:IsPart vu hi)
  (h:Q (((sIx n 0 lo:Nat):Int),1,sIx n n hi - sIx n 0 lo) s):wpAny (model prog w) A (Builtin.Slice.sliceApplied (.ref sl) (pure (n:Int))) Q E s:=by
 obtain ⟨os,hos,hcs,hds⟩:=id hs;unfold Builtin.Slice.sliceApplied Builtin.Slice.sliceFields;refine wpAny_bind (wpAny_bind (wpAny_field hos hds (x:=vl) rfl (wpAny_bind (wpAny_field hos hds (x:=vu) rfl (wpAny_bind (wpAny_field hos hds (x:=.none) rfl (wpAny_pure ?_)))))));refine wpAny_bind (slicePart_none ?_);show wpAny _ _ (if ((1:Int) == 0)=true then _ else _) _ _ s;rw [if_neg (by decide)];refine wpAny_bind (kx pl (wpAny_bind (kx pu (wpAny_bind (wpAny_pure ?_)))));show wpAny _ _ (match Builtin.Slice.sliceAdjust lo hi 1 (n:Int) with | (lo,hi)=>pure (lo,(1:Int),Builtin.Slice.slicePlaces lo hi 1)) _ _ s;rw [qz lo hi n];show wpAny _ _ (pure (((sIx n 0 lo:Nat):Int),(1:Int),Builtin.Slice.slicePlaces ((sIx n 0 lo:Nat):Int) ((sIx n n hi:Nat):Int) 1)) _ _ s;rw [qA];exact wpAny_pure h
theorem uN (xs:Array Value) (i k:Nat):((List.range k).filterMap fun (m:Nat)=>xs[((i:Int)+(m:Int)*1).toNat]?).toArray=((xs.toList.drop i).take k).toArray:=by
 have e:(fun (m:Nat)=>xs[((i:Int)+(m:Int)*1).toNat]?)=fun m=>xs[i+m]?:=by
  funext m
  have:((i:Int)+(m:Int)*1).toNat=i+m:=by lia
  rw [this]
 rw [e];have:=pick_run xs i k;rw [List.filterMap_map] at this;have e2:((fun x=>xs[x]?) ∘ fun x=>i+x)=fun m=>xs[i+m]?:=rfl;rw [e2] at this;rw [this]
theorem getItem_tuple_cut {t sl:Addr} {items:Array Value} {vl vu:Value} {lo hi:Option Int} {Q:Value→Shared→Prop} (ht:IsTup s.heap t items) (hs:s.heap.IsSliceOf sl vl vu .none) (pl:IsPart vl lo) (pu:IsPart vu hi)
  (hw:¬ (sIx items.size 0 lo=0∧sIx items.size items.size hi=items.size))
  (h:Q (.ref s.heap.objs.size) { s with heap:=s.heap.push { cls:=.type "tuple",data:=.seq ((items.toList.drop (sIx items.size 0 lo)).take (sIx items.size items.size hi - sIx items.size 0 lo)).toArray } })
  (hsz:items.size≤sizeLine):wpAny (model prog w) A (getItem (.ref t) (.ref sl)) Q E s:=by
 have htake:sizeOk (.seq ((items.toList.drop (sIx items.size 0 lo)).take (sIx items.size items.size hi - sIx items.size 0 lo)).toArray):=by
  show ((items.toList.drop (sIx items.size 0 lo)).take (sIx items.size items.size hi - sIx items.size 0 lo)).toArray.size≤sizeLine;rw [aAw,aAE,aAI,aAU];lia
 have hj:sIx items.size items.size hi≤items.size:=AH _ _ (aAp _) hi;obtain ⟨os,hos,hcs,hds⟩:=id hs;have hTs:s.TypeIs (.ref sl) "slice" :=⟨os,hos,hcs⟩;unfold getItem
 try with_reducible refine wpAny_holding ?_
 first | refine wpAny_bind (wpAny_pure ?_) | skip
 refine wpAny_bind (wpAny_sequenceKey ht.typeIs (by decide) ?_);refine wpAny_bind (wpAny_callSpecial?_slot (name:=Str.ofString "__getitem__") ht.typeIs PyProof.Rows.slot_tuple_getitem
  (wpAny_call_entry PyProof.Rows.slot_tuple_getitem ht.typeIs entry_tuple_getitem ?_ (args_tuple_getitem _ _)))
 show wpAny _ _ (Builtin.Tuple.tupleItemsOf (.ref t) >>= _) _ _ s;refine wpAny_bind (tupleItemsOf_ ht ?_);refine wpAny_bind (wpAny_typeOf hTs ?_);rw [if_pos (by decide)];refine wpAny_bind (eH hs pl pu ?_);have hno:¬ ((((sIx items.size 0 lo:Nat):Int) == 0 && (1:Int) == 1 && (sIx items.size items.size hi - sIx items.size 0 lo) == items.size)=true):=by
  intro q;rw [aAB,aAB] at q;have q1:((sIx items.size 0 lo:Nat):Int)=0:=eq_of_beq q.1.1;have q2:sIx items.size items.size hi - sIx items.size 0 lo=items.size:=eq_of_beq q.2;exact hw ⟨by lia,by lia⟩
 show wpAny _ _ (if (((sIx items.size 0 lo:Nat):Int) == 0 && (1:Int) == 1 && (sIx items.size items.size hi - sIx items.size 0 lo) == items.size)=true then _ else _) _ _ s;rw [if_neg hno,uN]
 first
  | exact wpAny_bind (m:=Builtin.Tuple.tupleExact _) (wpAny_newObj_type (wpAny_pure ⟨_,rfl,wpAny_pure h⟩) htake)
  | exact wpAny_bind (m:=Builtin.Tuple.tupleExact _) (wpAny_newObj_type (wpAny_bind (wpAny_pure (wpAny_pure ⟨_,rfl,wpAny_pure h⟩))) htake)
  | exact wpAny_bind (wpAny_bind (m:=Builtin.Tuple.tupleExact _) (wpAny_newObj_type (wpAny_pure (wpAny_pure ⟨_,rfl,wpAny_pure h⟩)) htake))
  | exact wpAny_bind (wpAny_bind (m:=Builtin.Tuple.tupleExact _) (wpAny_newObj_type (wpAny_pure ⟨_,rfl,wpAny_pure h⟩) htake))
end
end HT
namespace L2
open PySem PySem.Spec PyProof.Rows
abbrev TO:=St→Hp→(Option Int→Hp→Prop)→Prop
def PO (X:Cx) (e:Option Expr) (t:TO):Prop :=
 ∀ (pins:List (Addr×Obj)) (s:Shared) (σ:St) (H:Hp) (Q:Option Int→Hp→Prop),Inv X pins σ H s→t σ H Q →
  wpAny (model X.prog X.w) X.A (evalPart e X.env) (fun u s'=>∃ o H',Inv X pins σ H' s'∧IsPart u o∧Q o H') X.xe s
def wM:TO:=fun _ H Q=>Q none H
inductive IPrt (x:V) (H1:Hp) (Q:Option Int→Hp→Prop):Prop
 | mk (i:Int):(x=.int i)→(Q (some i) H1)→IPrt x H1 Q
def Gr (t:TE):TO:=fun σ H Q=>t σ H fun x H1=>IPrt x H1 Q
section
variable {X:Cx} {e:Expr} {te:TE} {lo hi:Option Expr} {tl th:TO} {pos p2:Pos}
theorem ce:PO X none wM:=by
 intro pins s σ H Q I h;rw [evalPart_none];exact wpAny_pure ⟨none,H,I,.none,h⟩
theorem po_some (h:PE X e te):PO X (some e) (Gr te):=by
 intro pins s σ H Q I hw;rw [evalPart_some];refine thn (h pins s σ H _ I hw) fun u s1 ⟨x,H1,I1,r1,q1⟩=>?_;obtain ⟨i,rfl,q⟩:=q1;obtain ⟨t,rfl⟩:=r1;exact ⟨some i,H1,I1,.int i t,q⟩
def SlR (X:Cx) (r:V→Option Int→Option Int→Hp→VK→Prop):Prop :=
 ∀ (pins:List (Addr×Obj)) (s:Shared) (σ:St) (H:Hp) (x:V) (v vl vu:Value) (lo hi:Option Int) (sl:Addr) (Q:VK),Inv X pins σ H s→RelV x v→s.heap.IsSliceOf sl vl vu .none→IsPart vl lo→IsPart vu hi→r x lo hi H Q →
  ∃ T id,typeLookup (.type T) "__getitem__" = pure (some (.builtin id))∧s.TypeIs v T∧wpAny (model X.prog X.w) X.A (getItem v (.ref sl)) (EP X pins σ Q) X.xe s
def tSl (r:V→Option Int→Option Int→Hp→VK→Prop) (te:TE) (tl th:TO):TE:=fun σ H Q=>te σ H fun x H1=>tl σ H1 fun l H2=>th σ H2 fun u H3=>r x l u H3 Q
theorem pe_slice {r:V→Option Int→Option Int→Hp→VK→Prop} (hr:SlR X r) (he:PE X e te) (hl:PO X lo tl) (hu:PO X hi th):PE X (.Subscript e (.Slice lo hi none p2) pos) (tSl r te tl th):=by
 intro pins s σ H Q I h;refine Subscript_ (thn (he pins s σ H _ I h) fun v s1 ⟨x,H1,I1,r1,q1⟩=>?_);refine wpAny_Slice (thn (hl pins s1 σ H1 _ I1 q1) fun vl s2 ⟨l,H2,I2,pl,q2⟩=>thn (hu pins s2 σ H2 _ I2 q2) fun vu s3 ⟨u,H3,I3,pu,q3⟩=>?_);rw [evalPart_none];refine wpAny_pure ?_;have I4:Inv X pins σ H3 { s3 with heap:=s3.heap.push { cls:=.type "slice",data:=.fields #[vl,vu,.none] } }:=I3.kept (t':=s3.toks) fun b ob q=>aAe _ q;obtain ⟨T,id,hT,ht,hg⟩:=hr pins { s3 with heap:=s3.heap.push { cls:=.type "slice",data:=.fields #[vl,vu,.none] } } σ H3 x v vl vu l u s3.heap.objs.size Q I4 r1 (Heap.IsSliceOf.new ..) pl pu q3;show wpAny (model X.prog X.w) X.A (subscriptTail e (.Slice lo hi none p2) v (.ref s3.heap.objs.size)) (EP X pins σ Q) X.xe { s3 with heap:=s3.heap.push { cls:=.type "slice",data:=.fields #[vl,vu,.none] } };exact tail_any (ops:=[.ref s3.heap.objs.size,v]) ht hT hg (by with_unfolding_all rfl)
def kA (xs:List V) (lo hi:Option Int):List V:=(xs.drop (HT.sIx xs.length 0 lo)).take (HT.sIx xs.length xs.length hi - HT.sIx xs.length 0 lo)
theorem jJ (xs:List V) (lo hi:Option Int):(kA xs lo hi).length≤xs.length:=by
 unfold kA;rw [aAE,aAI];lia
theorem Vals.nil_iff {xs:List V} {us:List Value} (r:Vals xs us):us=[]↔xs=[]:=by
 cases r with
 | nil=>simp
 | cons _ _=>simp
end
def ixN (n:Nat) (i:Int):Option Nat:=if 0≤i then (if i < n then some i.toNat else none) else if -(n:Int)≤i then some (i+n).toNat else none
def atI {α:Type} (xs:List α) (i:Int):Option α:=(ixN xs.length i).bind fun j=>xs[j]?
theorem kb {n:Nat} {i:Int} {j:Nat} (h:ixN n i=some j):seqIndex? i n=some j∧j < n∧-(n:Int)≤i∧i < n:=by
 unfold ixN at h
 by_cases h0:0≤i
 ·rw [if_pos h0] at h
  by_cases h1:i < n
  ·rw [if_pos h1] at h;have e:i.toNat=j:=Option.some.inj h;exact ⟨by rw [seqIndex_of h0 h1,e],by lia,by lia,h1⟩
  ·rw [if_neg h1] at h;cases h
 ·rw [if_neg h0] at h
  by_cases h1:-(n:Int)≤i
  ·rw [if_pos h1] at h;have e:(i+n).toNat=j:=Option.some.inj h;exact ⟨by rw [seqIndex_neg (by lia) h1,e],by lia,h1,by lia⟩
  ·rw [if_neg h1] at h;cases h
theorem iu {α:Type} {xs:List α} {i:Int} {v:α} (h:atI xs i=some v):∃ j,seqIndex? i xs.length=some j∧xs[j]?=some v∧j < xs.length∧-(xs.length:Int)≤i∧i < xs.length:=by
 unfold atI at h
 cases e:ixN xs.length i with
 | none=>rw [e] at h;cases h
 | some j =>
  rw [e] at h;obtain ⟨h1,h2,h3,h4⟩:=kb e;exact ⟨j,h1,h,h2,h3,h4⟩
theorem eY {α:Type} {xs:List α} {j:Nat} {v:α} (h:xs[j]?=some v):atI xs (j:Int)=some v:=by
 have hj:j < xs.length:=(aAk.mp h).1;have e:ixN xs.length (j:Int)=some j:=by
  unfold ixN;rw [if_pos (by lia),if_pos (by lia)];simp
 unfold atI;rw [e];exact h
def wN (b:Expr):Prop:=∀ o i,subscripted b false o i=operate [o,i] (getItem o i)
def IxR (X:Cx) (r:R2):Prop :=
 ∀ (value slice:Expr) (pins:List (Addr×Obj)) (s:Shared) (σ:St) (H:Hp) (x y:V) (v u:Value) (Q:VK),Inv X pins σ H s→RelV x v→RelV y u→r x y H Q →
  subscripted slice false v u=operate [v,u] (getItem v u)→wpAny (model X.prog X.w) X.A (subscriptTail value slice v u) (EP X pins σ Q) X.xe s
def MtR (X:Cx) (id:String) (r:V→List V→Hp→VK→Prop):Prop :=
 ∀ (pins:List (Addr×Obj)) (s:Shared) (σ:St) (H:Hp) (x:V) (xs:List V) (v:Value) (us:List Value) (Q:VK),Inv X pins σ H s→RelV x v→Vals xs us→r x xs H Q →
  wpAny (model X.prog X.w) X.A (call (.builtin id) (v :: us)) (EP X pins σ Q) X.xe s
section
variable {X:Cx} {a b:Expr} {ta tb:TE} {pos:Pos}
theorem pe_ix {r:R2} (hr:IxR X r) (ha:PE X a ta) (hb:PE X b tb) (hs:wN b):PE X (.Subscript a b pos) (tOp r ta tb):=by
 intro pins s σ H Q I h;exact Subscript_ (AE ha hb I h fun v u s2 x y H2 I2 rx ry q=>hr a b pins s2 σ H2 x y v u Q I2 rx ry q (hs _ _))
inductive IIxL (K:W.Frag) (x y:V) (H:Hp) (Q:VK):Prop
 | mk (p:Addr) (xs:List V) (i:Int) (v:V):(x=.ref p)→(y=.int i)→(SqL K H p xs)→(atI xs i=some v)→(Q v H)→IIxL K x y H Q
def AI (K:W.Frag):R2:=fun x y H Q=>IIxL K x y H Q
def Hv (K:W.Frag):R2:=fun x y H Q=>∃ p xs i v,x=.ref p∧y=.int i∧SqT K H p xs∧atI xs i=some v∧Q v H
def Hw:R2:=fun x y H Q=>∃ z i c,x=.str z∧y=.int i∧z.length≤sizeLine∧atI z.cps.toList i=some c∧Q (.str ⟨#[c]⟩) H
theorem wO:IxR X (AI X.K):=by
 intro value slice pins s σ H x y v u Q I rx ry h hs;obtain ⟨p,xs,i,z,rfl,rfl,hq,he,q⟩:=h
 cases rx
 obtain ⟨t,rfl⟩:=ry;obtain ⟨its,r,pl,hz⟩:=I.list hq;obtain ⟨j,h1,h2,h3,h4,h5⟩:=iu he;obtain ⟨w,ew,rw'⟩:=r.get h2;have hl:=r.length;have hn:=jb;have fin:EP X pins σ Q w s:=⟨z,H,I,rw',q⟩
 by_cases h0:0≤i
 ·have hj:i.toNat=j:=by
   rw [seqIndex_of h0 h5] at h1;exact Option.some.inj h1
  exact item_listR pl.isList h0 (by lia) (by rw [hj];simpa using ew) fin hs
 ·have hj:(i+(its.toArray.size:Int)).toNat=j:=by
   rw [seqIndex_neg (by lia) h4] at h1;rw [aAw,← hl];exact Option.some.inj h1
  exact subscriptTail_builtinR (x:=w) pl.isList.typeIs slot_list_getitem.lookup
   (wpAny_getItem_list_neg (Q:=fun r s'=>r=w∧EP X pins σ Q r s') pl.isList (by lia) (by rw [aAw] <;> lia) (by lia) (by rw [hj];simpa using ew) ⟨rfl,fin⟩) hs
theorem uO:IxR X (Hv X.K):=by
 intro value slice pins s σ H x y v u Q I rx ry h hs;obtain ⟨p,xs,i,z,rfl,rfl,hq,he,q⟩:=h
 cases rx
 obtain ⟨t,rfl⟩:=ry;obtain ⟨its,r,pl,hz⟩:=I.tuple hq;obtain ⟨j,h1,h2,h3,h4,h5⟩:=iu he;obtain ⟨w,ew,rw'⟩:=r.get h2;have hl:=r.length;have hn:=jb;have fin:EP X pins σ Q w s:=⟨z,H,I,rw',q⟩;exact subscriptTail_builtinR (x:=w) pl.typeIs slot_tuple_getitem.lookup
  (getItem_tuple (j:=j) (Q:=fun r s'=>r=w∧EP X pins σ Q r s') pl (by lia) (by lia) (by rw [aAw,← hl];exact h1) (by simpa using ew) ⟨rfl,fin⟩) hs
theorem ix_str:IxR X Hw:=by
 intro value slice pins s σ H x y v u Q I rx ry h hs;obtain ⟨z,i,c,rfl,rfl,hz,he,q⟩:=h;obtain ⟨t,rfl⟩:=rx;obtain ⟨t',rfl⟩:=ry;obtain ⟨j,h1,h2,h3,h4,h5⟩:=iu he;have hl:z.cps.toList.length=z.length:=by simp [Str.length]
 rw [hl] at h1 h4 h5;have hn:=jb;exact tail_any (typeIs_str s z t) slot_str_getitem.lookup (getItem_str (c:=c) (by
  have e1:decide (i < -(2 ^ 63:Int))=false:=decide_eq_false (by lia);have e2:decide (i≥2 ^ 63)=false:=decide_eq_false (by lia);rw [e1,e2,aB1]) (by rw [h1];simpa using h2) ⟨.str ⟨#[c]⟩,H,I.tok _,⟨_,rfl⟩,q⟩) hs
theorem qB (its:List Value) (n j:Nat) (u:Value):Obj.mapSeq (·.setIfInBounds j u) { cls:=.type "list",data:=.seq its.toArray n }={ cls:=.type "list",data:=.seq (its.set j u).toArray n }:=by
 simp [Obj.mapSeq]
theorem Inv.lst {pins:List (Addr×Obj)} {σ:St} {H:Hp} {s:Shared} {p:Addr} {xs:List V} (I:Inv X pins σ H s) (h:H p=some (.lst xs)) :
  ∃ (its:List Value) (n:Nat),Vals xs its∧s.heap.get? p=some { cls:=.type "list",data:=.seq its.toArray n }∧xs.length≤sizeLine:=by
 obtain ⟨z,its,n,r,e⟩:=I.hok p _ h;exact ⟨its,n,r,e,z⟩
theorem Inv.lstUpd {pins:List (Addr×Obj)} {σ:St} {H:Hp} {s:Shared} {p:Addr} {xs ys:List V} {its its':List Value} {n n':Nat} {f:Obj→Obj} (I:Inv X pins σ H s) (h:H p=some (.lst xs))
  (ho:s.heap.get? p=some { cls:=.type "list",data:=.seq its.toArray n }) (hf:f { cls:=.type "list",data:=.seq its.toArray n }={ cls:=.type "list",data:=.seq its'.toArray n' }) (r:Vals ys its') (hz:ys.length≤sizeLine) (t:Nat) :
  Inv X pins σ (upd H p (.lst ys)) { s with heap:=s.heap.update p f,toks:=t }:=by
 have e:(s.heap.update p f).get? p=some { cls:=.type "list",data:=.seq its'.toArray n' }:=by
  rw [aBu f ho (by rw [hf] <;> rfl),hf]
 refine I.write (x:=p) (e:=p) (by rw [h];trivial) (.inl rfl) (fun b u hb q=>(aBr _ _ (Ne.symm hb)).trans q) ⟨_,e⟩ ?_;exact ⟨hz,its',n',r,e⟩
inductive ISetL (o i v:V) (H:Hp) (Q:Hp→Prop):Prop
 | mk (p:Addr) (xs:List V) (k:Int) (j:Nat):(o=.ref p)→(i=.int k)→(H p=some (.lst xs))→(ixN xs.length k=some j)→(Q (upd H p (.lst (xs.set j v))))→ISetL o i v H Q
def Gs:V→V→V→Hp→(Hp→Prop)→Prop:=fun o i v H Q=>ISetL o i v H Q
theorem kB:Gd X Gs:=by
 intro pins s σ H o i v ov iv u Q I ro ri rv h;obtain ⟨p,xs,k,j,rfl,rfl,hp,hj,q⟩:=h
 cases ro
 obtain ⟨t,rfl⟩:=ri;obtain ⟨its,n,r,ho,hz⟩:=I.lst hp;obtain ⟨h1,h2,h3,h4⟩:=kb hj;have hl:=r.length;have hn:=jb;have I':Inv X pins σ (upd H p (.lst (xs.set j v))) { s with heap:=s.heap.update p (Obj.mapSeq (·.setIfInBounds j u)) } :=
  I.lstUpd hp ho (qB its n j u) (r.set rv j) (by rw [List.length_set];exact hz) s.toks
 by_cases h0:0≤k
 ·have hk:k.toNat=j:=by
   rw [seqIndex_of h0 h4] at h1;exact Option.some.inj h1
  exact W.ki_setAt ho h0 (by lia) (by rw [aAw,← hl];exact h4) (by rw [hk];exact ⟨_,I',q⟩)
 ·have hk:(k+(its.toArray.size:Int)).toNat=j:=by
   rw [seqIndex_neg (by lia) h3] at h1;rw [aAw,← hl];exact Option.some.inj h1
  exact W.ki_setBack ho (by lia) (by rw [aAw,← hl];exact h3) (by lia) (by rw [hk];exact ⟨_,I',q⟩)
theorem m8 (lo hi:Option Int) (n:Nat):(sliceBounds lo hi none n).1=((HT.sIx n 0 lo:Nat):Int)∧(sliceBounds lo hi none n).2.1=((HT.sIx n n hi:Nat):Int)∧(sliceBounds lo hi none n).2.2=1:=by
 refine ⟨?_,?_,rfl⟩
 ·cases lo with
  | none=>simp [sliceBounds,HT.sIx]
  | some i =>
   simp only [sliceBounds,HT.sIx,Option.getD_none,show (1:Int) > 0 by decide,if_true]
   by_cases h:i < 0
   ·simp only [h,if_true] <;> lia
   ·simp only [h,if_false] <;> lia
 ·cases hi with
  | none=>simp [sliceBounds,HT.sIx]
  | some i =>
   simp only [sliceBounds,HT.sIx,Option.getD_none,show (1:Int) > 0 by decide,if_true]
   by_cases h:i < 0
   ·simp only [h,if_true] <;> lia
   ·simp only [h,if_false] <;> lia
theorem lW (its:List Value) (lo hi:Option Int):slicePick its.toArray lo hi none=((its.drop (HT.sIx its.length 0 lo)).take (HT.sIx its.length its.length hi - HT.sIx its.length 0 lo)).toArray:=by
 obtain ⟨h1,h2,h3⟩:=m8 lo hi its.toArray.size;unfold slicePick;rw [h1,h2,h3];simp only [sliceRange_one,pick_run,aAw] <;> rfl
def Gu (K:W.Frag):V→Option Int→Option Int→Hp→VK→Prop:=fun x lo hi H Q=>∃ a xs,x=.ref a∧SqL K H a xs∧∀ p,H p=none→Q (.ref p) (upd H p (.lst (kA xs lo hi)))
theorem wP:SlR X (Gu X.K):=by
 intro pins s σ H x v vl vu lo hi sl Q I rx hs pl pu h;obtain ⟨a,xs,rfl,hx,q⟩:=h
 cases rx
 obtain ⟨its,r,ht,hz⟩:=I.list hx;have hlen:=r.length;refine ⟨"list",_,slot_list_getitem.lookup,ht.isList.typeIs,?_⟩;refine wpAny_getItem_list_slice ht.isList hs pl pu .none (by simp) ?_ (by rw [aAw] <;> lia);rw [lW,← hlen];refine ⟨.ref s.heap.objs.size,_,I.laid (t':=s.toks) (o:=.lst (kA xs lo hi)) (fun b ob q=>aAe _ q) (aAp _) ?_,rfl,q _ (I.hok.fresh (aAp _))⟩;exact ⟨aAA (jJ xs lo hi) hz,_,0,(r.drop (HT.sIx xs.length 0 lo)).take (HT.sIx xs.length xs.length hi - HT.sIx xs.length 0 lo),aAz _ rfl⟩
def jK:V→Bool
 | .non=>true
 | .bl _=>true
 | .int _=>true
 | .str _=>true
 | _=>false
def eqV:V→V→Bool
 | .non,.non=>true
 | .bl a,.bl b=>a == b
 | .bl a,.int b=>(if a then 1 else 0) == b
 | .int a,.bl b=>a == (if b then 1 else 0)
 | .int a,.int b=>a == b
 | .str a,.str b=>a == b
 | _,_=>false
theorem AJ {A:Around} {s:Shared} {y x:V} {u v:Value} (ry:RelV y u) (rx:RelV x v) (fy:jK y=true) (fx:jK x=true):SeqAt.EqAt A s u v (eqV y x):=by
 cases y with
 | non =>
  cases ry
  cases x with
  | non=>cases rx;exact SeqAt.EqAt.same _
  | bl b=>cases rx;exact SeqAt.EqAt.none_bool b
  | int b=>obtain ⟨t,rfl⟩:=rx;exact SeqAt.EqAt.none_int b t
  | str b=>obtain ⟨t,rfl⟩:=rx;exact SeqAt.EqAt.none_str b t
  | _=>exact absurd (show false=true from fx) aAx
 | bl a =>
  cases ry
  cases x with
  | non=>cases rx;exact SeqAt.EqAt.bool_none a
  | bl b=>cases rx;exact SeqAt.EqAt.bool_bool a b
  | int b=>obtain ⟨t,rfl⟩:=rx;exact SeqAt.EqAt.bool_int a b t
  | str b=>obtain ⟨t,rfl⟩:=rx;exact SeqAt.EqAt.bool_str a b t
  | _=>exact absurd (show false=true from fx) aAx
 | int a =>
  obtain ⟨t',rfl⟩:=ry
  cases x with
  | non=>cases rx;exact SeqAt.EqAt.int_none a t'
  | bl b=>cases rx;exact SeqAt.EqAt.int_bool a t' b
  | int b=>obtain ⟨t,rfl⟩:=rx;exact SeqAt.EqAt.int_int a t' b t
  | str b=>obtain ⟨t,rfl⟩:=rx;exact SeqAt.EqAt.int_str a t' b t
  | _=>exact absurd (show false=true from fx) aAx
 | str a =>
  obtain ⟨t',rfl⟩:=ry
  cases x with
  | non=>cases rx;exact SeqAt.EqAt.str_none a t'
  | bl b=>cases rx;exact SeqAt.EqAt.str_bool a t' b
  | int b=>obtain ⟨t,rfl⟩:=rx;exact SeqAt.EqAt.str_int a t' b t
  | str b=>obtain ⟨t,rfl⟩:=rx;exact SeqAt.EqAt.str_str a t' b t
  | _=>exact absurd (show false=true from fx) aAx
 | _=>exact absurd (show false=true from fy) aAx
def eqU (x:V) (u:Value):Bool:=match u with
 | .none=>eqV .non x
 | .bool b=>eqV (.bl b) x
 | .int i _=>eqV (.int i) x
 | .str z _=>eqV (.str z) x
 | _=>false
theorem uP {x y:V} {u:Value} (r:RelV y u) (f:jK y=true):eqU x u=eqV y x:=by
 cases y with
 | non=>cases r;rfl
 | bl b=>cases r;rfl
 | int i=>obtain ⟨t,rfl⟩:=r;rfl
 | str z=>obtain ⟨t,rfl⟩:=r;rfl
 | _=>exact absurd (show false=true from f) aAx
theorem m9 {x:V}:∀ {xs:List V} {us:List Value},Vals xs us→xs.all jK=true→us.any (eqU x)=xs.any fun y=>eqV y x
 | _,_,.nil,_=>rfl
 | y :: xs,u :: us,.cons r t,f=>by
  rw [aA7,aAB] at f;rw [aBm,aBm,uP r f.1,m9 t f.2]
theorem kC {A:Around} {s:Shared} {x:V} {v:Value} (rx:RelV x v) (fx:jK x=true):∀ {xs:List V} {us:List Value},Vals xs us→xs.all jK=true→∀ u∈us,SeqAt.EqAt A s u v (eqU x u)
 | _,_,.nil,_=>fun u hu=>by cases hu
 | y :: xs,u :: us,.cons r t,f=>fun u' hu=>by
  rw [aA7,aAB] at f;rcases aAm.mp hu with rfl | hu
  ·rw [uP r f.1];exact AJ r rx f.1 fx
  ·exact kC rx fx t f.2 u' hu
def inV (x:V) (xs:List V):Bool:=xs.any fun y=>eqV y x
def rIn (K:W.Frag) (neg:Bool):R2:=fun x y H Q=>∃ p xs,y=.ref p∧(SqL K H p xs∨SqT K H p xs)∧jK x=true∧xs.all jK=true∧Q (.bl (if neg then !inV x xs else inV x xs)) H
theorem tq:OpR X (compareOp .In) (rIn X.K false):=by
 intro pins s σ H x y v u Q I rx ry h;obtain ⟨p,xs,rfl,hq,fx,fs,q⟩:=h
 cases ry
 rcases hq with hq | hq
 ·obtain ⟨its,r,pl,hz⟩:=I.list hq;refine SeqAt.in_listAt (eqU x) pl.isList (fun w hw=>kC rx fx r fs w (by simpa using hw)) ⟨.bl _,H,I,rfl,?_⟩;rw [show its.toArray.any (eqU x)=its.any (eqU x) by simp,m9 r fs];exact q
 ·obtain ⟨its,r,pl,hz⟩:=I.tuple hq;refine SeqAt.in_tupleAt (eqU x) pl (fun w hw=>kC rx fx r fs w (by simpa using hw)) ⟨.bl _,H,I,rfl,?_⟩;rw [show its.toArray.any (eqU x)=its.any (eqU x) by simp,m9 r fs];exact q
theorem iw:bB X (.builtin "len") (fun xs H Q=>∃ p ys,xs=[.ref p]∧(SqL X.K H p ys∨SqT X.K H p ys)∧Q (.int ys.length) H):=by
 intro pins s σ H xs us Q I r h;obtain ⟨p,ys,rfl,hq,q⟩:=h;obtain ⟨u,rfl,rx⟩:=dE r
 cases rx
 have hn:=jb;rcases hq with hq | hq
 ·obtain ⟨its,r',pl,hz⟩:=I.list hq;have hlen:=r'.length;exact Calls.call_len_list pl.isList (by simp only [aAw] <;> lia) ⟨.int ys.length,H,I.tok _,⟨s.toks+1,by rw [aAw,hlen]⟩,q⟩
 ·obtain ⟨its,r',pl,hz⟩:=I.tuple hq;have hlen:=r'.length;exact len_tuple pl (by simp only [aAw] <;> lia) ⟨.int ys.length,H,I.tok _,⟨s.toks+1,by rw [aAw,hlen]⟩,q⟩
theorem cu:bB X (.builtin "len") (fun xs H Q=>∃ z,xs=[.str z]∧z.length≤sizeLine∧Q (.int z.length) H):=by
 intro pins s σ H xs us Q I r h;obtain ⟨z,rfl,hz,q⟩:=h;obtain ⟨u,rfl,t,rfl⟩:=dE r;have hn:=jb;exact len_str (by lia) ⟨.int z.length,H,I.tok _,⟨_,rfl⟩,q⟩
theorem nc:bB X (.type "list") (fun xs H Q=>∃ p ys,xs=[.ref p]∧(SqL X.K H p ys∨SqT X.K H p ys)∧∀ l,H l=none→Q (.ref l) (upd H l (.lst ys))):=by
 intro pins s σ H xs us Q I r h;obtain ⟨p,ys,rfl,hq,q⟩:=h;obtain ⟨u,rfl,rx⟩:=dE r
 cases rx
 have fin:∀ (its:List Value),Vals ys its→ys.length≤sizeLine→∀ (h':Heap) (c':Nat),(∀ b o',s.heap.get? b=some o'→h'.get? b=some o') →
   h'.get? s.heap.objs.size=some { cls:=.type "list",dict:=none,data:=.seq its.toArray c',slots:=#[] }→EP X pins σ Q (.ref s.heap.objs.size) { s with heap:=h' }:=fun its r' hz h' c' kp e =>
  ⟨.ref s.heap.objs.size,_,I.laid (t':=s.toks) kp (aAp _) (show ObjOk X.prog X.w _ h' _ (.lst ys) from ⟨hz,its,c',r',e⟩),rfl,q _ (I.hok.fresh (aAp _))⟩
 rcases hq with hq | hq
 ·obtain ⟨its,r',pl,hz⟩:=I.list hq;have hlen:=r'.length;obtain ⟨o,ho,hc,n,hd⟩:=pl.isList;exact call_list_seq p (.inl rfl) ho hc hd (fun h' c' kp e=>fin its r' hz h' c' kp e) (by simp only [aAw] <;> lia)
 ·obtain ⟨its,r',pl,hz⟩:=I.tuple hq;have hlen:=r'.length;obtain ⟨o,ho,hc,n,hd⟩:=pl;exact call_list_seq p (.inr rfl) ho hc hd (fun h' c' kp e=>fin its r' hz h' c' kp e) (by simp only [aAw] <;> lia)
def tyV (K:W.Frag) (T:String) (x:V) (H:Hp):Prop:=match x with
 | .str _=>T= "str"
 | .int _=>T= "int"
 | .ref p=>(T= "list" ∧∃ xs,SqL K H p xs)∨(T= "tuple" ∧∃ o,K.lookup p=some o∧o.cls=.type "tuple" ∧o.dict=none) ∨
   (T= "dict" ∧((∃ kvs,H p=some (.dK kvs))∨∃ kvs,H p=some (.dT kvs)))∨(T= "set" ∧∃ S n,H p=some (.set S n))
 | _=>False
theorem uQ {pins:List (Addr×Obj)} {σ:St} {H:Hp} {s:Shared} {T:String} {x:V} {v:Value} (I:Inv X pins σ H s) (r:RelV x v) (ty:tyV X.K T x H) :
  s.TypeIs v T∧∀ a,v=.ref a→∃ ob,s.heap.get? a=some ob∧ob.dict=none:=by
 cases x with
 | str z =>
  obtain ⟨t,rfl⟩:=r
  cases (show T= "str" from ty)
  exact ⟨typeIs_str s z t,fun _ e=>nomatch e⟩
 | int i =>
  obtain ⟨t,rfl⟩:=r
  cases (show T= "int" from ty)
  exact ⟨typeIs_int s i t,fun _ e=>nomatch e⟩
 | ref p =>
  cases r
  rcases ty with ⟨rfl,xs,hq⟩ | ⟨rfl,o,hk,hc,hd⟩ | ⟨rfl,hk⟩ | ⟨rfl,S,n,hk⟩
  ·obtain ⟨its,_,pl,_⟩:=I.list hq;refine ⟨pl.isList.typeIs,fun a e=>?_⟩
   cases e
   obtain ⟨o,n,e,c,hd,_⟩:=pl;exact ⟨o,e,hd⟩
  ·refine ⟨⟨o,I.kIn p o hk,hc⟩,fun a e=>?_⟩
   cases e
   exact ⟨o,I.kIn _ o hk,hd⟩
  ·have z:∃ o,s.heap.get? p=some o∧o.ExactDict:=by
    rcases hk with ⟨kvs,hk⟩ | ⟨kvs,hk⟩
    ·obtain ⟨_,_,_,_,o,_,_,e,ex,_⟩:=I.hok p _ hk;exact ⟨o,e,ex⟩
    ·obtain ⟨_,_,_,_,o,_,_,e,ex,_⟩:=I.hok p _ hk;exact ⟨o,e,ex⟩
   obtain ⟨o,e,ex⟩:=z;refine ⟨⟨o,e,ex.1⟩,fun a e2=>?_⟩
   cases e2
   exact ⟨o,e,ex.2.1⟩
  ·obtain ⟨o,_,_,_,e,ex,_⟩:=I.hok p _ hk;refine ⟨⟨o,e,ex.1⟩,fun a e2=>?_⟩
   cases e2
   exact ⟨o,e,ex.2.1⟩
 | _=>exact False.elim ty
def Hy (K:W.Frag) (T:String) (r:V→List V→Hp→VK→Prop) (to:TE):TE:=fun σ H Q=>to σ H fun x H1=>tyV K T x H1∧r x [] H1 Q
def tBM (K:W.Frag) (T:String) (r:V→List V→Hp→VK→Prop) (to:TE) (t:TA):TE:=fun σ H Q=>to σ H fun x H1=>tyV K T x H1∧t σ H1 fun xs H2=>r x xs H2 Q
variable {o e:Expr} {es:List Expr} {to:TE} {t:TA} {name:Str} {apos cpos:Pos} {T id:String} {r:V→List V→Hp→VK→Prop}
theorem AK (pa:PlainAttrs T) (slot:Slot T name id) (hty:typeOf (.builtin id)=pure (.type "method_descriptor")) (hm:MtR X id r) (ho:PE X o to)
  (hbase:attributeBase o name X.env (eval o X.env)=eval o X.env:=by rfl) (hline:(apos.endLine == cpos.line)=true:=by rfl):PE X (.Call (.Attribute o name apos) [] [] cpos) (Hy X.K T r to):=by
 intro pins s σ H Q I h;refine wpAny_Call_method0_late hbase hline (thn (ho pins s σ H _ I h) fun v s1 ⟨x,H1,I1,r1,ty,q1⟩=>?_);obtain ⟨h1,h2⟩:=uQ I1 r1 ty;exact ⟨T,id,pa,slot,hty,h1,h2,Calls.callWith_builtin rfl (PySem.evalArgs_none (hm pins s1 σ H1 x [] v [] Q I1 r1 .nil q1))⟩
theorem pe_bm (pa:PlainAttrs T) (slot:Slot T name id) (hty:typeOf (.builtin id)=pure (.type "method_descriptor")) (hm:MtR X id r) (ho:PE X o to) (ha:PA X (e :: es) t)
  (hbase:attributeBase o name X.env (eval o X.env)=eval o X.env:=by rfl)
  (hfew:((backTo cpos (starEach (e :: es) X.env)).all (fun x=>!x.1) && (backToKw cpos (keywordEach [] X.env)).all (fun x=>x.1.isSome)
   && decide ((e :: es).length+([]:List Keyword).length+(if ([]:List Keyword).isEmpty then 0 else 1) < 30))=true:=by rfl)
  (hline:(apos.endLine == cpos.line)=true:=by rfl) (hs:starEach (e :: es) X.env=(false,eval e X.env) :: starEach es X.env:=by rfl) (hplain:(backTo cpos (starEach es X.env)).any (·.1)=false:=by rfl) :
  PE X (.Call (.Attribute o name apos) (e :: es) [] cpos) (tBM X.K T r to t):=by
 intro pins s σ H Q I h;refine wpAny_Call_method_late hbase hfew hline rfl (thn (ho pins s σ H _ I h) fun v s1 ⟨x,H1,I1,r1,ty,q1⟩=>?_);obtain ⟨h1,h2⟩:=uQ I1 r1 ty;refine ⟨T,id,pa,slot,hty,h1,h2,?_⟩;have hA:=ha cpos pins s1 σ H1 _ I1 q1;rw [hs] at hA ⊢;refine Calls.callWith_builtin (by show (false || (backTo cpos (starEach es X.env)).any (·.1))=false;rw [hplain] <;> rfl) (Calls.evalArgs_plain ?_);exact thn hA fun us s2 ⟨vs,H2,I2,r2,q2⟩=>hm pins s2 σ H2 x vs v us Q I2 r1 r2 q2
end
def MtM (X:Cx) (id:String) (r:V→List V→Hp→VK→Prop):Prop :=
 ∀ (pins:List (Addr×Obj)) (s:Shared) (σ:St) (H:Hp) (x:V) (xs:List V) (v:Value) (us:List Value) (Q:VK),Inv X pins σ H s→RelV x v→Vals xs us→r x xs H Q →
  wpAny (model X.prog X.w) X.A (call (.builtin id) (v :: us)) (EP X pins σ Q) X.xe s
theorem Vals.one:∀ {x:V} {us:List Value},Vals [x] us→∃ u,us=[u]∧RelV x u:=by
 intro x us h
 cases h with
 | cons r t =>
  cases t
  exact ⟨_,rfl,r⟩
theorem Vals.two:∀ {x y:V} {us:List Value},Vals [x,y] us→∃ u v,us=[u,v]∧RelV x u∧RelV y v:=by
 intro x y us h
 cases h with
 | cons r t =>
  cases t with
  | cons q t =>
   cases t
   exact ⟨_,_,rfl,r,q⟩
theorem Vals.zero:∀ {us:List Value},Vals [] us→us=[]
 | _,.nil=>rfl
theorem Vals.reverse {xs:List V} {us:List Value} (h:Vals xs us):Vals xs.reverse us.reverse:=by
 induction h with
 | nil=>exact .nil
 | cons r t ih=>rw [List.reverse_cons,List.reverse_cons];exact Vals.append ih (.cons r .nil)
section
variable {X:Cx} {pins:List (Addr×Obj)} {σ:St} {H:Hp} {s:Shared} {l b:Addr} {xs ys zs:List V}
theorem Inv.lset {its its':List Value} {n:Nat} {f:Array Value→Array Value} {t':Nat} (I:Inv X pins σ H s) (hH:H l=some (.lst xs))
  (e:s.heap.get? l=some { cls:=.type "list",data:=.seq its.toArray n }) (hf:f its.toArray=its'.toArray) (hv:Vals ys its') (hz:ys.length≤sizeLine) :
  Inv X pins σ (upd H l (.lst ys)) { s with heap:=s.heap.update l (Obj.mapSeq f),toks:=t' }:=by
 have q:=PySem.IsL.update e f;rw [hf] at q;refine I.write (x:=l) (e:=l) (by rw [hH];exact trivial) (.inl rfl) (fun b' u hb hu=>(aBr s.heap (Obj.mapSeq f) (Ne.symm hb)).trans hu) ⟨_,q⟩ ?_;exact ⟨hz,its',_,hv,q⟩
theorem Inv.lnew {its:List Value} {t':Nat} (I:Inv X pins σ H s) (hv:Vals ys its) (hz:ys.length≤sizeLine) :
  Inv X pins σ (upd H s.heap.objs.size (.lst ys)) { s with heap:=s.heap.push { cls:=.type "list",data:=.seq its.toArray },toks:=t' } :=
 I.laid (fun _ _ q=>aAe _ q) (aAp _) ⟨hz,its,0,hv,aAz _ rfl⟩
theorem Inv.fresh (I:Inv X pins σ H s):H s.heap.objs.size=none:=I.hok.fresh (aAp _)
theorem Inv.lstM (I:Inv X pins σ H s) (hH:H l=some (.lst xs)):xs.length≤sizeLine∧∃ (its:List Value) (n:Nat),Vals xs its∧xs.length=its.length∧s.heap.get? l=some { cls:=.type "list",data:=.seq its.toArray n }:=by
 obtain ⟨z,its,n,r,e⟩:=I.hok l _ hH;exact ⟨z,its,n,r,r.length,e⟩
end
section
variable {X:Cx}
inductive IApp (x:V) (vs:List V) (H:Hp) (Q:VK):Prop
 | mk (l:Addr) (xs:List V) (y:V):(x=.ref l)→(vs=[y])→(H l=some (.lst xs))→(xs.length < sizeLine)→(Q .non (upd H l (.lst (xs++[y]))))→IApp x vs H Q
def rM:V→List V→Hp→VK→Prop:=fun x vs H Q=>IApp x vs H Q
theorem bP:MtM X "list.append" rM:=by
 intro pins s σ H x vs v us Q I rx rv h;obtain ⟨l,xs,y,rfl,rfl,hH,hz,q⟩:=h
 cases rx
 obtain ⟨u,rfl,ru⟩:=rv.one;obtain ⟨z,its,n,r,hl,e⟩:=I.lstM hH;refine call_meets F.slot_list_append ⟨_,e,rfl⟩ F.entry_list_append (F.args_list_append_2 _ _) (PySem.list_append l its.toArray n u (by rw [aAw];lia)) ⟨e,?_⟩;refine ⟨.non,_,I.lset (its':=its++[u]) hH e (by simp) (r.append (.cons ru .nil)) ?_,rfl,q⟩;rw [aAc,aA1];lia
def uR:V→List V→Hp→VK→Prop:=fun x vs H Q=>∃ l xs,x=.ref l∧vs=[]∧H l=some (.lst xs)∧Q .non (upd H l (.lst xs.reverse))
theorem qC:MtM X "list.reverse" uR:=by
 intro pins s σ H x vs v us Q I rx rv h;obtain ⟨l,xs,rfl,rfl,hH,q⟩:=h
 cases rx
 have hus:=rv.zero;subst hus;obtain ⟨z,its,n,r,hl,e⟩:=I.lstM hH;refine call_meets F.slot_list_reverse ⟨_,e,rfl⟩ F.entry_list_reverse (F.args_list_reverse_1 _) (AutoSeq1.list_reverse_list_0 l its.toArray n (by rw [aAw];lia)) ⟨e,?_⟩;refine ⟨.non,_,I.lset (its':=its.reverse) hH e (by simp) r.reverse ?_,rfl,q⟩;rw [List.length_reverse];lia
end
section
variable {prog:Program} {w:World} {A:Around} {E:Value→Shared→Prop} {s:Shared}
end
section
variable {X:Cx}
end
end L2
namespace Att
open PySem PySem.W PySem.Calls PyProof.Rows
theorem jX {P:Params} {h:Heap}:∀ (ns:List Int) (vs:List Value),WellAll P h vs (ns.map WData.int)→IntsAre vs ns:=by
 intro ns
 induction ns with
 | nil =>
  intro vs w;rw [aA5] at w
  cases w
  exact .nil
 | cons n ns ih =>
  intro vs w;rw [aAo] at w
  cases w with
  | cons a b =>
   cases a
   exact .cons _ _ (ih _ b)
theorem tu {l:OpenLaw} {n:Nat} (hn:l.most=some n) {P:Params} {h:Heap} {args:List WData} {vals:List Value}
  (hpre:l.row.toRowW.claim.pre args=true) (hwl:WellAll P h vals args) :
  ∃ a vs ns,vals=[Value.ref a]∧args=[WData.list (ns.map WData.int)]∧h.get? a=some { cls:=.type "list",data:=.seq vs.toArray }∧IntsAre vs ns∧ns.length≤n:=by
 have hsh:WShape.hasAll [] args [.list .int]=true:=(pre_splitW hpre).1;have hc:l.pre.holds [] { args:=args }=true:=(pre_splitW hpre).2;obtain ⟨d,r,rfl,h1,h2⟩:=hasAllW_cons hsh;obtain rfl:=hasAllW_nil h2;obtain ⟨xs,rfl,h3⟩:=hasW_list h1;obtain ⟨ns,rfl⟩:=items_int h3;have hlen:ns.length≤n:=by
  unfold OpenLaw.pre at hc;have h4:(WTm.not (.lt (.lit (.int (n:Int))) (.len (.arg 0)))).holds [] { args:=[.list (ns.map .int)] }=true:=by
   have h4:=(holds_andW hc).1;rw [hn] at h4;exact h4
  have h5:=condW_of h4 (w_not (w_lt w_lit (w_len_list (w_arg rfl))));rw [aAa] at h5;refine Nat.le_of_not_lt fun q=>?_;have q':(n:Int) < ((ns.length:Nat):Int):=by lia
  first
   | (rw [decide_eq_true q'] at h5;exact absurd h5 (by decide))
   | (simp at h5;lia)
 cases hwl with
 | cons w1 w2 =>
  cases w2
  cases w1 with
  | list ho hall=>exact ⟨_,_,ns,rfl,rfl,ho,jX ns _ hall,hlen⟩
theorem tF (l:OpenLaw) (args:List WData):l.row.toRowW.claim.post args (.bool true) args=true :=
 postW_of (r:=l.row.toRowW) (X:=(true == true))
  (show WShape.has [] (.bool true) .bool=true by first | rfl | decide | simp [WShape.has,WShape.arms,WShape.armsAll])
  (show (WTm.eq .res (.lit (.bool true))).value [] { args:=args,res:=some (.bool true),after:=args }=some (.bool (true == true)) from w_eq_bool (w_res rfl) w_lit) rfl
theorem attach_call {l:OpenLaw} {n:Nat} {q:Program} {loose:List Str} {XP:(Str→Option Value)→Heap→Prop} {YP:World→Heap→Prop} {d:DefRec}
  (hn:l.most=some n) (hdf:d.params.defaults=[])
  (call:∀ (w:World) (s₀ s₁:Shared) (mg mb:Str→Option Value) (fa:Addr) (o:Obj) (pm cd doc:Value) (a:Addr) (vs:List Value) (ns:List Int),
   Ground q loose [] XP w s₀ mg mb s₁.heap→YP w s₁.heap →
   s₁.heap.get? fa=some o→o.data=.func (docDef d.name d.params d.body d.scope pm cd doc)→s₁.heap.CodeRec cd d.name→mg d.name=some (.ref fa) →
   s₁.heap.get? a=some { cls:=.type "list",data:=.seq vs.toArray }→IntsAre vs ns→ns.length≤n→s₁.gens=#[] →
   codeAny (model l.prog w) callerA (.call (.ref fa) ⟨[.ref a],[]⟩) (fun r s'=>r=.ok (.ret (.bool true))∧OldK s₁.heap s'.heap∧s'.os=s₁.os∧AllBare s'.gens) s₁) :
  WalkO q loose XP YP l.row.toRowW d [] (fun f vs=>PySem.call f vs):=by
 intro w s₀ s₁ mg mb G Y fa o pm cd doc dV kV ho hd hcd hD hmg hg args vals as hpre hlay hrd hwl hlo;obtain rfl:dV=.none:=Dflts.none hD hdf;obtain rfl:kV=.none:=Dflts.noKw hD;obtain ⟨a,vs,ns,rfl,rfl,hobj,hints,hlen⟩:=tu hn hpre hwl;refine enter_call (codeAny_mono (call w s₀ s₁ mg mb fa o pm cd doc a vs ns G Y ho (fd_plain hd) hcd hmg hobj hints hlen hg) fun r s' hq=>?_);obtain ⟨rfl,h2,h3,h4⟩:=hq;exact ⟨.inl ⟨.bool true,.bool true,[],rfl,fun _=>rfl,.bool true,tF l _,fun _=>⟨List.Pairwise.nil,fun _ hm=>(nomatch hm)⟩⟩,h2,h3,h4⟩
section
variable {prog:Program} {w:World} {A:Around} {E:Value→Shared→Prop} {s:Shared} {K:Frag}
end
end Att
namespace L2
open PySem PySem.Spec PyProof.Rows
theorem mB:∀ {vs:List Value} {ns:List Int},IntsAre vs ns→Vals (ns.map V.int) vs
 | _,_,.nil=>.nil
 | _,_,.cons n t h=>.cons ⟨t,rfl⟩ (mB h)
def wQ (H:Hp):Prop:=∀ b,H b=none∨∃ o xs,H b=some (.frz o (.lst xs))
theorem uS {P:Program} {w:World} {K:W.Frag} {mg mb:Str→Option Value} {CX:CXT} {k:Nat} {fa a:Addr} {fd:FuncData} {x:Str} {sp:Sp} {s₁:Shared} {vs:List Value} {ns:List Int}
  (KX:K.In s₁.heap) (hns:s₁.heap.Ns mainGlobals mg) (hb:s₁.heap.Ns builtinsNs mb) (hbb:∀ x:Str,x≠ "__name__" →mb x=bootBuiltins x) (hlim:s₁.heap.NoLimit) (hg:s₁.gens=#[])
  (ha:s₁.heap.get? a=some { cls:=.type "list",data:=.seq vs.toArray }) (hi:IntsAre vs ns) (hl:ns.length≤sizeLine) (hr:Room k callerA)
  (F:∀ base:Heap,K.In base→base.Ns mainGlobals mg→FnOk P w K mg base CX k fa fd [x] sp) (hbind:∀ (s:Shared) (u:Value),BindsTo s fd ⟨[u],[]⟩ [(x,u)])
  (hsp:∀ H:Hp,wQ H→SqL K H a (ns.map V.int)→sp [.ref a] H (fun v _=>v=.bl true) fun _ _ _=>False)
  (hCX:∀ H e s',CX [] H s₁ (fun _ _ _=>False) e s'→False) :
  codeAny (model P w) callerA (.call (.ref fa) ⟨[.ref a],[]⟩) (fun r s'=>r=.ok (.ret (.bool true))∧OldK s₁.heap s'.heap∧s'.os=s₁.os∧AllBare s'.gens) s₁:=by
 have rv:=mB hi;have lenV:=hi.length;have core:∀ H:Hp,wQ H→SqL K H a (ns.map V.int)→HOk P w H s₁.heap→(∀ b,H b≠none→b=a)→(H a≠none→K.lookup a=none) →
   codeAny (model P w) callerA (.call (.ref fa) ⟨[.ref a],[]⟩) (fun r s'=>r=.ok (.ret (.bool true))∧OldK s₁.heap s'.heap∧s'.os=s₁.os∧AllBare s'.gens) s₁:=by
  intro H hO hS hok hA hK;have base_of:∀ {b:Addr} {o:Obj},s₁.heap.get? b=some o→H b=none→(mZ s₁.heap H).get? b=some o:=fun e n=>uA e n;have noA:∀ {b:Addr} {o:Obj} {es:Array DictEntry} {ep:Nat},s₁.heap.get? b=some o→o.data=.dict es ep→H b=none:=fun {b o es ep} e d=>by
   cases q:H b with
   | none=>rfl
   | some u =>
    have e':b=a:=hA b (by rw [q];simp);subst e';rw [ha] at e;cases e;have d':Data.seq vs.toArray _=Data.dict es ep:=d
    cases d'
  have nsK:∀ {b:Addr} {m:Str→Option Value},s₁.heap.Ns b m→(mZ s₁.heap H).Ns b m:=fun {b m} ⟨o,es,ep,e,d,r⟩=>⟨o,es,ep,base_of e (noA e d),d,r⟩;have hKb:K.In (mZ s₁.heap H):=fun b o e=>base_of (KX b o e) (by
   cases q:H b with
   | none=>rfl
   | some u =>
    have e':b=a:=hA b (by rw [q];simp);subst e';rw [hK (by rw [q];simp)] at e;cases e)
  have hM:Mod K mg (mZ s₁.heap H):=⟨hKb,nsK hns,⟨mb,nsK hb,hbb⟩,let ⟨mc,h1,h2⟩:=hlim;⟨mc,nsK h1,h2⟩⟩;have e0:Env0 P w K mg (mZ s₁.heap H) callerA [] s₁ H:=⟨rfl,hM,fun b o e=>wB e,aBK (sT _ _),trivial,fun b hb=>absurd (show b∈([]:List Addr) from hb) (by simp),hok,.of_eq hg⟩;refine codeAny_mono ((F _ hKb (nsK hns)).run callerA [] s₁ H ⟨[.ref a],[]⟩ [.ref a] [.ref a] _ _ hr e0 (hbind s₁ (.ref a)) (.cons rfl .nil) (hsp H hO hS)) fun r s' h=>?_
  cases r with
  | error e=>exact (hCX H e s' h).elim
  | ok fl =>
   cases fl with
   | next=>exact False.elim h
   | brk=>exact False.elim h
   | cont=>exact False.elim h
   | ret u =>
    obtain ⟨v,H',os,bare,un,hok',r',q⟩:=h;have q':v=.bl true:=q;subst q';obtain rfl:u=Value.bool true:=r';refine ⟨rfl,OldK.of_keep fun b o e=>?_,os,bare⟩
    cases q:H b with
    | none=>exact un.keep b o e q (by intro z;exact absurd (show b∈([]:List Addr) from z) (by simp)) (by simp)
    | some u =>
     rcases hO b with z | ⟨ob,xs,z⟩
     ·rw [q] at z;cases z
     ·have z2:=un.frzs b ob _ z;obtain ⟨e1,_⟩:=hok b _ z;obtain ⟨e2,_⟩:=hok' b _ z2;rw [e] at e1;cases e1;exact e2
 cases hk:K.lookup a with
 | some o =>
  have e:=KX a o hk;rw [ha] at e
  cases e
  refine core (fun _=>none) (fun _=>.inl rfl) (.inr ⟨_,vs.toArray,_,hk,rfl,rfl,rfl,by rw [aAw,lenV];exact hl,by simpa using rv⟩) (fun b u z=>by have z':(none:Option HO)=some u:=z;cases z') (fun b z=>absurd rfl z) fun z=>absurd rfl z
 | none =>
  refine core (fun b=>if b=a then some (.frz { cls:=.type "list",data:=.seq vs.toArray } (.lst (ns.map V.int))) else none) (fun b=>?_) (.inl (.inr ⟨{ cls:=.type "list",data:=.seq vs.toArray },if_pos rfl⟩)) (fun b u z=>?_) (fun b z=>?_) fun _=>hk
  ·by_cases hb:b=a
   ·exact .inr ⟨_,_,if_pos hb⟩
   ·exact .inl (if_neg hb)
  ·by_cases hb:b=a
   ·have z':=(if_pos hb).symm.trans z
    cases z'
    subst hb;exact ⟨ha,by rw [aAa];exact hl,vs,_,rv,ha⟩
   ·have z':=(if_neg hb).symm.trans z
    cases z'
  ·by_cases hb:b=a
   ·exact hb
   ·exact absurd (if_neg hb) z
abbrev KOf {K:W.Frag} {h:Heap} (_:K.In h):W.Frag:=K
theorem wR {l:W.OpenLaw} {n k:Nat} {q:Program} {loose:List Str} {XP:(Str→Option Value)→Heap→Prop} {YP:World→Heap→Prop} {d:DefRec} {K:Params→W.Frag} {CX:World→CXT} {sp:World→Sp} {x:Str}
  (hn:l.most=some n) (hn2:n≤sizeLine) (hdf:d.params.defaults=[]) (hr:Room k callerA)
  (hY:∀ (w:World) (h:Heap),YP w h→(K w.params).In h)
  (F:∀ (w:World) (mg:Str→Option Value) (fa:Addr) (h:Heap),(K w.params).In h→h.Ns mainGlobals mg→mg d.name=some (.ref fa) →
   ∃ fd:FuncData,(∀ (s:Shared) (u:Value),BindsTo s fd ⟨[u],[]⟩ [(x,u)]) ∧
    ∀ base:Heap,(K w.params).In base→base.Ns mainGlobals mg→FnOk l.prog w (K w.params) mg base (CX w) k fa fd [x] (sp w))
  (hsp:∀ (w:World) (H:Hp) (a:Addr) (ns:List Int),ns.length≤n→wQ H→SqL (K w.params) H a (ns.map V.int)→sp w [.ref a] H (fun v _=>v=.bl true) fun _ _ _=>False)
  (hCX:∀ (w:World) (H:Hp) (s:Shared) (e:Value) (s':Shared),CX w [] H s (fun _ _ _=>False) e s'→False) :
  W.WalkO q loose XP YP l.row.toRowW d [] (fun f vs=>PySem.call f vs):=by
 refine Att.attach_call hn hdf fun w s₀ s₁ mg mb fa o pm cd doc a vs ns G Y ho hd hcd hmg hobj hints hlen hg=>?_;have KX:=hY w _ Y;obtain ⟨fd,hb,hF⟩:=F w mg fa _ KX G.T.g hmg;exact uS KX G.T.g G.T.b G.T.builtins G.T.nolimit hg hobj hints (aAA hlen hn2) hr hF hb (fun H hO hS=>hsp w H a ns hlen hO hS) fun H e s'=>hCX w H s₁ e s'
theorem Gv {l:W.OpenLaw} {n k:Nat} {q:Program} {loose:List Str} {XP:(Str→Option Value)→Heap→Prop} {YP:World→Heap→Prop} {d:DefRec} {K:Params→W.Frag} {CX:CXT} {sp:W.Frag→Sp} {x:Str}
  (hn:l.most=some n) (hn2:n≤sizeLine) (hdf:d.params.defaults=[]) (hr:Room k callerA)
  (hY:∀ (w:World) (h:Heap),YP w h→(K w.params).In h)
  (F:∀ (w:World) (mg:Str→Option Value) (fa:Addr) (h:Heap),(K w.params).In h→h.Ns mainGlobals mg→mg d.name=some (.ref fa) →
   ∃ fd:FuncData,(∀ (s:Shared) (u:Value),BindsTo s fd ⟨[u],[]⟩ [(x,u)]) ∧
    ∀ base:Heap,(K w.params).In base→base.Ns mainGlobals mg→FnOk l.prog w (K w.params) mg base CX k fa fd [x] (sp (K w.params)))
  (hsp:∀ (K:W.Frag) (H:Hp) (a:Addr) (ns:List Int),ns.length≤n→wQ H→SqL K H a (ns.map V.int)→sp K [.ref a] H (fun v _=>v=.bl true) fun _ _ _=>False)
  (hCX:∀ (H:Hp) (s:Shared) (e:Value) (s':Shared),CX [] H s (fun _ _ _=>False) e s'→False) :
  W.WalkO q loose XP YP l.row.toRowW d [] (fun f vs=>PySem.call f vs) :=
 wR (K:=K) (CX:=fun _=>CX) (sp:=fun w=>sp (K w.params)) hn hn2 hdf hr hY F (fun w H a ns h1 h2 h3=>hsp (K w.params) H a ns h1 h2 h3) fun _ H s e s'=>hCX H s e s'
end L2
namespace L2
open PySem PySem.Spec PyProof.Rows
abbrev CX0:CXT:=fun _ _ _ _ _ _=>False
abbrev E0:XK:=fun _ _ _=>False
theorem jL {X:Cx}:fJ CX0 X E0:=fun _ _ _ _ _ _ _ h=>h.elim
structure Fun (K:W.Frag) (x qual:Str) (st:Stmt) (f:Addr) (fd:FuncData):Prop where
 ex:∃ (oc:Value) (od:Option Addr) (kV doc pm:Value) (an:Option Addr) (cdv ct:Value) (osl:Array (Option Value)),
  fd=W.fnOf x qual (cc st) (bH st) (ae st) .none kV doc pm an cdv ct∧K.lookup f=some ⟨oc,od,.func fd,osl⟩∧W.codeIn K cdv qual=true
 kp:W.keepIn K (.ref f)=true
section
variable {P:Program} {w:World} {K:W.Frag} {mg:Str→Option Value} {base:Heap}
theorem Fun.ok {x qual:Str} {st:Stmt} {f:Addr} {fd:FuncData} {N ps:List Str} {k:Nat} {sp:Sp} (F:Fun K x qual st f fd) (S:FnScope N ps (ae st)) (len:∀ vs H Q E,sp vs H Q E→vs.length=ps.length)
  (hbody:∀ (cdv:Value) (A:Around) (outer:List Env) (s:Shared) (H:Hp) (vs:List V) (Q:VK) (E:XK),Room k (A.deeper (envOfC qual (ae st) s.heap.objs.size f cdv))→sp vs H Q E →
   ∃ t,PSs (oR CX0 P w K mg base N qual (ae st) f cdv A outer s H E).nox (bH st) t∧t { nx:=fun _ H'=>Q .non H',rt:=Q } (ir N vs) H):FnOk P w K mg base CX0 (k+1) f fd ps sp:=by
 obtain ⟨oc,od,kV,doc,pm,an,cdv,ct,osl,rfl,lk,hcd⟩:=F.ex;refine xO lk hcd S len fun A outer s H vs Q E hr hsp=>?_;obtain ⟨t,h,q⟩:=hbody cdv A outer s H vs Q E hr hsp;exact ⟨t,h.nox,q⟩
theorem Fun.binds {x qual:Str} {st:Stmt} {f:Addr} {fd:FuncData} {ps:List Str} (F:Fun K x qual st f fd)
  (h:∀ (kV doc pm:Value) (an:Option Addr) (cdv ct:Value) (us:List Value),us.length=ps.length→bindArgs (W.fnOf x qual (cc st) (bH st) (ae st) .none kV doc pm an cdv ct) ⟨us,[]⟩=pure (ps.zip us)):Binds K fd ps []:=by
 obtain ⟨oc,od,kV,doc,pm,an,cdv,ct,osl,rfl,lk,hcd⟩:=F.ex;exact .all (h kV doc pm an cdv ct)
theorem jd {x qual:Str} {st:Stmt} {f:Addr} {oc:Value} {od an:Option Addr} {osl:Array (Option Value)} {kV doc pm cdv ct:Value} (l:K.lookup f=some ⟨oc,od,.func (W.fnOf x qual (cc st) (bH st) (ae st) .none kV doc pm an cdv ct),osl⟩)
  (c:W.codeIn K cdv qual=true) (k:W.keepIn K (.ref f)=true):Fun K x qual st f (W.fnOf x qual (cc st) (bH st) (ae st) .none kV doc pm an cdv ct):=⟨⟨oc,od,kV,doc,pm,an,cdv,ct,osl,rfl,l,c⟩,k⟩
end
theorem av {n:Nat} (h:n≤1000):n < sizeLine:=aBb h (by decide)
section
variable {X:Cx}
theorem pv (i:Nat) {x:Str} {pos:Pos} (hN:X.N[i]?=some x:=by rfl) (hv:Vis X.env.scope x:=by first | exact Or.inl rfl | exact Or.inr (Or.inl rfl) | exact Or.inr (Or.inr rfl)) (hd:(x == ("__debug__" : Str))=false:=by decide)
  (hcd:(x == ("__classdict__" : Str))=false:=by decide):PE X (.Name x pos) (ik i):=Aw hN hv hd hcd
end
theorem cg {A B:Prop} (h:B):if false=true then A else B:=by
 rw [if_neg aAx];exact h
theorem dY {A B:Prop} (h:A):if true=true then A else B:=by
 rw [if_pos rfl];exact h
theorem be {c A B:Prop} [Decidable c] (h1:c→A) (h2:¬ c→B):if c then A else B:=by
 by_cases h:c
 ·rw [if_pos h];exact h1 h
 ·rw [if_neg h];exact h2 h
def Same (H H':Hp):Prop:=∀ b o,H b=some o→H' b=some o
theorem Same.refl (H:Hp):Same H H:=fun _ _ h=>h
theorem Same.trans {H H1 H2:Hp} (a:Same H H1) (b:Same H1 H2):Same H H2:=fun c o h=>b c o (a c o h)
theorem Same.free {H H':Hp} (e:Same H H') {l:Addr} (h:H' l=Option.none):H l=Option.none:=by
 cases q:H l with
 | none=>rfl
 | some o =>
  rw [e l o q] at h
  cases h
theorem Same.seq {K:W.Frag} {H H':Hp} {a:Addr} {xs:List V} (e:Same H H') (h:SqL K H a xs):SqL K H' a xs:=by
 rcases h with (h | ⟨o,h⟩) | h
 ·exact .inl (.inl (e _ _ h))
 ·exact .inl (.inr ⟨o,e _ _ h⟩)
 ·exact .inr h
def fC (env:Env):List (Str×NameKind)→List (Str×Addr)→List (Str×Addr)
 | [],cs=>cs
 | (n,k) :: r,cs=>fC env r (if k == .free then (n,(env.cells.lookup n).getD 0) :: cs else cs)
theorem qD {env:Env} {scope:Scope} (h:∀ x∈scope.names,x.2=.free→∃ c,env.cells.lookup x.1=some c):closureFor scope env=pure (fC env scope.names []):=by
 simp only [closureFor];have go:∀ (l:List (Str×NameKind)) (cs:List (Str×Addr)),(∀ x∈l,x.2=.free→∃ c,env.cells.lookup x.1=some c) →
   (forIn l cs fun (x:Str×NameKind) (r:List (Str×Addr))=>(do
    let (name,kind):=x
    if kind == .free then
     let a ← cellOf env name
     pure (ForInStep.yield ((name,a) :: r))
    else pure (ForInStep.yield r):Sem (ForInStep (List (Str×Addr)))))=pure (fC env l cs):=by
  intro l
  induction l with
  | nil=>intro cs _;rfl
  | cons x r ih =>
   intro cs hx;obtain ⟨n,k⟩:=x;rw [aAV]
   by_cases hk:k=.free
   ·obtain ⟨c,hc⟩:=hx (n,k) aAi hk;subst hk;have e:cellOf env n=pure c:=by unfold cellOf;rw [hc]
    simp only [beq_self_eq_true,if_true,e,pure_bind];rw [ih _ fun y hy=>hx y (aAg _ hy)];simp only [fC,beq_self_eq_true,if_true,hc,Option.getD_some]
   ·have hb:(k == NameKind.free)=false:=by simpa using hk
    simp only [hb,aAF,if_false,pure_bind];rw [ih _ fun y hy=>hx y (aAg _ hy)];simp only [fC,hb,aAF,if_false]
 have g:=go scope.names [] h
 first
  | exact (by rw [g]:_=_)
  | (rw [← bind_pure (pure (fC env scope.names []))];rw [← g];rfl)
  | (simp only [g,pure_bind])
theorem je {env:Env}:∀ (l:List (Str×NameKind)) (cs:List (Str×Addr)),(∀ x∈l,x.2=.free→∃ c,env.cells.lookup x.1=some c)→(∀ x c,cs.lookup x=some c→env.cells.lookup x=some c) →
  ∀ x c,(fC env l cs).lookup x=some c→env.cells.lookup x=some c
 | [],_,_,h=>h
 | (n,k) :: r,cs,hx,h=>by
  refine je r _ (fun y hy=>hx y (aAg _ hy)) ?_;intro x c e
  by_cases hk:k=.free
  ·obtain ⟨c',hc⟩:=hx (n,k) aAi hk;subst hk;simp only [beq_self_eq_true,if_true,hc,Option.getD_some] at e;rw [aAN] at e
   cases q:x == n with
   | true =>
    rw [q] at e;have q':x=n:=by simpa using q
    cases e
    rw [q'];exact hc
   | false=>rw [q] at e;exact h x c e
  ·have hb:(k == NameKind.free)=false:=by simpa using hk
   simp only [hb,aAF,if_false] at e;exact h x c e
theorem jM {env:Env}:∀ (l:List (Str×NameKind)) (cs:List (Str×Addr)) (x:Str),(∃ c,cs.lookup x=some c)→∃ c,(fC env l cs).lookup x=some c
 | [],_,_,h=>h
 | (n,k) :: r,cs,x,h=>by
  refine jM r _ x ?_
  split
  ·rw [aAN]
   cases q:x == n with
   | true=>exact ⟨_,rfl⟩
   | false=>exact h
  ·exact h
theorem gF {env:Env}:∀ (l:List (Str×NameKind)) (cs:List (Str×Addr)) (x:Str),l.lookup x=some .free→∃ c,(fC env l cs).lookup x=some c
 | [],_,_,h=>by simp at h
 | (n,k) :: r,cs,x,h=>by
  rw [aAN] at h
  cases q:x == n with
  | true =>
   rw [q] at h
   cases h
   refine jM r _ x ?_;simp only [beq_self_eq_true,if_true];rw [aAN,q];exact ⟨_,rfl⟩
  | false=>rw [q] at h;exact gF r _ x h
theorem eZ {env:Env}:∀ {names:List (Str×NameKind)} {x:Str} {k':NameKind},
  (names.map fun (n,k)=>if (k == NameKind.free && env.scope.kind == .function && env.kindOf n == some .cell) then (n,NameKind.cell) else (n,k)).lookup x=some k' →
  ∃ k,names.lookup x=some k∧(k'=k∨(k=.free∧k'=.cell))
 | [],_,_,h=>by simp at h
 | (n,k) :: r,x,k',h=>by
  have ih:=@eZ env r x k';rw [aAo] at h
  by_cases hc:(k == NameKind.free && env.scope.kind == .function && env.kindOf n == some .cell)=true
  ·have h2:List.lookup x ((n,NameKind.cell) :: r.map fun (n,k)=>if (k == NameKind.free && env.scope.kind == .function && env.kindOf n == some .cell) then (n,NameKind.cell) else (n,k))=some k':=by
    simpa [hc] using h
   rw [aAN] at h2;rw [aAN]
   cases q:x == n with
   | true =>
    rw [q] at h2
    cases h2
    have hk:k=.free:=by
     simp only [aAB] at hc
     simpa using hc.1.1
    exact ⟨k,rfl,.inr ⟨hk,rfl⟩⟩
   | false=>rw [q] at h2;exact ih h2
  ·have h2:List.lookup x ((n,k) :: r.map fun (n,k)=>if (k == NameKind.free && env.scope.kind == .function && env.kindOf n == some .cell) then (n,NameKind.cell) else (n,k))=some k':=by
    simpa [hc] using h
   rw [aAN] at h2;rw [aAN]
   cases q:x == n with
   | true=>rw [q] at h2;cases h2;exact ⟨_,rfl,.inl rfl⟩
   | false=>rw [q] at h2;exact ih h2
def ccx (X:Cx) (scope:Scope) (C:Addr) (N':List Str) (s₀:Shared) (H₀:Hp) (fp:List Addr):Cx :=
 { X with N:=N',s₀:=s₀,H₀:=H₀,env:=compEnvC scope (fC X.env scope.names []) C X.env,outer:=X.stack,stack:=X.stack,ex:=fp,fn:=fun _=>false,pn:=[],xe:=fun _ _=>False }
def cst (k:Nat) (ρ:List Nat) (σ:St):St:=List.replicate k none++ρ.map fun j=>(σ[j]?).join
structure CScope (X:Cx) (scope:Scope) (NL:List Str) (ρ:List Nat) (N':List Str):Prop where
 kind:scope.kind=.function
 nocell:∀ x∈scope.names,x.2≠.cell
 locs:∀ x∈scope.names,x.2=.local→scope.names.lookup x.1=some .local
 frees:∀ x∈scope.names,x.2=.free→X.env.kindOf x.1=some .cell∨X.env.kindOf x.1=some .free
 names:N'=NL++ρ.map fun j=>X.N.getD j ""
 outs:∀ j∈ρ,∃ x,X.N[j]?=some x∧scope.names.lookup x=some .free∧(X.env.scope.names.lookup x=some .cell∨X.env.scope.names.lookup x=some .free)
section
variable {X:Cx}
theorem wS {scope:Scope} {NL N':List Str} {ρ:List Nat} (S:CScope X scope NL ρ N') {pins:List (Addr×Obj)} {σ:St} {H:Hp} {s:Shared} {fp:List Addr} {C:Addr} (I:Inv X pins σ H s) (hf:∀ b∈fp,ip X pins H b)
  (hfo:∀ b∈fp,∃ o,s.heap.get? b=some o) (hC:s.heap.objs.size≤C):(ccx X scope C N' s H fp).Ok:=by
 have free_in:∀ x∈scope.names,x.2=.free→∃ c,X.env.cells.lookup x.1=some c:=fun x hx hk=>I.ok.has x.1 (S.frees x hx hk);have sub:=je (env:=X.env) scope.names [] free_in (fun x c e=>by simp at e);refine ⟨I.ok.mod,S.kind,I.ok.glob,I.ok.blt,hC,?_,?_,?_,I.ok.hd,I.ok.frames,.inl rfl,?_,I.bs,?_,?_,?_,I.stack,I.stkFree⟩
 ·exact fun x y c e1 e2=>I.ok.inj x y c (sub x c e1) (sub y c e2)
 ·intro x hx;have hx':(relabel scope X.env).names.lookup x=some .cell∨(relabel scope X.env).names.lookup x=some .free:=hx;have look:∀ k',(relabel scope X.env).names.lookup x=some k'→(k'=.cell∨k'=.free)→scope.names.lookup x=some .free:=fun k' e hk=>by
   obtain ⟨k,e1,z⟩:=eZ e;rcases z with z | ⟨z,_⟩
   ·subst z;rcases hk with z | z
    ·subst z;have hm:(x,NameKind.cell)∈scope.names:=mem_of_lookup e1;exact absurd rfl (S.nocell _ hm)
    ·subst z;exact e1
   ·subst z;exact e1
  rcases hx' with e | e
  ·exact gF scope.names [] x (look _ e (.inl rfl))
  ·exact gF scope.names [] x (look _ e (.inr rfl))
 ·intro x c e;exact absurd e (by show ¬ (false=true);decide)
 ·intro b hb;obtain ⟨f0,f1,f2,f3,f4,f5⟩:=hf b hb;refine ⟨?_,fun x c e=>f4 x c (sub x c e)⟩;obtain ⟨o,ho⟩:=hfo b hb;exact aAH (aAj (aAu ho) hC)
 ·exact aAA I.ok.bsz I.sz
 ·intro b o e hb;obtain ⟨f0,f1,f2,f3,f4,f5⟩:=hf b hb;rcases f3 with z | z
  ·exact I.ok.noex b o e z
  ·exact absurd (aAj (aAu e) (aAA I.ok.bsz z)) (aAR _)
 ·intro b hb z;obtain ⟨f0,f1,f2,f3,f4,f5⟩:=hf b hb;rcases aAm.mp (I.stkSub b z) with e | e
  ·exact f1 e
  ·exact f2 e
end
section
variable {X:Cx}
theorem Inv.comp {scope:Scope} {NL N':List Str} {ρ:List Nat} (S:CScope X scope NL ρ N') {pins:List (Addr×Obj)} {σ:St} {H:Hp} {s:Shared} {fp:List Addr} {C D:Addr} {h':Heap} {t':Nat} (I:Inv X pins σ H s) (hf:∀ b∈fp,ip X pins H b)
  (hfo:∀ b∈fp,∃ o,s.heap.get? b=some o) (hC:s.heap.objs.size≤C) (hD:s.heap.objs.size≤D) (hDC:D≠C) (k:∀ b u,s.heap.get? b=some u→h'.get? b=some u)
  (hd:h'.get? D=some { cls:=.type "list",data:=.seq #[] 0 }) (hn:h'.Ns C fun _=>none) :
  Inv (ccx X scope C N' s H fp) (X.pn++pins) (cst NL.length ρ σ) (upd H D (.lst [])) { s with heap:=h',toks:=t' }:=by
 have ok:=wS S I hf hfo hC;have free_in:∀ x∈scope.names,x.2=.free→∃ c,X.env.cells.lookup x.1=some c:=fun x hx hk=>I.ok.has x.1 (S.frees x hx hk);have sub:=je (env:=X.env) scope.names [] free_in (fun x c e=>by simp at e);have fresh:∀ b,s.heap.objs.size≤b→H b=none:=fun b hb=>I.hok.fresh hb;have neD:∀ b o,s.heap.get? b=some o→b≠D:=fun b o e=>aAH (aAj (aAu e) hD);have neH:∀ b u,H b=some u→b≠D:=fun b u e=>ah e (fresh D hD);refine ⟨ok,rfl,I.bare,⟨fun b o e _ _ _=>k b o e,fun b o e _ _ _=>⟨o.slots,k b o e⟩,fun b o e n _=>?_,fun b o e _=>⟨o,k b o e⟩,fun b xs e=>?_,fun b o u e=>?_,fun b ps e=>⟨#[],?_⟩⟩,⟨_,hn,?_⟩,?_,?_,?_,?_,?_,?_⟩
 ·show upd H D _ b=none;rw [ac (neD b o e)];exact n
 ·show upd H D _ b=_;rw [ac (neH b _ e)];exact e
 ·show upd H D _ b=_;rw [ac (neH b _ e)];exact e
 ·show upd H D _ b=_;rw [ac (neH b _ e)];have e':H b=some (.tbl ps):=e;rw [e'];simp
 ·-- the names around
  intro i x v e1 e2 hv;obtain ⟨m,hm,hl⟩:=I.loc;have eN:(NL++ρ.map fun j=>X.N.getD j "")[i]?=some x:=by
   have e1':N'[i]?=some x:=e1;rw [S.names] at e1';exact e1'
  have eσ:(List.replicate NL.length (none:Option V)++ρ.map fun j=>(σ[j]?).join)[i]?=some (some v):=e2
  by_cases hi:i < NL.length
  ·rw [aBI (by simpa using hi)] at eσ;rw [aBR] at eσ
   split at eσ <;> cases eσ
  ·have hi':NL.length≤i:=Nat.le_of_not_lt hi;rw [aBl (by simpa using hi'),aA0,aAf] at eσ;rw [aBl hi',aAf] at eN
   cases q:ρ[i - NL.length]? with
   | none=>rw [q] at eN;cases eN
   | some j =>
    rw [q] at eN eσ;obtain ⟨y,ey,f1,f2⟩:=S.outs j (aAr q);have exy:X.N.getD j "" = y:=by rw [aAL,ey];rfl
    have exx:X.N.getD j "" = x:=Option.some.inj eN;have xy:x=y:=exx.symm.trans exy;subst xy;have eσ':(σ[j]?).join=some v:=Option.some.inj eσ;have eσ2:σ[j]?=some (some v):=by
     cases z:σ[j]? with
     | none=>rw [z] at eσ';cases eσ'
     | some w=>rw [z] at eσ';exact congrArg some eσ'
    have vis:Vis X.env.scope x:=by
     rcases f2 with z | z
     ·exact .inr (.inl z)
     ·exact .inr (.inr z)
    obtain ⟨u,r,l⟩:=hl j x v ey eσ2 vis;refine ⟨u,r,?_⟩;obtain ⟨c,hc⟩:=gF (env:=X.env) scope.names [] x f1;rcases l with ⟨kl,_⟩ | ⟨_,c',hc',z⟩
    ·have kl':X.env.scope.names.lookup x=some .local:=kl;rcases f2 with z | z
     ·rw [z] at kl';cases kl'
     ·rw [z] at kl';cases kl'
    ·have e3:=sub x c hc;rw [hc'] at e3;obtain rfl:=Option.some.inj e3;obtain ⟨oc,hoc,hcd⟩:=z;have hv':(relabel scope X.env).names.lookup x=some .local∨(relabel scope X.env).names.lookup x=some .cell∨(relabel scope X.env).names.lookup x=some .free:=hv;refine .inr ⟨?_,c',hc,oc,k _ _ hoc,hcd⟩;rcases hv' with z | z | z
     ·obtain ⟨k0,e4,z2⟩:=eZ z;rw [f1] at e4
      cases e4
      rcases z2 with z2 | ⟨_,z2⟩ <;> cases z2
     ·exact .inl z
     ·exact .inr z
 ·intro x c e;obtain ⟨v,oc,hoc,hcd⟩:=I.cell x c (sub x c e);exact ⟨v,oc,k _ _ hoc,hcd⟩
 ·show upd H D _ C=none;rw [ac (Ne.symm hDC)];exact fresh C hC
 ·intro x c e;obtain ⟨v,oc,hoc,hcd⟩:=I.cell x c (sub x c e);rw [ac (neD c oc hoc)];exact I.freeC x c (sub x c e)
 ·intro p hp;have hp':p∈X.pn++pins:=hp;obtain ⟨e,n,ne,nf,d⟩:=I.pin p hp';refine ⟨k _ _ e,?_,?_,?_,d⟩
  ·rw [ac (neD p.1 p.2 e)];exact n
  ·exact aAH (aAj (aAu e) hC)
  ·intro z;rcases aAm.mp (I.stkSub p.1 z) with q | q
   ·exact ne q
   ·exact nf q
 ·exact I.hok.laid k hD ⟨aAD _,[],0,.nil,hd⟩
 ·show (List.replicate NL.length (none:Option V)++ρ.map fun j=>(σ[j]?).join).length=N'.length;rw [S.names];simp
theorem Inv.compEnd {scope:Scope} {N':List Str} {pins:List (Addr×Obj)} {σ σ':St} {H H':Hp} {s s':Shared} {fp:List Addr} {C:Addr} {h':Heap} {pins':List (Addr×Obj)} (I:Inv X pins σ H s) (hf:∀ b∈fp,ip X pins H b) (hC:s.heap.objs.size≤C)
  (J:Inv (ccx X scope C N' s H fp) pins' σ' H' s') (hs:Heap.SameBut C s'.heap h'):Inv X pins σ H' { s' with heap:=h' }:=by
 have hn:H' C=none:=J.free;have nC:∀ b o,s.heap.get? b=some o→b≠C:=fun b o e=>aAH (aAj (aAu e) hC);have B:Un (frs X.stack) fp H H' s.heap s'.heap:=J.base;have U:Un (frs X.stack) fp H H' s.heap h':=⟨fun b o e n hb hx=>(hs.2 b (nC b o e)).trans (B.keep b o e n hb hx),fun b o e n hb hx=>by
   obtain ⟨sl,q⟩:=B.slot b o e n hb hx;exact ⟨sl,(hs.2 b (nC b o e)).trans q⟩,B.free,fun b o e hx=>by
   obtain ⟨o',q⟩:=B.there b o e hx;exact ⟨o',(hs.2 b (nC b o e)).trans q⟩,B.tups,B.frzs,B.tbls⟩
 have hok:HOk X.prog X.w H' h':=fun b u e=>by
  refine (J.hok b u e).stay (fun c v hc q=>(hs.2 c ?_).trans q) (fun _ q=>q) fun _ _ q=>q;rintro rfl;rcases hc with rfl | hc
  ·rw [hn] at e;cases e
  ·rw [hn] at hc;cases hc
 refine Inv.call' (s':={ s' with heap:=h' }) I J.os U hok J.bare fun b hb=>?_;obtain ⟨f0,f1,f2,f3,f4,f5⟩:=hf b hb;exact ⟨f3,f1,f4,f5⟩
def xP (k:Nat) (ρ:List Nat) (wi:TI) (g:TG) (tb:List V→Addr→St→Hp→(List V→St→Hp→Prop)→Prop):TE:=fun σ H Q =>
 wi σ H fun J H1=>∀ l,H1 l=none→∃ W:Nat→Nat→List V→St→Hp→Prop,(∃ m,W 0 m [] (cst k ρ σ) (upd H1 l (.lst []))) ∧
  ∀ i m ys σ' H',W i m ys σ' H'→(J.stop i H'∧Q (.ref l) H')∨(J.go i H'∧∀ x H'',J.yld i H' x H''→g x σ' H'' fun σ2 H2=>tb ys l σ2 H2 fun ys' σ3 H3=>∃ m',m' < m∧W (i+1) m' ys' σ3 H3)
def cEl (te:TE):List V→Addr→St→Hp→(List V→St→Hp→Prop)→Prop:=fun ys l σ H N=>te σ H fun y H1=>H1 l=some (.lst ys)∧ys.length < sizeLine∧N (ys++[y]) σ (upd H1 l (.lst (ys++[y])))
def PB (X:Cx) (body:Value→Sem Unit) (tb:List V→Addr→St→Hp→(List V→St→Hp→Prop)→Prop):Prop :=
 ∀ (pins:List (Addr×Obj)) (s:Shared) (σ:St) (H:Hp) (l:Addr) (ys:List V) (N:List V→St→Hp→Prop),Inv X pins σ H s→tb ys l σ H N →
  wpAny (model X.prog X.w) X.A (body (.ref l)) (fun _ s'=>∃ ys' σ' H',Inv X pins σ' H' s'∧N ys' σ' H') X.xe s
theorem Gw {elt:Expr} {te:TE} (he:PE X elt te):PB X (fun acc=>do let x ← eval elt X.env;let _ ← call (.builtin "list.append") [acc,x];pure ()) (cEl te):=by
 intro pins s σ H l ys N I h;refine wpAny_bind (thn (he pins s σ H _ I h) fun u s1 ⟨y,H1,I1,r1,q0,q1,q2⟩=>wpAny_bind ?_);refine thn (bP pins s1 σ H1 (.ref l) [y] (.ref l) [u] (fun v H'=>v=.non∧N (ys++[y]) σ H') I1 rfl (.cons r1 .nil) ⟨l,ys,y,rfl,rfl,q0,q1,rfl,q2⟩) fun _ s2 ⟨v,H2,I2,_,_,n2⟩=>wpAny_pure ⟨_,σ,H2,I2,n2⟩
theorem uT (elt target iter:Expr) (scope:Scope) (pos:Pos) (it acc:Value) (env:Env) :
  compTurn (.ListComp elt [⟨target,iter,[],0⟩] scope pos) 0 it acc env=(standAt iter.pos >>= fun _=>pyNext it >>= fun r=>match r with
   | none=>pure (.done .next)
   | some v=>letOwnedTupleGo target it v >>= fun _=>assign target env v >>= fun _ =>
    (do let x ← eval elt env;let _ ← call (.builtin "list.append") [acc,x];pure ():Sem Unit) >>= fun _=>again (.compLoop (.ListComp elt [⟨target,iter,[],0⟩] scope pos) 0 it acc env)):=by rfl
end
section
variable {X:Cx}
theorem uU {elt tgt iter:Expr} {ifs:List Expr} {scope:Scope} {pos:Pos} {NL N':List Str} {ρ:List Nat} {wi:TI} {g:TG} {tb:List V→Addr→St→Hp→(List V→St→Hp→Prop)→Prop} {body:Value→Env→Sem Unit}
  (hc:X.calm=true) (S:CScope X scope NL ρ N') (hi:PI X tgt iter wi)
  (hg:∀ C s₀ H₀ fp,PG (ccx X scope C N' s₀ H₀ fp) tgt g) (hb:∀ C s₀ H₀ fp,PB (ccx X scope C N' s₀ H₀ fp) (fun acc=>body acc (ccx X scope C N' s₀ H₀ fp).env) tb)
  (he:∀ (it acc:Value) (env:Env),compTurn (.ListComp elt [⟨tgt,iter,ifs,0⟩] scope pos) 0 it acc env=(standAt iter.pos >>= fun _=>pyNext it >>= fun r=>match r with
   | none=>pure (.done .next)
   | some v=>letOwnedTupleGo tgt it v >>= fun _=>assign tgt env v >>= fun _=>body acc env >>= fun _=>again (.compLoop (.ListComp elt [⟨tgt,iter,ifs,0⟩] scope pos) 0 it acc env)))
  (hs:∀ x,foldedSetIterable iter X.env x=pure x:=by intro _;rfl):PE X (.ListComp elt [⟨tgt,iter,ifs,0⟩] scope pos) (xP NL.length ρ wi g tb):=by
 intro pins s σ H Q I h;have free_in:∀ x∈scope.names,x.2=.free→∃ c,X.env.cells.lookup x.1=some c:=fun x hx hk=>I.ok.has x.1 (S.frees x hx hk);rw [eval_ListComp];refine wpAny_comprehension_free (use:=none) rfl hs (qD free_in) S.kind S.locs ?_;refine thn (hi pins s σ H _ I h) fun v s1 h1=>thn h1 fun itv s2 h2=>?_;obtain ⟨it,fp,tn,J,H2,e,I2,T,st2,f2,w⟩:=h2;subst e;refine wpAny_newObj_type (wpAny_newFunctionEnv S.nocell (by intro y hy;simp at hy) (fun h₁ hns₁ hsb₁=>?_) S.kind);dsimp only at hns₁ hsb₁ ⊢
 generalize hH2:s2.heap.push { cls:=.type "list",dict:=none,data:=.seq ([]:List Value).toArray }=h2' at hns₁ hsb₁ ⊢
 have hCs:h2'.objs.size=s2.heap.objs.size+1:=by rw [← hH2,aA2]
 have hDC:s2.heap.objs.size≠h2'.objs.size:=by rw [hCs];exact aAH (aA9 _)
 have hC:s2.heap.objs.size≤h2'.objs.size:=by rw [hCs];exact aBX _
 have old:∀ b o,s2.heap.get? b=some o→h₁.get? b=some o:=fun b o e=>hsb₁.extBut b o (aAH (aAj (aAu e) hC)) (aAe _ (hH2 ▸ aAe _ e));have hd:h₁.get? s2.heap.objs.size=some { cls:=.type "list",data:=.seq #[] 0 }:=hsb₁.extBut _ _ hDC (aAe _ (hH2 ▸ aAz _ rfl));have hfo:∀ b∈fp,∃ o,s2.heap.get? b=some o:=fun b hb=>let ⟨o,e,_⟩:=T.obj _ _ st2 b hb;⟨o,e⟩;have I4:Inv (ccx X scope h2'.objs.size N' s2 H2 fp) (X.pn++pins) (cst NL.length ρ σ) (upd H2 s2.heap.objs.size (.lst [])) { s2 with heap:=h₁,toks:=s2.toks+([]:List (Str×Value)).length } :=
  Inv.comp S I2 f2 hfo hC (aAp _) hDC old hd (by simpa using hns₁)
 have hD0:H2 s2.heap.objs.size=none:=I2.hok.fresh (aAp _);have nfp:s2.heap.objs.size∉fp:=fun z=>by
  obtain ⟨o,e⟩:=hfo _ z;exact absurd (aAu e) (aAR _)
 obtain ⟨W,⟨m0,w0⟩,turn⟩:=w s2.heap.objs.size hD0;have stat:∀ {H':Hp},(∀ b∈fp,H' b=none)→∀ b∈fp,ip (ccx X scope h2'.objs.size N' s2 H2 fp) (X.pn++pins) H' b:=fun {H'} hn b hb=>by
  obtain ⟨f0,f1,f2',f3,f4,f5⟩:=f2 b hb;have ok:=I4.ok;refine ⟨hn b hb,(ok.exf b hb).1,ok.exfs b hb,.inl hb,(ok.exf b hb).2,fun p hp=>f5 p hp⟩
 have loop:∀ s₃:Shared,s₃={ s2 with heap:=h₁,toks:=s2.toks+([]:List (Str×Value)).length } →
   codeAny (model X.prog X.w) X.A (.compLoop (.ListComp elt [⟨tgt,iter,ifs,0⟩] scope pos) 0 (.ref it) (.ref s2.heap.objs.size) (compEnvC scope (fC X.env scope.names []) h2'.objs.size X.env))
    (compPost (model X.prog X.w) X.A X.xe none (EP X pins σ Q) (.ref s2.heap.objs.size) h2'.objs.size) s₃:=by
  rintro s₃ rfl;refine codeAny_loop rfl (fun n s'=>∃ i ys σ' H',Inv (ccx X scope h2'.objs.size N' s2 H2 fp) (X.pn++pins) σ' H' s'∧tn i s'.heap∧(∀ b∈fp,H' b=none)∧W i n ys σ' H') (fun n s3 hI=>?_) m0
   ⟨0,[],_,_,I4,T.keep _ _ _ st2 (fun b _ o e=>old b o e),fun b hb=>?_,w0⟩
  ·obtain ⟨i,ys,σ3,H3,I3,st3,fr3,w3⟩:=hI;show wpAny _ _ ((compTurn (.ListComp elt [⟨tgt,iter,ifs,0⟩] scope pos) 0 (.ref it) (.ref s2.heap.objs.size) (compEnvC scope (fC X.env scope.names []) h2'.objs.size X.env)).onRaise (fun x=>do noteFrame x _;theTreesLotGoes x)) _ _ s3;refine wpAny_noted ?_;rw [he];refine wpAny_bind (wpAny_standAt (wpAny_bind ?_));rcases turn i n ys σ3 H3 w3 with ⟨stop,qn⟩ | ⟨go,step⟩
   ·refine thn (T.done (ccx X scope h2'.objs.size N' s2 H2 fp) rfl rfl rfl hc i _ s3 σ3 H3 _ I3 (stat fr3) st3 stop) fun r s4 ⟨hr,I5⟩=>?_;subst hr;refine wpAny_pure ?_;obtain ⟨m,hm,_⟩:=id I5.loc;exact ⟨m,hm,fun h' hs'=>⟨.ref s2.heap.objs.size,H3,Inv.compEnd I2 f2 hC I5 hs',rfl,qn⟩⟩
   ·refine thn (T.item (ccx X scope h2'.objs.size N' s2 H2 fp) rfl rfl rfl hc i _ s3 σ3 H3 _ I3 (stat fr3) st3 go) fun r s4 ⟨u,hr,h4⟩=>?_;subst hr;refine wpAny_bind (thn h4 fun _ s5 ⟨x,H5,I5,r5,y5,st5,fr5⟩=>?_);have I5':=I5.pinned (stat fr5) (T.obj _ _ st5);refine wpAny_bind (wpAny_mono (hg h2'.objs.size s2 H2 fp _ s5 σ3 H5 x u _ I5' r5 (step x H5 y5)) (fun _ s6 ⟨σ6,H6,I6,q6⟩=>?_) fun _ _ z=>z.elim);refine wpAny_bind (wpAny_mono (hb h2'.objs.size s2 H2 fp _ s6 σ6 H6 s2.heap.objs.size ys _ I6 q6) (fun _ s7 ⟨ys7,σ7,H7,I7,m',hm,w7⟩=>?_) fun _ _ z=>z.elim);refine wpAny_pure ⟨rfl,m',hm,i+1,ys7,σ7,H7,I7.unpinned,T.keep _ _ _ st5 fun b hb o e=>(I7.pin (b,o) (aAM _ (aAM _ (eW hb e)))).1,fun b hb=>?_,w7⟩;obtain ⟨o,e,d⟩:=T.obj _ _ st5 b hb;exact (I7.pin (b,o) (aAM _ (aAM _ (eW hb e)))).2.1
  ·rw [ac (show b≠s2.heap.objs.size from fun z=>nfp (by rw [← z];exact hb))];exact (f2 b hb).1
 refine codeAny_compStart_list (loop _ rfl) (T.self _ 0 _ _ _ ?_ (loop _ rfl));exact T.keep _ _ _ st2 fun b _ o e=>old b o e
theorem pe_comp {elt tgt iter:Expr} {scope:Scope} {pos:Pos} {NL N':List Str} {ρ:List Nat} {wi:TI} {g:TG} {te:TE} (hc:X.calm=true) (S:CScope X scope NL ρ N') (hi:PI X tgt iter wi)
  (hg:∀ C s₀ H₀ fp,PG (ccx X scope C N' s₀ H₀ fp) tgt g) (he:∀ C s₀ H₀ fp,PE (ccx X scope C N' s₀ H₀ fp) elt te)
  (hs:∀ x,foldedSetIterable iter X.env x=pure x:=by intro _;rfl):PE X (.ListComp elt [⟨tgt,iter,[],0⟩] scope pos) (xP NL.length ρ wi g (cEl te)) :=
 uU (body:=fun acc env=>do let x ← eval elt env;let _ ← call (.builtin "list.append") [acc,x];pure ()) hc S hi hg (fun C s₀ H₀ fp=>Gw (he C s₀ H₀ fp)) (fun it acc env=>uT elt tgt iter scope pos it acc env) hs
end
section
variable {X:Cx}
inductive IsiB (K:W.Frag) (H:Hp):V→String→Bool→Prop
 | int_int {i}:IsiB K H (.int i) "int" true
 | int_str {i}:IsiB K H (.int i) "str" false
 | int_bool {i}:IsiB K H (.int i) "bool" false
 | int_tuple {i}:IsiB K H (.int i) "tuple" false
 | int_list {i}:IsiB K H (.int i) "list" false
 | str_int {x}:IsiB K H (.str x) "int" false
 | str_str {x}:IsiB K H (.str x) "str" true
 | str_bool {x}:IsiB K H (.str x) "bool" false
 | str_tuple {x}:IsiB K H (.str x) "tuple" false
 | str_list {x}:IsiB K H (.str x) "list" false
 | bl_int {b}:IsiB K H (.bl b) "int" true
 | bl_bool {b}:IsiB K H (.bl b) "bool" true
 | bl_str {b}:IsiB K H (.bl b) "str" false
 | bl_tuple {b}:IsiB K H (.bl b) "tuple" false
 | tup_int {a xs}:SqT K H a xs→IsiB K H (.ref a) "int" false
 | tup_str {a xs}:SqT K H a xs→IsiB K H (.ref a) "str" false
 | tup_bool {a xs}:SqT K H a xs→IsiB K H (.ref a) "bool" false
 | tup_tuple {a xs}:SqT K H a xs→IsiB K H (.ref a) "tuple" true
 | tup_list {a xs}:SqT K H a xs→IsiB K H (.ref a) "list" false
 | lst_int {a xs}:SqL K H a xs→IsiB K H (.ref a) "int" false
 | lst_str {a xs}:SqL K H a xs→IsiB K H (.ref a) "str" false
 | lst_tuple {a xs}:SqL K H a xs→IsiB K H (.ref a) "tuple" false
 | lst_list {a xs}:SqL K H a xs→IsiB K H (.ref a) "list" true
theorem fK (a b:String) (h:isSubtype (.type a) (.type b)=pure false:=by rw [isSubtype_type];kernel_rfl):isSubtype (.type a) (.type b)=pure false:=h
theorem tG (a b:String) (h:isSubtype (.type a) (.type b)=pure true:=by rw [isSubtype_type];kernel_rfl):isSubtype (.type a) (.type b)=pure true:=h
theorem tH:isSubtype (.type "int") (.type "str")=pure false:=fK _ _
theorem qE:isSubtype (.type "int") (.type "bool")=pure false:=fK _ _
theorem oU:isSubtype (.type "int") (.type "tuple")=pure false:=fK _ _
theorem qF:isSubtype (.type "int") (.type "list")=pure false:=fK _ _
theorem tI:isSubtype (.type "str") (.type "int")=pure false:=fK _ _
theorem qG:isSubtype (.type "str") (.type "bool")=pure false:=fK _ _
theorem oV:isSubtype (.type "str") (.type "tuple")=pure false:=fK _ _
theorem qH:isSubtype (.type "str") (.type "list")=pure false:=fK _ _
theorem qI:isSubtype (.type "bool") (.type "str")=pure false:=fK _ _
theorem ng:isSubtype (.type "bool") (.type "tuple")=pure false:=fK _ _
theorem oW:isSubtype (.type "tuple") (.type "int")=pure false:=fK _ _
theorem oX:isSubtype (.type "tuple") (.type "str")=pure false:=fK _ _
theorem nh:isSubtype (.type "tuple") (.type "bool")=pure false:=fK _ _
theorem nj:isSubtype (.type "tuple") (.type "list")=pure false:=fK _ _
theorem qJ:isSubtype (.type "list") (.type "int")=pure false:=fK _ _
theorem qK:isSubtype (.type "list") (.type "str")=pure false:=fK _ _
theorem nk:isSubtype (.type "list") (.type "tuple")=pure false:=fK _ _
theorem Gx:isSubtype (.type "int") (.type "int")=pure true:=tG _ _
theorem Gy:isSubtype (.type "str") (.type "str")=pure true:=tG _ _
theorem AL:isSubtype (.type "bool") (.type "bool")=pure true:=tG _ _
theorem qL:isSubtype (.type "bool") (.type "int")=pure true:=tG _ _
theorem wT:isSubtype (.type "tuple") (.type "tuple")=pure true:=tG _ _
theorem AM:isSubtype (.type "list") (.type "list")=pure true:=tG _ _
theorem oY:typeOf (.type "int")=pure (.type "type"):=by kernel_rfl
theorem oZ:typeOf (.type "str")=pure (.type "type"):=by kernel_rfl
theorem nn:typeOf (.type "bool")=pure (.type "type"):=by kernel_rfl
theorem ix:typeOf (.type "tuple")=pure (.type "type"):=by kernel_rfl
theorem nu:typeOf (.type "list")=pure (.type "type"):=by kernel_rfl
theorem uV:bB X (.builtin "isinstance") (fun xs H Q=>∃ x T b,xs=[x,.ty T]∧IsiB X.K H x T b∧Q (.bl b) H):=by
 intro pins s σ H xs us Q I r h;obtain ⟨x,T,b,rfl,hb,q⟩:=h;obtain ⟨u,w',rfl,rx,rT⟩:=rJ r
 cases rT
 have fin:∀ t,EP X pins σ Q (.bool b) { s with toks:=t }:=fun t=>⟨.bl b,H,I.tok t,rfl,q⟩;have fin0:EP X pins σ Q (.bool b) s:=⟨.bl b,H,I,rfl,q⟩;have tup:∀ {a xs},SqT X.K H a xs→∃ o,s.heap.get? a=some o∧o.cls=.type "tuple" :=fun hq=>by
  obtain ⟨its,_,p,_⟩:=I.tuple hq;obtain ⟨o,e,c,_⟩:=p;exact ⟨o,e,c⟩
 have lst:∀ {a xs},SqL X.K H a xs→∃ o,s.heap.get? a=some o∧o.cls=.type "list" :=fun hq=>by
  obtain ⟨its,_,p,_⟩:=I.list hq;obtain ⟨o,e,c,_⟩:=p.isList;exact ⟨o,e,c⟩
 cases hb with
 | int_int=>obtain ⟨t,rfl⟩:=rx;exact call_isinstance (isinstance_true (Tx:= "int") oY Gx) ⟨rfl,fin0⟩
 | int_str=>obtain ⟨t,rfl⟩:=rx;exact call_isinstance (isinstance_false_int (by decide) oZ tH) (fin _)
 | int_bool=>obtain ⟨t,rfl⟩:=rx;exact call_isinstance (isinstance_false_int (by decide) nn qE) (fin _)
 | int_tuple=>obtain ⟨t,rfl⟩:=rx;exact call_isinstance (isinstance_false_int (by decide) ix oU) (fin _)
 | int_list=>obtain ⟨t,rfl⟩:=rx;exact call_isinstance (isinstance_false_int (by decide) nu qF) (fin _)
 | str_int=>obtain ⟨t,rfl⟩:=rx;exact call_isinstance (isinstance_false_str (by decide) oY tI) (fin _)
 | str_str=>obtain ⟨t,rfl⟩:=rx;exact call_isinstance (isinstance_true (Tx:= "str") oZ Gy) ⟨rfl,fin0⟩
 | str_bool=>obtain ⟨t,rfl⟩:=rx;exact call_isinstance (isinstance_false_str (by decide) nn qG) (fin _)
 | str_tuple=>obtain ⟨t,rfl⟩:=rx;exact call_isinstance (isinstance_false_str (by decide) ix oV) (fin _)
 | str_list=>obtain ⟨t,rfl⟩:=rx;exact call_isinstance (isinstance_false_str (by decide) nu qH) (fin _)
 | bl_int=>cases rx;exact call_isinstance (isinstance_true (Tx:= "bool") oY qL) ⟨rfl,fin0⟩
 | bl_bool=>cases rx;exact call_isinstance (isinstance_true (Tx:= "bool") nn AL) ⟨rfl,fin0⟩
 | bl_str=>cases rx;exact call_isinstance (isinstance_false_bool (by decide) oZ qI) (fin _)
 | bl_tuple=>cases rx;exact call_isinstance (isinstance_false_bool (by decide) ix ng) (fin _)
 | tup_int hq=>cases rx;exact call_isinstance (isinstance_false_tuple (by decide) oY oW) ⟨tup hq,fin _⟩
 | tup_str hq=>cases rx;exact call_isinstance (isinstance_false_tuple (by decide) oZ oX) ⟨tup hq,fin _⟩
 | tup_bool hq=>cases rx;exact call_isinstance (isinstance_false_tuple (by decide) nn nh) ⟨tup hq,fin _⟩
 | tup_tuple hq=>cases rx;exact call_isinstance (isinstance_true (Tx:= "tuple") ix wT) ⟨tup hq,fin0⟩
 | tup_list hq=>cases rx;exact call_isinstance (isinstance_false_tuple (by decide) nu nj) ⟨tup hq,fin _⟩
 | lst_int hq=>cases rx;exact call_isinstance (isinstance_false_list (by decide) oY qJ) ⟨lst hq,fin _⟩
 | lst_str hq=>cases rx;exact call_isinstance (isinstance_false_list (by decide) oZ qK) ⟨lst hq,fin _⟩
 | lst_tuple hq=>cases rx;exact call_isinstance (isinstance_false_list (by decide) ix nk) ⟨lst hq,fin _⟩
 | lst_list hq=>cases rx;exact call_isinstance (isinstance_true (Tx:= "list") nu AM) ⟨lst hq,fin0⟩
def Its (z:Str):It:=⟨fun i _=>i < z.cps.size,fun i H x H'=>H'=H∧∃ c,z.cps[i]?=some c∧x=.str ⟨#[c]⟩,fun i _=>i=z.cps.size⟩
def Hz (te:TE):TI:=fun σ H R=>te σ H fun x H1=>∃ z,x=.str z∧R (Its z) H1
theorem pd {P:Program} {w:World} {K:W.Frag} {tg:Expr} (T:String) (it:Addr) (z:Str) (t:Tok)
  (W:∀ A:Around,A.handled=none→Walks P w A it [it] [it] z.cps.size (SignAt z) (fun i h=>h.IsStrIter it T z t i))
  (hT:["enumerate","zip","dict_itemiterator","dict_reverseitemiterator","odict_iterator","itertools.zip_longest","itertools.pairwise"].contains T=false)
  (hs:∀ (A:Around) (i:Nat) (s:Shared) (Q:Value→Shared→Prop) (E:Value→Shared→Prop),s.heap.IsStrIter it T z t i→Q (.ref it) s→wpAny (model P w) A (pyIter (.ref it)) Q E s) :
  Turn P w K tg (Its z) [it] it (fun i h=>h.IsStrIter it T z t i) where
 mem:=by simp
 obj:=fun i h st b hb=>by
  have e:b=it:=by simpa using hb
  subst e;obtain ⟨o,e,c,d⟩:=st;exact ⟨o,e,fun v z=>by rw [d] at z;cases z⟩
 keep:=fun i h h' st k=>by
  obtain ⟨o,e,c,d⟩:=st;exact ⟨o,k it (by simp) o e,c,d⟩
 item:=by
  intro X hP hw hK hc i pins s σ H E I hf st hg;subst hP hw hK;obtain ⟨f0,f1,f2,f3,f4,f5⟩:=hf it (by simp);refine (W X.A (I.ok.hd hc)).item i s _ _ hg st fun v h' tk hv st' kk=>?_;obtain ⟨c,u,hcz,rfl⟩:=hv;have I1:Inv X pins σ H { s with heap:=h',toks:=tk }:=I.turned (fun b o hb e=>kk b o (by simpa using hb) e) f0 f1 f3 f4 f5;obtain ⟨o,e,cl,d⟩:=id st';exact ⟨_,rfl,rE (s:={ s with heap:=h',toks:=tk }) e cl d hT ⟨.str ⟨#[c]⟩,H,I1,⟨u,rfl⟩,⟨rfl,c,hcz,rfl⟩,st',fun b hb=>(hf b hb).1⟩⟩
 done:=by
  intro X hP hw hK hc i pins s σ H E I hf st hg;subst hP hw hK;obtain ⟨f0,f1,f2,f3,f4,f5⟩:=hf it (by simp);have hi:i=z.cps.size:=hg;subst hi;exact (W X.A (I.ok.hd hc)).done s _ _ st fun h' tk kk=>⟨rfl,I.turned (fun b o hb e=>kk b o (by simpa using hb) e) f0 f1 f3 f4 f5⟩
 self:=hs
theorem uW {tg l:Expr} {tl:TE} (hl:PE X l tl):PI X tg l (Hz tl):=by
 intro pins s σ H R I h;refine thn (hl pins s σ H _ I h) fun v s1 ⟨x,H1,I1,r1,q1⟩=>?_;obtain ⟨z,rfl,q⟩:=q1;obtain ⟨t,rfl⟩:=r1;have fp:∀ (o:Obj),∀ b∈[s1.heap.objs.size],ip X pins H1 b:=fun o b hb=>by
  have e:b=s1.heap.objs.size:=by simpa using hb
  subst e;exact I1.fpOk (aAp _) (I1.hok.fresh (aAp _))
 cases ha:z.cps.all (· < 128)
 ·refine wpAny_pyIter_wide ha ?_;exact ⟨s1.heap.objs.size,[s1.heap.objs.size],_,_,H1,rfl,I1.kept (t':=s1.toks) fun b o e=>aAe _ e,
   pd "str_iterator" _ z t (fun A hA=>Walks.strWide hA _ z t) (by decide) (fun _ _ _ _ _ st h=>wpAny_pyIter_striter_wide st h),⟨_,aAz _ rfl,rfl,rfl⟩,fp default,q⟩
 ·refine wpAny_pyIter_ascii ha ?_;exact ⟨s1.heap.objs.size,[s1.heap.objs.size],_,_,H1,rfl,I1.kept (t':=s1.toks) fun b o e=>aAe _ e,
   pd "str_ascii_iterator" _ z t (fun A hA=>Walks.strAscii hA _ z t) (by decide) (fun _ _ _ _ _ st h=>wpAny_pyIter_striter_ascii st h),⟨_,aAz _ rfl,rfl,rfl⟩,fp default,q⟩
def bls:List Bool→List V:=List.map V.bl
theorem uX:bB X (.builtin "all") (fun xs H Q=>∃ p ys,xs=[.ref p]∧X.calm=true∧SqL X.K H p (bls ys)∧Q (.bl (ys.all id)) H):=by
 intro pins s σ H xs us Q I r h;obtain ⟨p,ys,rfl,hcm,hq,q⟩:=h;obtain ⟨u,rfl,rx⟩:=dE r
 cases rx
 obtain ⟨its,r',pl,hz⟩:=I.list hq;have hh:X.A.in1.handled=none:=I.ok.hd hcm;have hne:p≠s.heap.objs.size:=by
  obtain ⟨o,e,_⟩:=pl.isList;exact aAH (aAu e)
 have hlen:its.length=ys.length:=by rw [← r'.length];simp [bls]
 refine call_all_walk (wpAny_pyIter_list pl.isList ⟨s.heap.objs.size,_,_,_,_,_,fun i=>ys.getD i true,rfl,Walks.list hh _ p hne its.toArray,⟨⟨_,aAz _ rfl,rfl,rfl⟩,pl.isList.at fun o e=>aAe _ e⟩,?_,?_⟩)
 ·intro i v s' Q' E' hv hQ;have hv':its[i]?=some v:=by simpa using hv
  have hi:i < ys.length:=by
   rw [← hlen];exact (aAk.mp hv').1
  have e1:(bls ys)[i]?=some (V.bl ys[i]):=by simp [bls,hi]
  obtain ⟨u,hu,ru⟩:=r'.get e1;rw [hv'] at hu;obtain rfl:=Option.some.inj hu
  cases ru
  refine wpAny_truthy_bool ?_;have e2:ys.getD i true=ys[i]:=by simp [aAL,hi]
  have hQ':Q' (ys.getD i true) s':=hQ;rw [e2] at hQ';exact hQ'
 ·intro h' tk kk;have e3:(List.range its.toArray.size).all (fun i=>ys.getD i true)=ys.all id:=by
   rw [aAw,hlen];rw [aAY,aAO,aAO]
   constructor
   ·intro g x hx;obtain ⟨i,hi,rfl⟩:=List.mem_iff_getElem.mp hx;have:=g i (aBz.mpr hi)
    simpa [aAL,hi] using this
   ·intro g i hi;have hi':=aBz.mp hi;have:=g ys[i] (aBL hi')
    simpa [aAL,hi'] using this
  rw [e3];refine ⟨.bl _,H,?_,rfl,q⟩;have I1:Inv X pins σ H { s with heap:=s.heap.push { cls:=.type "list_iterator",data:=.fields #[.ref p,.int 0 0] } }:=I.kept (t':=s.toks) fun b o e=>aAe _ e;exact I.kept (t':=tk) fun b o e=>kk b o (by
   intro z;have z':b=s.heap.objs.size:=by simpa using z
   exact absurd (aAu e) (by rw [z'];exact aAR _)) (aAe _ e)
end
section
variable {X:Cx}
theorem jN (ns:List Int):∀ n,n≤ns.length→preSum (fun i=>ns.getD i 0) n=(ns.take n).sum
 | 0,_=>by simp [preSum]
 | n+1,h=>by
  have hn:n < ns.length:=h;rw [preSum,jN ns n (aBa hn),aAC,List.sum_append];simp [aAL,hn]
theorem uY:bB X (.builtin "sum") (fun xs H Q=>∃ (p:Addr) (ns:List Int),xs=[.ref p]∧X.calm=true∧SqL X.K H p (ns.map V.int)∧Q (.int ns.sum) H):=by
 intro pins s σ H xs us Q I r h;obtain ⟨p,ns,rfl,hcm,hq,q⟩:=h;obtain ⟨u,rfl,rx⟩:=dE r
 cases rx
 obtain ⟨its,r',pl,hz⟩:=I.list hq;have hh:X.A.in1.handled=none:=I.ok.hd hcm;have hlt:p < s.heap.objs.size:=by
  obtain ⟨o,e,_⟩:=pl.isList;exact aAu e
 have hne:p≠s.heap.objs.size:=aAH hlt;have hlen:its.length=ns.length:=by rw [← r'.length];simp
 refine call_sum_walkG (wpAny_pyIter_list pl.isList ⟨s.heap.objs.size,_,_,_,_,_,fun i=>ns.getD i 0,rfl,Walks.list hh _ p hne its.toArray,⟨⟨_,aAz _ rfl,rfl,rfl⟩,pl.isList.at fun o e=>aAe _ e⟩,?_,?_,?_⟩)
 ·intro b hb;have hb':b=s.heap.objs.size∨b=p:=by simpa using hb
  show b < (s.heap.push _).objs.size;rw [aA2];rcases hb' with e | e
  ·exact e ▸ aA9 _
  ·exact Nat.lt_succ_of_lt (e ▸ hlt)
 ·intro i v hv;have hv':its[i]?=some v:=by simpa using hv
  have hi:i < ns.length:=by
   rw [← hlen];exact (aAk.mp hv').1
  have e1:(ns.map V.int)[i]?=some (V.int ns[i]):=by simp [hi]
  obtain ⟨u,hu,ru⟩:=r'.get e1;rw [hv'] at hu;obtain rfl:=Option.some.inj hu;obtain ⟨t,rfl⟩:=ru;exact ⟨t,by simp [aAL,hi]⟩
 ·intro h' tk t' kk;have e3:preSum (fun i=>ns.getD i 0) its.toArray.size=ns.sum:=by
   rw [aAw,hlen,jN ns _ (aAp _),aBs]
  rw [e3];refine ⟨.int _,H,?_,⟨_,rfl⟩,q⟩;exact I.kept (t':=tk) fun b o e=>kk b o (by
   intro z;have z':b=s.heap.objs.size:=by simpa using z
   exact absurd (aAu e) (by rw [z'];exact aAR _)) (aAe _ e)
def HA:V→Option Int→Option Int→Hp→VK→Prop:=fun x lo hi H Q=>∃ z,x=.str z∧z.length≤sizeLine∧Q (.str (Txt.slice z lo hi)) H
theorem sl_str:SlR X HA:=by
 intro pins s σ H x v vl vu lo hi sl Q I rx hs pl pu h;obtain ⟨z,rfl,hz,q⟩:=h;obtain ⟨t,rfl⟩:=rx;refine ⟨"str",_,F.slot_str_getitem.lookup,typeIs_str _ _ _,?_⟩;have fin:∀ t' k,EP X pins σ Q (.str (Txt.slice z lo hi) t') { s with toks:=k }:=fun t' k=>⟨.str _,H,I.tok k,⟨t',rfl⟩,q⟩
 cases pl with
 | none =>
  cases pu with
  | none=>exact wpAny_getItem_str_slice (l:=none) (u:=none) (st:=none) hs rfl (post_val_or_str ⟨aAA (Txt.slice_le z _ _) hz,fun t' k=>fin t' k⟩)
  | int j uj=>exact wpAny_getItem_str_slice (l:=none) (u:=some (j,uj)) (st:=none) hs rfl (post_val_or_str ⟨aAA (Txt.slice_le z _ _) hz,fun t' k=>fin t' k⟩)
 | int i ui =>
  cases pu with
  | none=>exact wpAny_getItem_str_slice (l:=some (i,ui)) (u:=none) (st:=none) hs rfl (post_val_or_str ⟨aAA (Txt.slice_le z _ _) hz,fun t' k=>fin t' k⟩)
  | int j uj=>exact wpAny_getItem_str_slice (l:=some (i,ui)) (u:=some (j,uj)) (st:=none) hs rfl (post_val_or_str ⟨aAA (Txt.slice_le z _ _) hz,fun t' k=>fin t' k⟩)
end
theorem ag {H:Hp} {p:Addr} (h:H p=none) (o:HO):Same H (upd H p o):=fun b u q=>by rw [ac (ah q h)];exact q
def But (r:Addr) (H H':Hp):Prop:=∀ b o,b≠r→H b=some o→H' b=some o
theorem But.refl (r:Addr) (H:Hp):But r H H:=fun _ _ _ h=>h
theorem But.trans {r:Addr} {H H1 H2:Hp} (a:But r H H1) (b:But r H1 H2):But r H H2:=fun c o n h=>b c o n (a c o n h)
theorem But.same {r:Addr} {H H1:Hp} (a:Same H H1):But r H H1:=fun c o _ h=>a c o h
theorem But.put {r:Addr} {H:Hp} {o:HO}:But r H (upd H r o):=fun c u n h=>by rw [ac n];exact h
theorem But.seq {K:W.Frag} {r:Addr} {H H':Hp} {a:Addr} {xs:List V} (e:But r H H') (n:a≠r) (h:SqL K H a xs):SqL K H' a xs:=by
 rcases h with (h | ⟨o,h⟩) | h
 ·exact .inl (.inl (e _ _ n h))
 ·exact .inl (.inr ⟨o,e _ _ n h⟩)
 ·exact .inr h
theorem But.tup {K:W.Frag} {r:Addr} {H H':Hp} {a:Addr} {xs:List V} (e:But r H H') (n:a≠r) (h:SqT K H a xs):SqT K H' a xs:=by
 rcases h with (h | ⟨o,h⟩) | h
 ·exact .inl (.inl (e _ _ n h))
 ·exact .inl (.inr ⟨o,e _ _ n h⟩)
 ·exact .inr h
theorem Same.tup {K:W.Frag} {H H':Hp} {a:Addr} {xs:List V} (e:Same H H') (h:SqT K H a xs):SqT K H' a xs:=by
 rcases h with (h | ⟨o,h⟩) | h
 ·exact .inl (.inl (e _ _ h))
 ·exact .inl (.inr ⟨o,e _ _ h⟩)
 ·exact .inr h
theorem cs0 {X:Cx} {scope:Scope} {NL:List Str} (h1:scope.kind=.function) (h2:(scope.names.all fun x=>x.2 != .cell && x.2 != .free)=true)
  (h3:∀ x∈scope.names,x.2=.local→scope.names.lookup x.1=some .local):CScope X scope NL [] NL:=by
 rw [aAO] at h2;refine ⟨h1,fun x hx e=>?_,h3,fun x hx e=>?_,by simp,fun j hj=>by simp at hj⟩
 ·have:=h2 x hx;rw [e] at this;exact absurd this (by decide)
 ·have:=h2 x hx;rw [e] at this;exact absurd this (by decide)
theorem pe {z:Str} {l:Addr} {g:TG} {tb:List V→Addr→St→Hp→(List V→St→Hp→Prop)→Prop} {Q:VK} {σ0:St} {H0:Hp} (Pv:Nat→List V→St→Hp→Prop) (h0:Pv 0 [] σ0 H0)
  (hs:∀ i c ys σ H (N:List V→St→Hp→Prop),z.cps[i]?=some c→Pv i ys σ H→(∀ ys' σ' H',Pv (i+1) ys' σ' H'→N ys' σ' H')→g (.str ⟨#[c]⟩) σ H fun σ2 H2=>tb ys l σ2 H2 N)
  (hd:∀ ys σ H,Pv z.cps.size ys σ H→Q (.ref l) H) :
  ∃ W:Nat→Nat→List V→St→Hp→Prop,(∃ m,W 0 m [] σ0 H0)∧∀ i m ys σ' H',W i m ys σ' H'→((Its z).stop i H'∧Q (.ref l) H') ∨
   ((Its z).go i H'∧∀ x H'',(Its z).yld i H' x H''→g x σ' H'' fun σ2 H2=>tb ys l σ2 H2 fun ys' σ3 H3=>∃ m',m' < m∧W (i+1) m' ys' σ3 H3):=by
 refine ⟨fun i m ys σ H=>m=z.cps.size - i∧i≤z.cps.size∧Pv i ys σ H,⟨z.cps.size,by simp,aAD _,h0⟩,?_⟩;rintro i m ys σ H ⟨rfl,hi,p⟩
 by_cases hlt:i < z.cps.size
 ·refine .inr ⟨hlt,fun x H' y=>?_⟩;obtain ⟨e,c,hc,rfl⟩:=y;subst e;exact hs i c ys σ _ _ hc p fun ys' σ' H' q=>⟨_,by lia,rfl,hlt,q⟩
 ·have e:i=z.cps.size:=by lia
  subst e;exact .inl ⟨rfl,hd ys σ H p⟩
theorem qM {lo:Int} {n:Nat} {l:Addr} {g:TG} {tb:List V→Addr→St→Hp→(List V→St→Hp→Prop)→Prop} {Q:VK} {σ0:St} {H0:Hp} (Pv:Nat→List V→St→Hp→Prop) (h0:Pv 0 [] σ0 H0)
  (hs:∀ i ys σ H (N:List V→St→Hp→Prop),i < n→Pv i ys σ H→(∀ ys' σ' H',Pv (i+1) ys' σ' H'→N ys' σ' H')→g (.int (lo+i)) σ H fun σ2 H2=>tb ys l σ2 H2 N)
  (hd:∀ ys σ H,Pv n ys σ H→Q (.ref l) H) :
  ∃ W:Nat→Nat→List V→St→Hp→Prop,(∃ m,W 0 m [] σ0 H0)∧∀ i m ys σ' H',W i m ys σ' H'→((Itr lo n).stop i H'∧Q (.ref l) H') ∨
   ((Itr lo n).go i H'∧∀ x H'',(Itr lo n).yld i H' x H''→g x σ' H'' fun σ2 H2=>tb ys l σ2 H2 fun ys' σ3 H3=>∃ m',m' < m∧W (i+1) m' ys' σ3 H3):=by
 refine ⟨fun i m ys σ H=>m=n - i∧i≤n∧Pv i ys σ H,⟨n,by simp,aAD _,h0⟩,?_⟩;rintro i m ys σ H ⟨rfl,hi,p⟩
 by_cases hlt:i < n
 ·refine .inr ⟨hlt,fun x H' y=>?_⟩;obtain ⟨e,rfl⟩:=y;subst e;exact hs i ys σ _ _ hlt p fun ys' σ' H' q=>⟨_,by lia,rfl,hlt,q⟩
 ·have e:i=n:=by lia
  subst e;exact .inl ⟨aAp _,hd ys σ H p⟩
theorem tK {K:W.Frag} {a:Addr} {xs:List V} {l:Addr} {g:TG} {tb:List V→Addr→St→Hp→(List V→St→Hp→Prop)→Prop} {Q:VK} {σ0:St} {H0:Hp} (Pv:Nat→List V→St→Hp→Prop) (h0:Pv 0 [] σ0 H0) (hl:∀ i ys σ H,i≤xs.length→Pv i ys σ H→SqL K H a xs)
  (hs:∀ i x ys σ H (N:List V→St→Hp→Prop),xs[i]?=some x→Pv i ys σ H→(∀ ys' σ' H',Pv (i+1) ys' σ' H'→N ys' σ' H')→g x σ H fun σ2 H2=>tb ys l σ2 H2 N)
  (hd:∀ ys σ H,Pv xs.length ys σ H→Q (.ref l) H) :
  ∃ W:Nat→Nat→List V→St→Hp→Prop,(∃ m,W 0 m [] σ0 H0)∧∀ i m ys σ' H',W i m ys σ' H'→((Itl K a).stop i H'∧Q (.ref l) H') ∨
   ((Itl K a).go i H'∧∀ x H'',(Itl K a).yld i H' x H''→g x σ' H'' fun σ2 H2=>tb ys l σ2 H2 fun ys' σ3 H3=>∃ m',m' < m∧W (i+1) m' ys' σ3 H3):=by
 refine ⟨fun i m ys σ H=>m=xs.length - i∧i≤xs.length∧Pv i ys σ H,⟨xs.length,by simp,aAD _,h0⟩,?_⟩;rintro i m ys σ H ⟨rfl,hi,p⟩;have q:=hl i ys σ H hi p
 by_cases hlt:i < xs.length
 ·refine .inr ⟨⟨xs,xs[i],q,by simp [hlt]⟩,fun x H' y=>?_⟩;obtain ⟨e,y⟩:=y;subst e;exact hs i x ys σ _ _ (y xs q) p fun ys' σ' H' q=>⟨_,by lia,rfl,hlt,q⟩
 ·have e:i=xs.length:=by lia
  subst e;exact .inl ⟨⟨xs,q,aAp _⟩,hd ys σ H p⟩
theorem uZ {K:W.Frag} {a:Addr} {xs:List V} {l:Addr} {g:TG} {tb:List V→Addr→St→Hp→(List V→St→Hp→Prop)→Prop} {Q:VK} {σ0:St} {H0:Hp} (Pv:Nat→List V→St→Hp→Prop) (h0:Pv 0 [] σ0 H0) (hl:∀ i ys σ H,i≤xs.length→Pv i ys σ H→SqT K H a xs)
  (hs:∀ i x ys σ H (N:List V→St→Hp→Prop),xs[i]?=some x→Pv i ys σ H→(∀ ys' σ' H',Pv (i+1) ys' σ' H'→N ys' σ' H')→g x σ H fun σ2 H2=>tb ys l σ2 H2 N)
  (hd:∀ ys σ H,Pv xs.length ys σ H→Q (.ref l) H) :
  ∃ W:Nat→Nat→List V→St→Hp→Prop,(∃ m,W 0 m [] σ0 H0)∧∀ i m ys σ' H',W i m ys σ' H'→((Itt K a).stop i H'∧Q (.ref l) H') ∨
   ((Itt K a).go i H'∧∀ x H'',(Itt K a).yld i H' x H''→g x σ' H'' fun σ2 H2=>tb ys l σ2 H2 fun ys' σ3 H3=>∃ m',m' < m∧W (i+1) m' ys' σ3 H3):=by
 refine ⟨fun i m ys σ H=>m=xs.length - i∧i≤xs.length∧Pv i ys σ H,⟨xs.length,by simp,aAD _,h0⟩,?_⟩;rintro i m ys σ H ⟨rfl,hi,p⟩;have q:=hl i ys σ H hi p
 by_cases hlt:i < xs.length
 ·refine .inr ⟨⟨xs,xs[i],q,by simp [hlt]⟩,fun x H' y=>?_⟩;obtain ⟨e,y⟩:=y;subst e;exact hs i x ys σ _ _ (y xs q) p fun ys' σ' H' q=>⟨_,by lia,rfl,hlt,q⟩
 ·have e:i=xs.length:=by lia
  subst e;exact .inl ⟨⟨xs,q,aAp _⟩,hd ys σ H p⟩
theorem ke {X:Cx} {x:Str} {i:Int} {t:Tok} {pos:Pos} (hg:Gl X x) (hm:X.mg x=some (.int i t)) (hd:(x == ("__debug__" : Str))=false:=by decide):PE X (.Name x pos) (tC (.int i)):=m4 hg hm ⟨_,rfl⟩ hd
theorem bv {X:Cx} {x z:Str} {t:Tok} {pos:Pos} (hg:Gl X x) (hm:X.mg x=some (.str z t)) (hd:(x == ("__debug__" : Str))=false:=by decide):PE X (.Name x pos) (tC (.str z)):=m4 hg hm ⟨_,rfl⟩ hd
theorem iy {X:Cx} {x:Str} {a:Addr} {pos:Pos} (hg:Gl X x) (hm:X.mg x=some (.ref a)) (hd:(x == ("__debug__" : Str))=false:=by decide):PE X (.Name x pos) (tC (.ref a)):=m4 hg hm rfl hd
theorem nv {X:Cx} {x:Str} {n:String} {pos:Pos} (hg:Gl X x) (hm:X.mg x=none) (hv:bootBuiltins x=some (.type n)) (hn:x≠ "__name__" :=by decide) (hd:(x == ("__debug__" : Str))=false:=by decide):PE X (.Name x pos) (tC (.ty n)):=wD hg hm hv rfl hn hd
structure Gn (K:W.Frag) (mg:Str→Option Value) (x:Str) (st:Stmt) (ps:List Str) (f:Addr) (fd:FuncData):Prop where
 F:Fun K x x st f fd
 b:Binds K fd ps []
 m:mg x=some (.ref f)
inductive Dt where
 | non | bl (b:Bool) | int (i:Int) | str (z:Str) | tup (l:List Dt)
mutual
inductive IsD (K:W.Frag) (H:Hp):Dt→V→Prop
 | non:IsD K H .non .non
 | bl {b}:IsD K H (.bl b) (.bl b)
 | int {i}:IsD K H (.int i) (.int i)
 | str {z}:IsD K H (.str z) (.str z)
 | tup {l:List Dt} {a:Addr} {xs:List V}:SqT K H a xs→IsDs K H l xs→IsD K H (.tup l) (.ref a)
inductive IsDs (K:W.Frag) (H:Hp):List Dt→List V→Prop
 | nil:IsDs K H [] []
 | cons {d:Dt} {l:List Dt} {x:V} {xs:List V}:IsD K H d x→IsDs K H l xs→IsDs K H (d :: l) (x :: xs)
end
mutual
def Dt.dep:Dt→Nat
 | .tup l=>cA l+1
 | _=>0
def cA:List Dt→Nat
 | []=>0
 | d :: l=>max d.dep (cA l)
end
mutual
def eqD:Dt→Dt→Bool
 | .non,.non=>true
 | .bl a,.bl b=>a == b
 | .bl a,.int i=>(if a then 1 else 0) == i
 | .int i,.bl a=>i == (if a then 1 else 0)
 | .int i,.int j=>i == j
 | .str x,.str y=>x == y
 | .tup l,.tup m=>iz l m
 | _,_=>false
def iz:List Dt→List Dt→Bool
 | [],[]=>true
 | d :: l,e :: m=>eqD d e && iz l m
 | _,_=>false
end
mutual
def Dt.plain:Dt→Bool
 | .bl _=>false
 | .tup l=>kD l
 | _=>true
def kD:List Dt→Bool
 | []=>true
 | d :: l=>d.plain && kD l
end
mutual
theorem eI:∀ d:Dt,eqD d d=true
 | .non=>rfl
 | .bl a=>by simp [eqD]
 | .int i=>by simp [eqD]
 | .str z=>by simp [eqD]
 | .tup l=>by simp only [eqD];exact mC l
theorem mC:∀ l:List Dt,iz l l=true
 | []=>rfl
 | d :: l=>by simp only [iz,eI d,mC l,Bool.and_self]
end
mutual
theorem AN:∀ d e:Dt,d.plain=true→e.plain=true→eqD d e=true→d=e
 | .non,e,_,_,h=>by cases e <;> simp_all [eqD]
 | .bl _,_,h,_,_=>by simp [Dt.plain] at h
 | .int i,e,_,he,h=>by cases e <;> simp_all [eqD,Dt.plain]
 | .str z,e,_,_,h=>by cases e <;> simp_all [eqD]
 | .tup l,e,hd,he,h=>by
  cases e with
  | tup m=>rw [rN l m (by simpa [Dt.plain] using hd) (by simpa [Dt.plain] using he) (by simpa [eqD] using h)]
  | _=>simp [eqD] at h
theorem rN:∀ l m:List Dt,kD l=true→kD m=true→iz l m=true→l=m
 | [],[],_,_,_=>rfl
 | [],_ :: _,_,_,h=>by simp [iz] at h
 | _ :: _,[],_,_,h=>by simp [iz] at h
 | d :: l,e :: m,hl,hm,h=>by
  simp only [kD,aAB] at hl hm;simp only [iz,aAB] at h;rw [AN d e hl.1 hm.1 h.1,rN l m hl.2 hm.2 h.2]
end
section
variable {K:W.Frag} {H H':Hp}
mutual
theorem IsD.same (g:Same H H'):∀ {d:Dt} {v:V},IsD K H d v→IsD K H' d v
 | _,_,.non=>.non
 | _,_,.bl=>.bl
 | _,_,.int=>.int
 | _,_,.str=>.str
 | _,_,.tup h r=>.tup (g.tup h) (IsDs.same g r)
theorem IsDs.same (g:Same H H'):∀ {l:List Dt} {xs:List V},IsDs K H l xs→IsDs K H' l xs
 | _,_,.nil=>.nil
 | _,_,.cons h r=>.cons (IsD.same g h) (IsDs.same g r)
end
theorem u0 {a r:Addr} {xs ys:List V} (hr:H r=some (.lst ys)) (h:SqT K H a xs):a≠r∨∀ H'',SqT K H'' a xs:=by
 rcases h with (h | ⟨o,h⟩) | h
 ·exact .inl (mn h hr (by intro z;cases z))
 ·exact .inl (mn h hr (by intro z;cases z))
 ·exact .inr fun _=>.inr h
mutual
theorem IsD.but {r:Addr} {ys:List V} (hr:H r=some (.lst ys)) (g:But r H H'):∀ {d:Dt} {v:V},IsD K H d v→IsD K H' d v
 | _,_,.non=>.non
 | _,_,.bl=>.bl
 | _,_,.int=>.int
 | _,_,.str=>.str
 | _,_,.tup h q=>.tup (by
   rcases u0 hr h with n | n
   ·exact g.tup n h
   ·exact n _) (IsDs.but hr g q)
theorem IsDs.but {r:Addr} {ys:List V} (hr:H r=some (.lst ys)) (g:But r H H'):∀ {l:List Dt} {xs:List V},IsDs K H l xs→IsDs K H' l xs
 | _,_,.nil=>.nil
 | _,_,.cons h q=>.cons (IsD.but hr g h) (IsDs.but hr g q)
end
theorem IsDs.length {l:List Dt} {xs:List V} (h:IsDs K H l xs):l.length=xs.length:=by
 induction l generalizing xs with
 | nil=>cases h;rfl
 | cons d l ih=>cases h with | cons _ r=>simp [ih r]
theorem IsDs.get {l:List Dt} {xs:List V} (h:IsDs K H l xs) {i:Nat} {d:Dt} (e:l[i]?=some d):∃ x,xs[i]?=some x∧IsD K H d x:=by
 induction l generalizing xs i with
 | nil=>simp at e
 | cons c l ih =>
  cases h with
  | cons h r =>
   cases i with
   | zero=>simp at e;subst e;exact ⟨_,rfl,h⟩
   | succ i=>exact ih r (by simpa using e)
end
section
variable {X:Cx} {pins:List (Addr×Obj)} {σ:St} {H:Hp} {s:Shared}
mutual
theorem IsD.inj (I:Inv X pins σ H s):∀ {d e:Dt} {v:V},IsD X.K H d v→IsD X.K H e v→d=e
 | _,_,_,.non,.non=>rfl
 | _,_,_,.bl,.bl=>rfl
 | _,_,_,.int,.int=>rfl
 | _,_,_,.str,.str=>rfl
 | _,_,_,.tup h r,.tup h' r'=>by
  have e:=I.tuple_inj h h';subst e;rw [IsDs.inj I r r']
theorem IsDs.inj (I:Inv X pins σ H s):∀ {l m:List Dt} {xs:List V},IsDs X.K H l xs→IsDs X.K H m xs→l=m
 | _,_,_,.nil,.nil=>rfl
 | _,_,_,.cons h r,.cons h' r'=>by rw [IsD.inj I h h',IsDs.inj I r r']
end
theorem kE:∀ (l m:List Dt),iz l m=((List.range (min l.length m.length)).all (fun j=>eqD (l.getD j .non) (m.getD j .non)) && l.length == m.length)
 | [],[]=>rfl
 | [],_ :: _=>by simp [iz]
 | _ :: _,[]=>by simp [iz]
 | d :: l,e :: m=>by
  simp only [iz,aAb];rw [kE l m,Nat.succ_min_succ,List.range_succ_eq_map,aA7,aBM];have e1:(l.length+1 == m.length+1)=(l.length == m.length):=by
   rw [aAY];simp
  rw [e1,Bool.and_assoc]
  rfl
theorem kF:∀ {l:List Dt} {j:Nat},j < l.length→(l.getD j .non).dep≤cA l
 | [],_,h=>by simp at h
 | d :: l,0,_=>by simp only [List.getD_cons_zero,cA];lia
 | d :: l,j+1,h=>by
  have q:=@kF l j (by simpa using h);simp only [List.getD_cons_succ,cA];lia
theorem Inv.tup' (I:Inv X pins σ H s) {a:Addr} {xs:List V} (h:SqT X.K H a xs):∃ its:List Value,Vals xs its∧s.heap.IsTuple a its.toArray:=by
 obtain ⟨its,r,p,_⟩:=I.tuple h;exact ⟨its,r,p⟩
theorem mD (A:Around):A.in1.units=A.units+1:=by
 first | rfl | simp [Around.in1]
theorem AO (I:Inv X pins σ H s):∀ (n:Nat) (d e:Dt) (x y:V) (u v:Value) (A:Around),d.dep≤n→IsD X.K H d x→IsD X.K H e y→RelV x u→RelV y v→A.units+n < cLine →
  SeqAt.EqAt A s u v (eqD d e)∧SeqAt.RcAt A s u v (eqD d e)∧SeqAt.RcNeAt A s u v (!eqD d e):=by
 intro n
 induction n with
 | zero =>
  intro d e x y u v A hd hx hy rx ry hu;have hu0:A.units < cLine:=by lia
  cases hx with
  | tup h r=>simp [Dt.dep] at hd
  | non =>
   cases rx
   cases hy with
   | non=>cases ry;exact ⟨.same _,.none_none,.none_none⟩
   | bl=>cases ry;exact ⟨.none_bool _,.none_bool _,.none_bool _⟩
   | int=>obtain ⟨t,rfl⟩:=ry;exact ⟨.none_int _ _,.none_int _ _,.none_int _ _⟩
   | str=>obtain ⟨t,rfl⟩:=ry;exact ⟨.none_str _ _,.none_str _ _,.none_str _ _⟩
   | tup h r=>cases ry;obtain ⟨its,_,p⟩:=I.tup' h;exact ⟨.none_tuple p hu0,.none_tuple p hu0,.none_tuple p hu0⟩
  | bl =>
   cases rx
   cases hy with
   | non=>cases ry;exact ⟨.bool_none _,.bool_none _,.bool_none _⟩
   | bl=>cases ry;exact ⟨.bool_bool _ _,.bool_bool _ _,.bool_bool _ _⟩
   | int=>obtain ⟨t,rfl⟩:=ry;exact ⟨.bool_int _ _ _,.bool_int _ _ _,.bool_int _ _ _⟩
   | str=>obtain ⟨t,rfl⟩:=ry;exact ⟨.bool_str _ _ _,.bool_str _ _ _,.bool_str _ _ _⟩
   | tup h r=>cases ry;obtain ⟨its,_,p⟩:=I.tup' h;exact ⟨.bool_tuple _ p hu0,.bool_tuple _ p hu0,.bool_tuple _ p hu0⟩
  | int =>
   obtain ⟨t0,rfl⟩:=rx
   cases hy with
   | non=>cases ry;exact ⟨.int_none _ _,.int_none _ _,.int_none _ _⟩
   | bl=>cases ry;exact ⟨.int_bool _ _ _,.int_bool _ _ _,.int_bool _ _ _⟩
   | int=>obtain ⟨t,rfl⟩:=ry;exact ⟨.int_int _ _ _ _,.int_int _ _ _ _,.int_int _ _ _ _⟩
   | str=>obtain ⟨t,rfl⟩:=ry;exact ⟨.int_str _ _ _ _,.int_str _ _ _ _,.int_str _ _ _ _⟩
   | tup h r=>cases ry;obtain ⟨its,_,p⟩:=I.tup' h;exact ⟨.int_tuple _ _ p hu0,.int_tuple _ _ p hu0,.int_tuple _ _ p hu0⟩
  | str =>
   obtain ⟨t0,rfl⟩:=rx
   cases hy with
   | non=>cases ry;exact ⟨.str_none _ _,.str_none _ _,.str_none _ _⟩
   | bl=>cases ry;exact ⟨.str_bool _ _ _,.str_bool _ _ _,.str_bool _ _ _⟩
   | int=>obtain ⟨t,rfl⟩:=ry;exact ⟨.str_int _ _ _ _,.str_int _ _ _ _,.str_int _ _ _ _⟩
   | str=>obtain ⟨t,rfl⟩:=ry;exact ⟨.str_str _ _ _ _,.str_str _ _ _ _,.str_str _ _ _ _⟩
   | tup h r=>cases ry;obtain ⟨its,_,p⟩:=I.tup' h;exact ⟨.str_tuple _ _ p hu0,.str_tuple _ _ p hu0,.str_tuple _ _ p hu0⟩
 | succ n ih =>
  intro d e x y u v A hd hx hy rx ry hu;have hu0:A.units < cLine:=by lia
  cases hx with
  | tup h r =>
   rename_i l a xs
   cases rx
   cases hy with
   | non=>cases ry;obtain ⟨its,_,p⟩:=I.tup' h;exact ⟨.tuple_none p hu0,.tuple_none p hu0,.tuple_none p hu0⟩
   | bl=>cases ry;obtain ⟨its,_,p⟩:=I.tup' h;exact ⟨.tuple_bool _ p hu0,.tuple_bool _ p hu0,.tuple_bool _ p hu0⟩
   | int=>obtain ⟨t,rfl⟩:=ry;obtain ⟨its,_,p⟩:=I.tup' h;exact ⟨.tuple_int _ _ p hu0,.tuple_int _ _ p hu0,.tuple_int _ _ p hu0⟩
   | str=>obtain ⟨t,rfl⟩:=ry;obtain ⟨its,_,p⟩:=I.tup' h;exact ⟨.tuple_str _ _ p hu0,.tuple_str _ _ p hu0,.tuple_str _ _ p hu0⟩
   | tup h' r' =>
    rename_i m b ys
    cases ry
    obtain ⟨its,q,p⟩:=I.tup' h;obtain ⟨its',q',p'⟩:=I.tup' h';have l1:its.length=l.length:=by rw [← q.length,← r.length]
    have l2:its'.length=m.length:=by rw [← q'.length,← r'.length]
    have he:∀ j (h1:j < its.toArray.size) (h2:j < its'.toArray.size),SeqAt.EqAt A.in1 s its.toArray[j] its'.toArray[j] (eqD (l.getD j .non) (m.getD j .non)):=by
     intro j h1 h2;have j1:j < l.length:=by simpa [l1] using h1
     have j2:j < m.length:=by simpa [l2] using h2
     obtain ⟨x1,ex,dx⟩:=r.get (i:=j) (d:=l.getD j .non) (by simp [aAL,j1]);obtain ⟨y1,ey,dy⟩:=r'.get (i:=j) (d:=m.getD j .non) (by simp [aAL,j2]);obtain ⟨u1,eu,ru⟩:=q.get ex;obtain ⟨v1,ev,rv⟩:=q'.get ey;have e1:its.toArray[j]=u1:=by
      have:its[j]?=some its[j]:=by simp [l1,j1]
      rw [this] at eu
      simpa using Option.some.inj eu
     have e2:its'.toArray[j]=v1:=by
      have:its'[j]?=some its'[j]:=by simp [l2,j2]
      rw [this] at ev
      simpa using Option.some.inj ev
     rw [e1,e2];have hdl:cA l≤n:=by simp only [Dt.dep] at hd;lia
     exact (ih _ _ _ _ _ _ A.in1 (aAA (kF j1) hdl) dx dy ru rv (by rw [mD];lia)).1
    have ev:eqD (.tup l) (.tup m)=((List.range (min its.toArray.size its'.toArray.size)).all (fun j=>eqD (l.getD j .non) (m.getD j .non)) && its.toArray.size == its'.toArray.size):=by
     simp only [eqD,aAw,l1,l2];exact kE l m
    rw [ev];refine ⟨?_,SeqAt.RcAt.tuples p p' hu0 he,SeqAt.RcNeAt.tuples p p' hu0 he⟩
    by_cases hab:a=b
    ·subst hab;have e3:=I.tuple_inj h h';subst e3;have e4:=IsDs.inj I r r';subst e4;rw [← ev,eI];exact .same _
    ·exact .of_refs hab (SeqAt.RcAt.tuples p p' hu0 he)
  | non=>exact ih _ _ _ _ _ _ A (by simp [Dt.dep]) .non hy rx ry (by lia)
  | bl=>exact ih _ _ _ _ _ _ A (by simp [Dt.dep]) .bl hy rx ry (by lia)
  | int=>exact ih _ _ _ _ _ _ A (by simp [Dt.dep]) .int hy rx ry (by lia)
  | str=>exact ih _ _ _ _ _ _ A (by simp [Dt.dep]) .str hy rx ry (by lia)
def Gz (K:W.Frag):R2:=fun x y H Q=>∃ d e,IsD K H d x∧IsD K H e y∧d.dep≤60∧Q (.bl (eqD d e)) H
def GA (K:W.Frag):R2:=fun x y H Q=>∃ d e,IsD K H d x∧IsD K H e y∧d.dep≤60∧Q (.bl (!eqD d e)) H
theorem AQ (hu:X.A.units+64 < cLine):OpR X (compareOp .Eq) (Gz X.K):=by
 intro pins s σ H x y v u Q I rx ry h;obtain ⟨d,e,hd,he,hn,q⟩:=h;exact (AO I 60 d e x y v u X.A hn hd he rx ry (by lia)).2.1 _ _ _ _ ⟨.bl _,H,I,rfl,q⟩
theorem AR (hu:X.A.units+64 < cLine):OpR X (compareOp .NotEq) (GA X.K):=by
 intro pins s σ H x y v u Q I rx ry h;obtain ⟨d,e,hd,he,hn,q⟩:=h;exact (AO I 60 d e x y v u X.A hn hd he rx ry (by lia)).2.2 _ _ _ _ ⟨.bl _,H,I,rfl,q⟩
end
end L2
namespace PySem.W
open PySem PySem.Spec PyProof.Rows PySem.Calls
structure ExcK (K:Frag) (C:Addr):Prop where
 ga:findIn K (.ref C) "__getattribute__" = some (some (.builtin "BaseException.__getattribute__"))
 gt:findIn K (.ref C) "__getattr__" = some none
 cl:findIn K (.ref C) "__class__" = some (some (.builtin "object.__class__"))
 sb:mroIn K C (.type "BaseException")=some true
 so:mroIn K C (.type "object")=some true
 cd:∃ c,clsIn K C=some c
section
variable {prog:Program} {w:World} {A:Around} {E:Value→Shared→Prop} {h:Heap} {g:Array GenState} {d:Drawn} {t:Nat} {os:OsState} {a C:Addr} {o:Obj} {K:Frag}
end
end PySem.W
namespace L2
open PySem PySem.Spec PyProof.Rows
abbrev bmV:List Value:=[.type "ValueError",.type "Exception",.type "BaseException",.type "object"]
structure ExC (K:W.Frag) (mg:Str→Option Value) (x:Str) (C:Addr):Prop where
 m:mg x=some (.ref C)
 q:W.excIn K C bmV "ValueError.__new__" = true
 k:W.ExcK K C
 kp:W.keepIn K (.ref C)=true
theorem wU {K:W.Frag} {h:Heap} {C:Addr} {bmB:List Value} {newId:String} (X:K.In h) (q:W.excIn K C bmB newId=true) :
  ∃ bm N nm qn bs hd sn sub ab col dd k0 k1 k2 k3 k5 mN,h.get? C=some (excClassObj nm qn C N bs bm hd sn sub ab col dd k0 k1 k2 k3 k5 newId)∧h.Ns N mN∧mN "__init__" = none∧OwnTail h bmB bm:=by
 unfold W.excIn at q
 split at q
 case h_2=>cases q
 case h_1 dd cd sl ho =>
  split at q
  case h_2=>cases q
  case h_1 C' bm k0 k1 k2 k3 n k5 hm hs =>
   simp only [aAB,beq_iff_eq,aBH] at q;obtain ⟨⟨⟨⟨⟨q1,q2⟩,q3⟩,q4⟩,q5⟩,q6⟩:=q;subst q1 q2;obtain ⟨nm,bs,mro,ns,qn,hd,sn,sub,ab,col,del⟩:=cd;dsimp only at hm q3 q5 q6;subst hm q3;obtain ⟨l⟩:=sl;dsimp only at hs;subst hs;exact ⟨bm,ns,nm,qn,bs,hd,sn,sub,ab,col,dd,k0,k1,k2,k3,k5,_,X _ _ ho,.of_isNs (W.isNs_of_in X q5),W.nsMap_none_of_in X q5 q6,W.tail_of_in X q4⟩
section
variable {X:Cx} {pins:List (Addr×Obj)} {σ:St} {H:Hp} {s:Shared}
end
def CXE (P:Program) (w:World):CXT:=fun outer H s E e s'=>∃ (ea C:Addr) (a0:Value) (B:Heap) (H':Hp),e=.ref ea∧Heap.FlyingW B outer ea (.ref C) a0 s'.heap∧s'.os=s.os∧AllBare s'.gens∧Un (frs outer) [] H H' s.heap s'.heap∧HOk P w H' B ∧
 (∀ b o,s.heap.get? b=some o→H b=none→b∉frs outer→B.get? b=some o)∧(∀ b o,s.heap.get? b=some o→b∉frs outer→∃ o',B.get? b=some o')∧E (.ref C) none H'
theorem u3 {fs:List Addr} {H H1:Hp} {h h1 h' B:Heap} (u:Un fs [] H H1 h h1) (c1:∀ b o,h.get? b=some o→H b=none→b∉fs→B.get? b=some o) (c2:∀ b o,h.get? b=some o→b∉fs→∃ o',B.get? b=some o')
  (st:B.StaysIn h') (c3:∀ b o,h.get? b=some o→b∈fs→∃ sl,h'.get? b=some { o with slots:=sl }):Un fs [] H H1 h h' where
 keep:=fun b o q n hb _=>st b o (c1 b o q n hb)
 slot:=fun b o q n hb _=>c3 b o q hb
 free:=u.free
 there:=fun b o q hx=>by
  by_cases hb:b∈fs
  ·obtain ⟨sl,e⟩:=c3 b o q hb;exact ⟨_,e⟩
  ·obtain ⟨o',e⟩:=c2 b o q hb;exact ⟨o',st b o' e⟩
 tups:=u.tups
 frzs:=u.frzs
 tbls:=u.tbls
section
variable {X:Cx} {pins:List (Addr×Obj)} {σ:St} {H:Hp} {s:Shared}
theorem u4 {base h:Heap} {l:List Env} {b:Addr} (f:h.FunFrames base l) (hb:b∈frs l):∃ o,h.get? b=some o∧∀ vs,o.data≠.fields vs:=by
 obtain ⟨_,o,ho,hn⟩:=f.mem hb;exact ⟨o,ho,hn⟩
def AS (C:Addr) (E:XK) (t:TA):TS:=fun _ σ H=>t σ H fun xs H1=>xs.length≤sizeLine∧E (.ref C) none H1
end
section
variable {X:Cx} {pins:List (Addr×Obj)} {σ:St} {H:Hp} {s:Shared}
end
section
variable {X:Cx} {a b c d:Expr} {ta tb tc td:TE} {pos:Pos}
end
section
variable {X:Cx}
end
theorem csR {X:Cx} {scope sc:Scope} {NL N N':List Str} {ρ:List Nat} (hsc:X.env.scope=sc) (hN:X.N=N) (h1:scope.kind=.function) (h2:(scope.names.all fun x=>x.2 != .cell)=true) (h3:∀ x∈scope.names,x.2=.local→scope.names.lookup x.1=some .local)
  (h4:(scope.names.all fun x=>x.2 != .free || sc.names.lookup x.1 == some .cell)=true) (h5:N'=NL++ρ.map fun j=>N.getD j "")
  (h6:(ρ.all fun j=>match N[j]? with | some x=>scope.names.lookup x == some .free && sc.names.lookup x == some .cell | none=>false)=true):CScope X scope NL ρ N':=by
 rw [aAO] at h2 h4 h6;refine ⟨h1,fun x hx e=>?_,h3,fun x hx e=>.inl ?_,by rw [hN];exact h5,fun j hj=>?_⟩
 ·have:=h2 x hx;rw [e] at this;exact absurd this (by decide)
 ·have z:=h4 x hx;rw [e] at z;have z2:(sc.names.lookup x.1 == some NameKind.cell)=true:=by simpa using z
  show X.env.scope.names.lookup x.1=some .cell;rw [hsc];exact beq_iff_eq.mp z2
 ·have z:=h6 j hj
  cases q:N[j]? with
  | none=>rw [q] at z;cases z
  | some x =>
   rw [q] at z;simp only [aAB,beq_iff_eq] at z;exact ⟨x,by rw [hN];exact q,z.1,.inl (by rw [hsc];exact z.2)⟩
structure RoomH (k:Nat) (A:Around):Prop where
 dp:A.depth+3*k+5 < recursionLimit
 un:A.units+16*k+200 < cLine
structure FnOkH (P:Program) (w:World) (K:W.Frag) (mg:Str→Option Value) (base:Heap) (k:Nat) (f:Addr) (fd:FuncData) (ps:List Str) (sp:Sp):Prop where
 len:∀ vs H Q E,sp vs H Q E→vs.length=ps.length
 run:∀ (A:Around) (outer:List Env) (s:Shared) (H:Hp) (args:Args) (us:List Value) (vs:List V) (Q:VK) (E:XK),RoomH k A→Env0 P w K mg base A outer s H→BindsTo s fd args (ps.zip us)→Vals vs us→sp vs H Q E →
  codeAny (model P w) A (.call (.ref f) args) (CR CX0 outer P w H s Q E) s
section
variable {X:Cx}
end
end L2
namespace HT
open PySem PySem.Spec PyProof.Rows
section
variable {prog:Program} {w:World} {A:Around} {E:Value→Shared→Prop} {s:Shared}
theorem cat_nil {t b:Addr} {ws:List Value} {Q:Value→Shared→Prop} (ht:IsTup s.heap t ([]:List Value).toArray) (hb:IsTup s.heap b ws.toArray) (h:Q (.ref b) s):wpAny (model prog w) A (binaryOp .Add (.ref t) (.ref b)) Q E s:=by
 obtain ⟨⟨cls,dd,data,sl⟩,ho,hc,n,hd⟩:=id ht;obtain ⟨⟨cls2,dd2,data2,sl2⟩,ho2,hc2,n2,hd2⟩:=id hb;simp only at hc hd hc2 hd2;subst hc hd hc2 hd2;exact concat_meets ⟨_,ho,rfl⟩ ⟨_,ho2,rfl⟩ noFill_tuple_add seq_tuple_add PySem.F.slot_tuple_add PySem.F.entry_tuple_add (PySem.F.args_tuple_add_2 _ _) (tuple_addW0 t b _ ws.toArray n n2 dd dd2 sl sl2 (by rfl)) ⟨ho,ho2,h⟩
theorem getItem_tuple_all {t sl:Addr} {items:Array Value} {vl vu:Value} {lo hi:Option Int} {Q:Value→Shared→Prop} (ht:IsTup s.heap t items) (hs:s.heap.IsSliceOf sl vl vu .none) (pl:IsPart vl lo) (pu:IsPart vu hi)
  (h1:sIx items.size 0 lo=0) (h2:sIx items.size items.size hi=items.size) (h:Q (.ref t) s):wpAny (model prog w) A (getItem (.ref t) (.ref sl)) Q E s:=by
 obtain ⟨os,hos,hcs,hds⟩:=id hs;have hTs:s.TypeIs (.ref sl) "slice" :=⟨os,hos,hcs⟩;unfold getItem
 try with_reducible refine wpAny_holding ?_
 first | refine wpAny_bind (wpAny_pure ?_) | skip
 refine wpAny_bind (wpAny_sequenceKey ht.typeIs (by decide) ?_);refine wpAny_bind (wpAny_callSpecial?_slot (name:=Str.ofString "__getitem__") ht.typeIs PyProof.Rows.slot_tuple_getitem (wpAny_call_entry PyProof.Rows.slot_tuple_getitem ht.typeIs entry_tuple_getitem ?_ (args_tuple_getitem _ _)));show wpAny _ _ (Builtin.Tuple.tupleItemsOf (.ref t) >>= _) _ _ s;refine wpAny_bind (tupleItemsOf_ ht ?_);refine wpAny_bind (wpAny_typeOf hTs ?_);rw [if_pos (by decide)];refine wpAny_bind (eH hs pl pu ?_);have hyes:(((sIx items.size 0 lo:Nat):Int) == 0 && (1:Int) == 1 && (sIx items.size items.size hi - sIx items.size 0 lo) == items.size)=true:=by
  rw [h1,h2];simp
 show wpAny _ _ (if (((sIx items.size 0 lo:Nat):Int) == 0 && (1:Int) == 1 && (sIx items.size items.size hi - sIx items.size 0 lo) == items.size)=true then _ else _) _ _ s;rw [if_pos hyes];refine wpAny_bind (m:=Builtin.Tuple.tupleIsExact _) (wpAny_bind (wpAny_typeOf ht.typeIs ?_));refine wpAny_pure ?_;rw [if_pos (by decide)];exact wpAny_bind (wpAny_rule (wpAny_pure ⟨_,rfl,wpAny_pure h⟩))
end
end HT
namespace L2
open PySem PySem.Spec PyProof.Rows
section
variable {X:Cx}
theorem IsD.unref {K:W.Frag} {H:Hp} {l:List Dt} {v:V} (h:IsD K H (.tup l) v):∃ a xs,v=.ref a∧SqT K H a xs∧IsDs K H l xs:=by
 cases h with
 | tup h r=>exact ⟨_,_,rfl,h,r⟩
def tL (l:List Dt) (lo hi:Option Int):List Dt:=(l.drop (HT.sIx l.length 0 lo)).take (HT.sIx l.length l.length hi - HT.sIx l.length 0 lo)
theorem wV:IxR X (fun x y H Q=>∃ l i d,IsD X.K H (.tup l) x∧y=.int i∧atI l i=some d∧∀ v,IsD X.K H d v→Q v H):=by
 intro value slice pins s σ H x y v u Q I rx ry h hs;obtain ⟨l,i,d,dx,rfl,ha,q⟩:=h;obtain ⟨a,xs,rfl,hx,ra⟩:=id dx.unref;obtain ⟨j,hj,hd,_⟩:=iu ha;have e1:=ra.length;obtain ⟨w',hw,dw⟩:=ra.get hd;have hat:atI xs i=some w':=by
  unfold atI at ha ⊢;rw [← e1]
  cases z:ixN l.length i with
  | none=>rw [z] at ha;cases ha
  | some j' =>
   rw [z] at ha;have ha':l[j']?=some d:=ha;obtain ⟨w2,hw2,dw2⟩:=ra.get ha';have z2:=kb z;rw [hj] at z2;have:j=j':=Option.some.inj z2.1;subst this;exact hw
 exact uO value slice pins s σ H (.ref a) (.int i) v u Q I rx ry ⟨a,xs,i,w',rfl,rfl,hx,hat,q w' dw⟩ hs
theorem tM:bB X (.builtin "len") (fun xs H Q=>∃ x l,xs=[x]∧IsD X.K H (.tup l) x∧Q (.int l.length) H):=by
 intro pins s σ H xs us Q I r h;obtain ⟨x,l,rfl,dx,q⟩:=h;obtain ⟨a,ys,rfl,hx,ra⟩:=dx.unref;exact iw pins s σ H [.ref a] us Q I r ⟨a,ys,rfl,.inr hx,by rw [← ra.length];exact q⟩
end
end L2
namespace PySem
open Sem (wp)
section
variable {M:Model} {A:Around} {E:Value→Shared→Prop} {s:Shared}
def Heap.MadeB (base:Heap) (l:List Env) (e:Addr) (cls a0:Value) (h:Heap):Prop :=
 base.StaysIn h∧base.get? e=none∧h.FunFrames base l∧∃ oe vs,h.get? e=some oe∧oe.cls=cls∧oe.data=.fields vs∧vs[0]?=some a0∧vs[1]?=some .none
theorem tN {base:Heap} {env:Env} {outer:List Env} {L e:Addr} {cls a0:Value} {Q:Unit→Shared→Prop} (hfr:A.frames=some (env :: outer)) (hf:env.frame=some L) (hm:Heap.MadeB base (env :: outer) e cls a0 s.heap)
  (h:∀ h',Heap.HeldW base (env :: outer) e cls a0 L h'→s.heap.UpToSlots h'→Q () { s with heap:=h' }):wpAny M A (noteFrame (.ref e) env) Q E s:=by
 obtain ⟨hkb,hen,hl,oe,vs,he,hc,hd,h0,h1⟩:=hm;subst hc;unfold noteFrame;simp only [hf];refine wpAny_bind (wpAny_field he hd h1 ?_);rw [if_neg (by decide)];refine wpAny_entryW hfr hl hf he hkb hen hd (aBG.mp h1).1 h0 fun h' hN=>?_;obtain ⟨k1,k2,k3,k4⟩:=hN;exact h h' ⟨k1,hen,k2,k3⟩ k4
theorem qN {base:Heap} {env:Env} {outer:List Env} {L e:Addr} {cls a0:Value} {Q:Unit→Shared→Prop} (hfr:A.frames=some (env :: outer)) (hf:env.frame=some L) (hm:Heap.MadeB base (env :: outer) e cls a0 s.heap)
  (h:∀ h',Heap.FlyingW base outer e cls a0 h'→s.heap.UpToSlots h'→Q () { s with heap:=h' }):wpAny M A (leaving env (.ref e)) Q E s:=by
 obtain ⟨hkb,hen,hl,oe,vs,he,hc,hd,h0,h1⟩:=hm;subst hc;refine wpAny_leaving_firstW hfr hl hf he hkb hen hd h1 h0 fun h' hL=>?_;obtain ⟨k1,⟨_,_,k2⟩,k3,k4⟩:=hL;exact h h' ⟨k1,hen,k2,k3⟩ k4
theorem tO {base:Heap} {l:List Env} {e L:Addr} {cls a0:Value} {env:Env} {E2:Value→Shared→Prop} (hf:env.frame=some L) (R:Heap.HeldW base l e cls a0 L s.heap) (h:∀ h',Heap.HeldW base l e cls a0 L h'→s.heap.UpToSlots h'→E2 (.ref e) { s with heap:=h' }) :
  cameBackBy M A env E2 (.ref e) s:=by
 obtain ⟨hkb,hen,hl,oe,vs,T,oT,ts,he,hcls,hd,h1,hnT,hTe,hT,hdT,h3⟩:=R;have hsz3:3 < ts.size:=(aBG.mp h3).1;have other:∀ b,b≠T→∀ f:Obj→Obj,(s.heap.update T f).get? b=s.heap.get? b:=fun b hb f=>aBr _ _ (Ne.symm hb);have noRec:∀ b o,s.heap.get? b=some o→(∀ vs,o.data≠.fields vs)→b≠T:=fun b o hb hnf q=>by
  rw [q,hT] at hb
  cases hb
  exact hnf ts hdT
 unfold cameBackBy;refine wpAny_bind (wpAny_field he hd h1 ?_);rw [if_neg (show ¬ ((Value.ref T == Value.none)=true) from by simp)];unfold setFlight;refine wpAny_bind (wpAny_field he hd h1 ?_);rw [if_pos (show (Value.ref T != Value.none)=true from by simp)];refine wpAny_setField hT hdT hsz3 (h _ ⟨fun b o hbo=>(other b (fun q=>by rw [q,hnT] at hbo;cases hbo) _).trans (hkb b o hbo),hen,
  hl.of_keeps fun b o hb hnf=>⟨o,(other b (noRec b o hb hnf) _).trans hb,rfl⟩,?_⟩ fun b o hb hnf=>⟨o.slots,(other b (noRec b o hb hnf) _).trans hb⟩)
 exact ⟨oe,vs,T,_,_,(other e (Ne.symm hTe) _).trans he,hcls,hd,h1,hnT,hTe,aBu _ hT (Obj.isFreed_of_fields (Obj.data_mapFields hdT _)),Obj.data_mapFields hdT _,by simp [hsz3,hf]⟩
end
end PySem
namespace L2
open PySem PySem.Spec PyProof.Rows
def jf (X:Cx) (E:XK):Value→Shared→Prop:=fun e s'=>∃ (ea C:Addr) (a0:Value) (B:Heap) (H':Hp),e=.ref ea ∧
 (Heap.FlyingW B (X.env :: X.outer) ea (.ref C) a0 s'.heap∨Heap.HeldW B (X.env :: X.outer) ea (.ref C) a0 X.env.locals s'.heap∨Heap.MadeB B (X.env :: X.outer) ea (.ref C) a0 s'.heap)∧s'.os=X.s₀.os∧AllBare s'.gens ∧
 Un (frs X.outer) [] X.H₀ H' X.s₀.heap s'.heap∧HOk X.prog X.w H' B∧(∀ b o,X.s₀.heap.get? b=some o→X.H₀ b=none→b∉frs X.outer→B.get? b=some o) ∧
 (∀ b o,X.s₀.heap.get? b=some o→b∉frs X.outer→∃ o',B.get? b=some o')∧E (.ref C) none H'
section
variable {X:Cx} {E:XK}
theorem kf {H':Hp} {B h h2:Heap} (frf:∀ b∈frs X.outer,X.H₀ b=none) (u:Un (frs X.outer) [] X.H₀ H' X.s₀.heap h) (F:h.FunFrames B (X.env :: X.outer)) (up:h.UpToSlots h2) (st:B.StaysIn h2)
  (c1:∀ b o,X.s₀.heap.get? b=some o→X.H₀ b=none→b∉frs X.outer→B.get? b=some o) (c2:∀ b o,X.s₀.heap.get? b=some o→b∉frs X.outer→∃ o',B.get? b=some o'):Un (frs X.outer) [] X.H₀ H' X.s₀.heap h2:=by
 refine u3 u c1 c2 st fun b o e hb=>?_;obtain ⟨sl,e1⟩:=u.slot b o e (frf b hb) hb (by simp);have mem:b∈frs (X.env :: X.outer):=by
  obtain ⟨env,he,hf⟩:=aAK.mp hb;exact aAK.mpr ⟨env,aAg _ he,hf⟩
 obtain ⟨o2,e2,nf⟩:=u4 F mem;rw [e1] at e2;obtain rfl:=Option.some.inj e2;obtain ⟨sl2,e3⟩:=up b _ e1 nf;exact ⟨sl2,e3⟩
theorem iA {A:Around} (hA:A.frames=some (X.env :: X.outer)) (hfr:X.env.frame=some X.env.locals) (frf:∀ b∈frs X.outer,X.H₀ b=none):PassesOwn (model X.prog X.w) A X.env (jf X E):=by
 intro e s' h;obtain ⟨ea,C,a0,B,H',rfl,st,os,bare,un,hok,c1,c2,q⟩:=h;have fin:∀ {s2:Shared},s2.os=X.s₀.os→AllBare s2.gens→Un (frs X.outer) [] X.H₀ H' X.s₀.heap s2.heap→Heap.HeldW B (X.env :: X.outer) ea (.ref C) a0 X.env.locals s2.heap→cameBackBy (model X.prog X.w) A X.env (jf X E) (.ref ea) s2:=fun {s2} o2 b2 u2 hh =>
  tO hfr hh fun h' hh' up=>⟨ea,C,a0,B,H',rfl,.inr (.inl hh'),o2,b2,kf frf u2 hh.2.2.1 up hh'.1 c1 c2,hok,c1,c2,q⟩
 rcases st with fl | hh | hm
 ·exact wpAny_looks_onW hA hfr fl fun h' hh up=>fin (s2:={ s' with heap:=h' }) os bare (kf frf un fl.2.2.1 up hh.1 c1 c2) hh
 ·exact wpAny_noteFrame_againW hfr hh.2.2.2 (fin os bare un hh)
 ·exact tN hA hfr hm fun h' hh up=>fin (s2:={ s' with heap:=h' }) os bare (kf frf un hm.2.2.1 up hh.1 c1 c2) hh
theorem ph {A:Around} (hA:A.frames=some (X.env :: X.outer)) (hfr:X.env.frame=some X.env.locals) (frf:∀ b∈frs X.outer,X.H₀ b=none) {e:Value} {s':Shared} (h:jf X E e s') :
  wpAny (model X.prog X.w) A (leaving X.env e) (fun _ s''=>CXE X.prog X.w X.outer X.H₀ X.s₀ E e s'') (fun e' s''=>CXE X.prog X.w X.outer X.H₀ X.s₀ E e' s'') s':=by
 obtain ⟨ea,C,a0,B,H',rfl,st,os,bare,un,hok,c1,c2,q⟩:=h;have fin:∀ {h':Heap},s'.heap.FunFrames B (X.env :: X.outer)→Heap.FlyingW B X.outer ea (.ref C) a0 h'→s'.heap.UpToSlots h'→CXE X.prog X.w X.outer X.H₀ X.s₀ E (.ref ea) { s' with heap:=h' }:=fun {h'} F fl up =>
  ⟨ea,C,a0,B,H',rfl,fl,os,bare,kf frf un F up fl.1 c1 c2,hok,c1,c2,q⟩
 rcases st with fl | hh | hm
 ·exact wpAny_leaves_onW hA hfr fl fun h' fl' up=>fin fl.2.2.1 fl' up
 ·unfold leaving;refine wpAny_bind (wpAny_noteFrame_againW hfr hh.2.2.2 ?_);refine wpAny_landsW hh fun h' hfl up=>?_;obtain ⟨k1,k2,⟨_,_,k3⟩,k4⟩:=hfl;exact fin hh.2.2.1 ⟨k1,k2,k3,k4⟩ up
 ·exact qN hA hfr hm fun h' fl' up=>fin hm.2.2.1 fl' up
variable {pins:List (Addr×Obj)} {σ:St} {H:Hp} {s:Shared}
theorem tP {C:Addr} {ea:Addr} {vs:List Value} {h':Heap} {tk:Nat} (hstk:X.stack=X.env :: X.outer) (hfr:X.env.frame=some X.env.locals) (hex:X.ex=[]) (I:Inv X pins σ H s) (hm:Heap.MadeExcOf s.heap h' ea (.ref C) vs)
  (q:E (.ref C) none H):jf X E (.ref ea) { s with heap:=h',toks:=tk }:=by
 have F0:s.heap.FunFrames X.base (X.env :: X.outer):=by rw [← hstk];exact I.stack
 have mem:∀ b∈frs X.outer,b∈frs (X.env :: X.outer):=fun b hb=>by
  obtain ⟨env,he,hf⟩:=aAK.mp hb;exact aAK.mpr ⟨env,aAg _ he,hf⟩
 have inv:∀ b,b∈frs (X.env :: X.outer)→b=X.env.locals∨b∈frs X.outer:=fun b hb=>by
  obtain ⟨env,he,hf⟩:=aAK.mp hb;rcases aAm.mp he with rfl | he
  ·rw [hfr] at hf;exact .inl (Option.some.inj hf).symm
  ·exact .inr (aAK.mpr ⟨env,he,hf⟩)
 have hin:∀ env∈(X.env :: X.outer),∀ b,env.frame=some b→b∈frs (X.env :: X.outer):=fun env he b hb=>aAK.mpr ⟨env,he,hb⟩;have stayB:∀ b o,s.heap.get? b=some o→b∉frs (X.env :: X.outer)→(W.hideAll s.heap (frs (X.env :: X.outer))).get? b=some o:=fun b o e n=>W.hideAll_get _ e n;have old:∀ b o,X.s₀.heap.get? b=some o→b∉frs X.outer→b∉frs (X.env :: X.outer):=fun b o e n z=>by
  rcases inv b z with rfl | z
  ·exact absurd (aAj (aAu e) I.ok.above) (aAR _)
  ·exact n z
 have B0:Un X.fs [] X.H₀ H X.s₀.heap s.heap:=by have z:=I.base;rw [hex] at z;exact z
 have c1:∀ b o,X.s₀.heap.get? b=some o→X.H₀ b=none→b∉frs X.outer→(W.hideAll s.heap (frs (X.env :: X.outer))).get? b=some o:=fun b o e n hb=>stayB b o (B0.keep b o e n hb (by simp)) (old b o e hb);have c2:∀ b o,X.s₀.heap.get? b=some o→b∉frs X.outer→∃ o',(W.hideAll s.heap (frs (X.env :: X.outer))).get? b=some o':=fun b o e hb=>by
  obtain ⟨o',e'⟩:=B0.there b o e (by simp);exact ⟨o',stayB b o' e' (old b o e hb)⟩
 have FB:s.heap.FunFrames (W.hideAll s.heap (frs (X.env :: X.outer))) (X.env :: X.outer):=W.funFrames_hide F0 hin;obtain ⟨t,he,htn,ht⟩:=hm.there;have stays:(W.hideAll s.heap (frs (X.env :: X.outer))).StaysIn h':=fun b o e=>hm.keeps b o (W.of_hideAll _ e);have hen:(W.hideAll s.heap (frs (X.env :: X.outer))).get? ea=none:=by
  cases z:(W.hideAll s.heap (frs (X.env :: X.outer))).get? ea with
  | none=>rfl
  | some o =>
   have z2:=W.of_hideAll _ z;rw [hm.new] at z2
   cases z2
 refine ⟨ea,C,.ref t,_,H,rfl,.inr (.inr ⟨stays,hen,FB.of_keeps fun b o hb _=>⟨o,hm.keeps b o hb,rfl⟩,_,_,he,rfl,rfl,rfl,rfl⟩),I.os,I.bare,u3 B0 c1 c2 stays fun b o e hb=>?_,fun b u e=>?_,c1,c2,q⟩
 ·obtain ⟨sl,e1⟩:=B0.slot b o e (I.ok.frf b hb) hb (by simp);exact ⟨sl,hm.keeps b _ e1⟩
 ·refine (I.hok b u e).stay (fun c v hc z=>stayB c v z fun hf=>?_) (fun _ z=>z) fun _ _ z=>z;have n0:H c=none:=by rw [← hstk] at hf;exact I.stkFree c hf
  rcases hc with rfl | hc
  ·rw [e] at n0;cases n0
  ·rw [hc] at n0;cases n0
theorem ps_raiseW {x:Str} {C:Addr} {e:Expr} {es:List Expr} {t:TA} {np cpos pos:Pos} (hstk:X.stack=X.env :: X.outer) (hfr:X.env.frame=some X.env.locals) (hex:X.ex=[]) (hc:X.calm=true) (G:ExC X.K X.mg x C) (hg:Gl X x) (ha:PA (X.wish (jf X E)) (e :: es) t)
  (hdb:(x == ("__debug__" : Str))=false:=by decide) (he:starEach (e :: es) X.env=(false,eval e X.env) :: starEach es X.env:=by rfl) (hpl:(backTo cpos (starEach es X.env)).any (·.1)=false:=by rfl) :
  PS (X.wish (jf X E)) (.Raise (some (.Call (.Name x np) (e :: es) [] cpos)) none pos) (AS C E t):=by
 intro pins s σ H D I h;obtain ⟨bm,N,nm,qn,bs,hd,sn,sub,ab,col,dd,k0,k1,k2,k3,k5,mN,hC,hN,hni,T⟩:=wU (show X.K.In X.base from I.ok.mod.kin) G.q;refine wpAny_Raise_call_subT (C:=C) (nm:=nm) (q:=qn) (N:=N) (bs:=bs) (bm:=bm) (hdct:=hd) (sn:=sn) (sub:=sub) (ab:=ab) (col:=col) (dd:=dd) (k0:=k0) (k1:=k1) (k2:=k2) (k3:=k3) (k5:=k5) F.excBase_ValueError (mN:=mN) (T.hasType F.excBase_ValueError.hasBase) (I.ok.hd hc)
  (by show (backTo cpos (starEach (e :: es) X.env)).any (·.1)=false;rw [he];show (false || (backTo cpos (starEach es X.env)).any (·.1))=false;rw [hpl];rfl) hni (im I hg G.m ⟨rfl,?_⟩ hdb)
 have z:=ha cpos pins s σ H _ I h;have he':starEach (e :: es) (X.wish (jf X E)).env=(false,eval e (X.wish (jf X E)).env) :: starEach es (X.wish (jf X E)).env:=he;rw [he'] at z ⊢;refine Calls.evalArgs_plain (wpAny_mono z (fun us s2 ⟨vs,H2,I2,r,hz,q⟩=>?_) fun _ _ y=>y);refine ⟨rfl,by show us.length≤sizeLine;rw [← r.length];exact hz,I2.bk _ _ hC,hN.keeps I2.bk,T.keeps I2.bk,fun h' ea hm=>?_⟩;exact tP (tk:=s2.toks) hstk hfr hex (Inv.unwish I2) hm q
theorem wing_on (hstk:X.stack=X.env :: X.outer) (hfr:X.env.frame=some X.env.locals) (hex:X.ex=[]):fJ (CXE X.prog X.w) (X.wish (jf X E)) E:=by
 intro pins σ H s e s' I' h;have I:Inv X pins σ H s:=Inv.unwish I';obtain ⟨ea,C,a0,B,H',rfl,fl,os,bare,un,hok,c1,c2,q⟩:=h;have hstk':(X.wish (jf X E)).stack=X.env :: X.outer:=hstk;rw [hstk'] at fl un c1 c2;have inv:∀ b,b∈frs (X.env :: X.outer)→b=X.env.locals∨b∈frs X.outer:=fun b hb=>by
  obtain ⟨env,he,hf⟩:=aAK.mp hb;rcases aAm.mp he with rfl | he
  ·rw [hfr] at hf;exact .inl (Option.some.inj hf).symm
  ·exact .inr (aAK.mpr ⟨env,he,hf⟩)
 have mem:∀ b∈frs X.outer,b∈frs (X.env :: X.outer):=fun b hb=>by
  obtain ⟨env,he,hf⟩:=aAK.mp hb;exact aAK.mpr ⟨env,aAg _ he,hf⟩
 have old:∀ b o,X.s₀.heap.get? b=some o→b∉frs X.outer→b∉frs (X.env :: X.outer):=fun b o e n z=>by
  rcases inv b z with rfl | z
  ·exact absurd (aAj (aAu e) I.ok.above) (aAR _)
  ·exact n z
 have B0:Un X.fs [] X.H₀ H X.s₀.heap s.heap:=by have z:=I.base;rw [hex] at z;exact z
 have d1:∀ b o,X.s₀.heap.get? b=some o→X.H₀ b=none→b∉frs X.outer→B.get? b=some o:=fun b o e n hb=>c1 b o (B0.keep b o e n hb (by simp)) (B0.free b o e n (by simp)) (old b o e hb);have d2:∀ b o,X.s₀.heap.get? b=some o→b∉frs X.outer→∃ o',B.get? b=some o':=fun b o e hb=>by
  obtain ⟨o',e'⟩:=B0.there b o e (by simp);exact c2 b o' e' (old b o e hb)
 refine ⟨ea,C,a0,B,H',rfl,.inl fl,os.trans I.os,bare,?_,hok,d1,d2,q⟩;refine ⟨fun b o e n hb _=>?_,fun b o e n hb _=>?_,fun b o e n _=>?_,fun b o e _=>?_,fun b xs e=>un.tups b xs (B0.tups b xs e),fun b o u e=>un.frzs b o u (B0.frzs b o u e),fun b ps e=>?_⟩
 ·exact un.keep b o (B0.keep b o e n hb (by simp)) (B0.free b o e n (by simp)) (old b o e hb) (by simp)
 ·obtain ⟨sl,e1⟩:=B0.slot b o e n hb (by simp);obtain ⟨sl2,e2⟩:=un.slot b _ e1 (B0.free b o e n (by simp)) (mem b hb) (by simp);exact ⟨sl2,e2⟩
 ·obtain ⟨o',e'⟩:=B0.there b o e (by simp);exact un.free b o' e' (B0.free b o e n (by simp)) (by simp)
 ·obtain ⟨o',e'⟩:=B0.there b o e (by simp);exact un.there b o' e' (by simp)
 ·obtain ⟨m1,e1⟩:=B0.tbls b ps e;obtain ⟨m2,e2⟩:=un.tbls b _ e1;exact ⟨m1++m2,by rw [e2,aBC]⟩
end
theorem PSs.wing {X:Cx} {E:XK} {st:List Stmt} {t:TS} (hstk:X.stack=X.env :: X.outer) (hfr:X.env.frame=some X.env.locals) (hxe:X.xe=fun e s'=>wpAny (model X.prog X.w) X.A (leaving X.env e) (fun _ s''=>CXE X.prog X.w X.outer X.H₀ X.s₀ E e s'') (fun e' s''=>CXE X.prog X.w X.outer X.H₀ X.s₀ E e' s'') s')
  (h:PSs (X.wish (jf X E)) st t):PSs X st t:=fun pins s σ H D I hw =>
 wpAny_mono (h pins s σ H D (I.wish _) hw) (fun _ _ q=>q.unwish) fun e s' z=>by
  rw [hxe];exact ph (by rw [I.ok.frames,hstk]) hfr I.ok.frf z
theorem Fun.okW {P:Program} {w:World} {K:W.Frag} {mg:Str→Option Value} {base:Heap} {x qual:Str} {st:Stmt} {f:Addr} {fd:FuncData} {N ps:List Str} {k:Nat} {sp:Sp} (F:Fun K x qual st f fd) (S:FnScope N ps (ae st)) (len:∀ vs H Q E,sp vs H Q E→vs.length=ps.length)
  (hbody:∀ (cdv:Value) (A:Around) (outer:List Env) (s:Shared) (H:Hp) (vs:List V) (Q:VK) (E:XK),Room k (A.deeper (envOfC qual (ae st) s.heap.objs.size f cdv))→sp vs H Q E →
   ∃ t,PSs ((oR (CXE P w) P w K mg base N qual (ae st) f cdv A outer s H E).wish (jf (oR (CXE P w) P w K mg base N qual (ae st) f cdv A outer s H E) E)) (bH st) t∧t { nx:=fun _ H'=>Q .non H',rt:=Q } (ir N vs) H):FnOk P w K mg base (CXE P w) (k+1) f fd ps sp:=by
 obtain ⟨oc,od,kV,doc,pm,an,cdv,ct,osl,rfl,lk,hcd⟩:=F.ex;refine xO lk hcd S len fun A outer s H vs Q E hr hsp=>?_;obtain ⟨t,h,q⟩:=hbody cdv A outer s H vs Q E hr hsp;exact ⟨t,PSs.wing rfl rfl rfl h,q⟩
section
variable {κ:Type} [DecidableEq κ]
def gK (kvs:List (κ×V)) (k:κ):Option V:=(kvs.find? fun kv=>decide (kv.1=k)).map (·.2)
def jY (kvs:List (κ×V)) (k:κ) (v:V):List (κ×V) :=
 if (kvs.any fun kv=>decide (kv.1=k))=true then kvs.map (fun kv=>if kv.1=k then (kv.1,v) else kv) else kvs++[(k,v)]
theorem pi {p:κ×V} {r:List (κ×V)} {k:κ} (e:p.1=k):gK (p :: r) k=some p.2:=by simp [gK,aA4,e]
theorem pj {p:κ×V} {r:List (κ×V)} {k:κ} (e:¬ p.1=k):gK (p :: r) k=gK r k:=by simp [gK,aA4,e]
theorem pk (kvs:List (κ×V)) (k:κ) (v:V):(jY kvs k v).length≤kvs.length+1:=by
 unfold jY
 split
 ·rw [aAa];lia
 ·rw [aAc,aAb,aAn];lia
theorem KV.val {kvs:List (κ×V)} {vs:List (κ×Value)} (r:KV kvs vs) (k:κ):RelO (gK kvs k) (valueAt vs k):=by
 unfold KV at r
 induction r with
 | nil=>exact True.intro
 | @cons p q ps qs h t ih =>
  obtain ⟨h1,h2⟩:=h
  by_cases e:p.1=k
  ·have e':q.1=k:=h1.symm.trans e;have b:valueAt (q :: qs) k=some q.2:=by simp [valueAt,aA4,e']
   rw [pi e,b];exact h2
  ·have e':¬ q.1=k:=fun z=>e (h1.trans z);have b:valueAt (q :: qs) k=valueAt qs k:=by simp [valueAt,aA4,e']
   rw [pj e,b];exact ih
theorem KV.any {kvs:List (κ×V)} {vs:List (κ×Value)} (r:KV kvs vs) (k:κ):(kvs.any fun kv=>decide (kv.1=k))=vs.any fun kv=>decide (kv.1=k):=by
 unfold KV at r
 induction r with
 | nil=>rfl
 | cons h t ih=>rw [aBm,aBm,ih,h.1]
theorem KV.repl {kvs:List (κ×V)} {vs:List (κ×Value)} (r:KV kvs vs) (k:κ) {y:V} {u:Value} (ry:RelV y u) :
  KV (kvs.map fun kv=>if kv.1=k then (kv.1,y) else kv) (vs.map fun kv=>if kv.1=k then (kv.1,u) else kv):=by
 unfold KV at r ⊢
 induction r with
 | nil=>exact .nil
 | @cons p q ps qs h t ih =>
  rw [aAo,aAo];refine .cons ?_ ih;obtain ⟨h1,h2⟩:=h
  by_cases e:p.1=k
  ·rw [if_pos e,if_pos (h1.symm.trans e)];exact ⟨h1,ry⟩
  ·rw [if_neg e,if_neg (fun z=>e (h1.trans z))];exact ⟨h1,h2⟩
theorem KV.put {kvs:List (κ×V)} {vs:List (κ×Value)} (r:KV kvs vs) (k:κ) {y:V} {u:Value} (ry:RelV y u):KV (jY kvs k y) (stored vs k u):=by
 unfold jY stored;rw [r.any k]
 by_cases e:(vs.any fun kv=>decide (kv.1=k))=true
 ·rw [if_pos e,if_pos e];exact r.repl k ry
 ·rw [if_neg e,if_neg e];exact Paired.snoc r ⟨rfl,ry⟩
theorem KV.length {kvs:List (κ×V)} {vs:List (κ×Value)} (r:KV kvs vs):kvs.length=vs.length:=Paired.length r
end
theorem rO {P:Program} {w:World} {k:Key} {u:Value} (r:RelV (kV k) u):(aW P w).is k u=true:=by
 cases k with
 | inl i=>obtain ⟨t,e⟩:=(show ∃ t,u=Value.int i t from r);subst e;exact oN P w i t
 | inr x=>obtain ⟨t,e⟩:=(show ∃ t,u=Value.str x t from r);subst e;exact oO P w x t
theorem jg {P:Program} {w:World}:∀ {ks:List Key} {us:List Value},Vals (ks.map kV) us→ItemsAre (aW P w) ks us
 | [],_,r=>by rw [aA5] at r;cases r;exact .nil
 | k :: ks,_,r=>by
  rw [aAo] at r
  cases r with
  | cons h t=>exact .cons (rO h) (jg t)
abbrev KT (H:Hp):List (List Key×V)→List (List Key×Addr×Value)→Prop:=Paired fun p q=>p.1=q.1∧H q.2.1=some (.tup (p.1.map kV))∧RelV p.2 q.2.2
theorem KT.val {H:Hp} {kvs:List (List Key×V)} {xs:List (List Key×Addr×Value)} (r:KT H kvs xs) (k:List Key):RelO (gK kvs k) ((atKey xs k).map (·.2)):=by
 induction r with
 | nil=>exact True.intro
 | @cons p q ps qs h t ih =>
  obtain ⟨h1,_,h2⟩:=h
  by_cases e:p.1=k
  ·have e':q.1=k:=h1.symm.trans e;have b:atKey (q :: qs) k=some q.2:=by simp [atKey,aA4,e']
   rw [pi e,b];exact h2
  ·have e':¬ q.1=k:=fun z=>e (h1.trans z);have b:atKey (q :: qs) k=atKey qs k:=by simp [atKey,aA4,e']
   rw [pj e,b];exact ih
theorem KT.keeps {H H':Hp} {kvs:List (List Key×V)} {xs:List (List Key×Addr×Value)} (r:KT H kvs xs) (ht:∀ b ys,H b=some (.tup ys)→H' b=some (.tup ys)):KT H' kvs xs :=
 Paired.mapP r fun _ _ z=>⟨z.1,ht _ _ z.2.1,z.2.2⟩
section
variable {P:Program} {w:World} {H:Hp} {h:Heap} {a:Addr}
theorem xQ {u:HO} (ok:HOk P w H h) (e:Rd H a u):ObjOk P w H h a u:=e.ok ok
theorem u5 {kvs:List (Key×V)} (ok:HOk P w H h) (e:Rd H a (.dK kvs)):kvs.length≤sizeLine∧(a == sysModules)=false∧∃ vs,KV kvs vs∧h.DictOf (aW P w) a vs :=
 show ObjOk P w H h a (.dK kvs) from xQ ok e
theorem GB {kvs:List (Key×V)} (ok:HOk P w H h) (e:H a=some (.dK kvs)):kvs.length≤sizeLine∧(a == sysModules)=false∧∃ vs,KV kvs vs∧h.DictOf (aW P w) a vs:=u5 ok (.inl e)
theorem u6 {ks:List Key} (ok:HOk P w H h) (e:H a=some (.tup (ks.map kV))):(tupleKind (aW P w)).is h ks a:=by
 obtain ⟨_,its,r,o,h1,h2,n,h3⟩:=(show ObjOk P w H h a (.tup (ks.map kV)) from ok a _ e);exact ⟨o,its.toArray,n,h1,h2,h3,by simpa using jg r⟩
theorem xR {kvs:List (List Key×V)} (ok:HOk P w H h) (e:Rd H a (.dT kvs)):kvs.length≤sizeLine∧(a == sysModules)=false ∧
  ∃ xs,KT H kvs xs∧h.DictOfH (tupleKind (aW P w)) a xs:=by
 obtain ⟨z,y,xs,r,o,es,ep,h1,h2,h3,h4,h5⟩:=(show ObjOk P w H h a (.dT kvs) from xQ ok e);refine ⟨z,y,xs,r,o,es,ep,h1,h2,h3,h4,fun x hx=>?_,h5⟩;have all:∀ {l:List (List Key×V)} {m:List (List Key×Addr×Value)},KT H l m→∀ x∈m,(tupleKind (aW P w)).is h x.1 x.2.1:=by
  intro l m q
  induction q with
  | nil=>intro x hx;exact nomatch hx
  | @cons p q ps qs hq t ih =>
   intro x hx;rcases aAm.mp hx with e | hx
   ·subst e;exact u6 ok (by rw [← hq.1];exact hq.2.1)
   ·exact ih x hx
 exact all r x hx
end
def DGet (H:Hp) (a:Addr) (y:V) (r:Option V):Prop :=
 (∃ kvs k,Rd H a (.dK kvs)∧y=kV k∧r=gK kvs k)∨∃ kvs k b,Rd H a (.dT kvs)∧y=.ref b∧H b=some (.tup (k.map kV))∧r=gK kvs k
def DPut (H:Hp) (a:Addr) (y v:V) (H':Hp):Prop :=
 (∃ kvs k,H a=some (.dK kvs)∧y=kV k∧kvs.length < sizeLine∧H'=upd H a (.dK (jY kvs k v))) ∨
 ∃ kvs k b,H a=some (.dT kvs)∧y=.ref b∧H b=some (.tup (k.map kV))∧kvs.length < sizeLine∧H'=upd H a (.dT (jY kvs k v))
theorem DGet.k {H:Hp} {a:Addr} {kvs:List (Key×V)} {k:Key} (e:H a=some (.dK kvs)):DGet H a (kV k) (gK kvs k):=.inl ⟨kvs,k,.inl e,rfl,rfl⟩
theorem DGet.t {H:Hp} {a b:Addr} {kvs:List (List Key×V)} {k:List Key} (e:H a=some (.dT kvs)) (eb:H b=some (.tup (k.map kV))):DGet H a (.ref b) (gK kvs k):=.inr ⟨kvs,k,b,.inl e,rfl,eb,rfl⟩
theorem DPut.k {H:Hp} {a:Addr} {kvs:List (Key×V)} {k:Key} {v:V} (e:H a=some (.dK kvs)) (hl:kvs.length < sizeLine):DPut H a (kV k) v (upd H a (.dK (jY kvs k v))):=.inl ⟨kvs,k,e,rfl,hl,rfl⟩
theorem DPut.t {H:Hp} {a b:Addr} {kvs:List (List Key×V)} {k:List Key} {v:V} (e:H a=some (.dT kvs)) (eb:H b=some (.tup (k.map kV))) (hl:kvs.length < sizeLine) :
  DPut H a (.ref b) v (upd H a (.dT (jY kvs k v))):=.inr ⟨kvs,k,b,e,rfl,eb,hl,rfl⟩
section
variable {X:Cx} {pins:List (Addr×Obj)} {σ:St} {H:Hp} {s:Shared} {a:Addr} {y v:V} {u r:Value} {o:Option V} {A:Around} {E:Value→Shared→Prop}
theorem Inv.big (I:Inv X pins σ H s):sysModules < s.heap.objs.size:=by
 have h:mainGlobals < s.heap.objs.size:=(I.mod.glob.keeps I.bk).lt;exact aBN (by decide) h
theorem tQ {Q:Value→Shared→Prop} (hu:A.units+1 < cLine) (I:Inv X pins σ H s) (g:DGet H a y (some v)) (ry:RelV y u) (h:∀ w' s',Inv X pins σ H s'→RelV v w'→Q w' s') :
  wpAny (model X.prog X.w) A (getItem (.ref a) u) Q E s:=by
 rcases g with ⟨kvs,k,e,ey,l⟩ | ⟨kvs,k,b,e,ey,eb,l⟩
 ·subst ey;obtain ⟨z,hd,vs,rel,dd⟩:=u5 I.hok e;obtain ⟨w',hw,rw'⟩:=RelO.some_of (v:=v) (o:=valueAt vs k) (by rw [l];exact rel.val k);exact wpAny_getItem_of (rO ry) dd.mapOf hw (h w' _ (I.tok _) rw')
 ·subst ey
  cases (show u=Value.ref b from ry)
  obtain ⟨z,hd,xs,rel,dd⟩:=xR I.hok e;obtain ⟨w',hw,rw'⟩:=RelO.some_of (v:=v) (o:=(atKey xs k).map (·.2)) (by rw [l];exact rel.val k);obtain ⟨p,hp,hp2⟩:=aAh.mp hw;refine wpAny_getItem_heap (tupleKind_room_in1 hu) (u6 I.hok eb) dd hp ?_;rw [hp2];exact h w' _ (I.tok _) rw'
theorem wW {h':Heap} {t':Nat} {ob:HO} (I:Inv X pins σ H s) (mu:Mut (H a)) (hs:Heap.SameBut a s.heap h') (he:∃ q,h'.get? a=some q) (new:ObjOk X.prog X.w (upd H a ob) h' a ob) :
  Inv X pins σ (upd H a ob) { s with heap:=h',toks:=t' } :=
 I.write (x:=a) (e:=a) mu (.inl rfl) (fun b q hb z=>(hs.2 b hb).trans z) he new
theorem AT {P:Program} {w:World} {H':Hp} {h':Heap} {kvs:List (Key×V)} {vs:List (Key×Value)} (z:kvs.length≤sizeLine) (hd:(a == sysModules)=false) (rel:KV kvs vs) (dd:h'.DictOf (aW P w) a vs) :
  ObjOk P w H' h' a (.dK kvs):=⟨z,hd,vs,rel,dd⟩
end
section
variable {X:Cx} {pins:List (Addr×Obj)} {σ:St} {H:Hp} {s:Shared} {a:Addr} {kvs:List (Key×V)} {k:Key} {u:Value} {A:Around} {E:Value→Shared→Prop}
end
def AU (i:Expr):Prop:=∀ ov iv,subscripted i false ov iv=operate [ov,iv] (getItem ov iv)
theorem rP {prog:Program} {w:World} {A:Around} {E:Value→Shared→Prop} {s:Shared} {env:Env} {value slice:Expr} {pos:Pos} {T id:String} {Q:Value→Shared→Prop}
  (hl:typeLookup (.type T) "__getitem__" = pure (some (.builtin id))) (hs:AU slice)
  (h:wpAny (model prog w) A (eval value env) (fun o s₁=>wpAny (model prog w) A (eval slice env) (fun i s₂=>s₂.TypeIs o T∧wpAny (model prog w) A (getItem o i) Q E s₂) E s₁) E s) :
  wpAny (model prog w) A (eval (.Subscript value slice pos) env) Q E s:=by
 refine Subscript_ (wpAny_mono h (fun o s₁ h₁=>wpAny_mono h₁ (fun i s₂ h₂=>?_) fun _ _ x=>x) fun _ _ x=>x);obtain ⟨hT,h₂⟩:=h₂;unfold subscriptTail;refine wpAny_bind ?_;rw [getitemInPython_of_ne hT.not_modules];refine wpAny_bind (wpAny_specialOf hT hl ?_);have fin:wpAny (model prog w) A (subscripted slice false o i) (fun r s₃=>wpAny (model prog w) A (letTemporaryGo value o r >>= fun _=>pure r) Q E s₃) E s₂:=by
  rw [hs o i];exact wpAny_operating (wpAny_mono h₂ (fun r s₃ h₃=>wpAny_bind (wpAny_letTemporaryGo (wpAny_pure h₃))) fun _ _ x=>x)
 first
  | exact wpAny_pure (wpAny_bind fin)
  | exact wpAny_bind (wpAny_pure (wpAny_bind fin))
  | exact wpAny_bind fin
theorem pp {X:Cx} {pins:List (Addr×Obj)} {σ:St} {H:Hp} {s:Shared} {a:Addr} {y:V} {o:Option V} (I:Inv X pins σ H s) (g:DGet H a y o):s.TypeIs (.ref a) "dict" :=by
 rcases g with ⟨kvs,k,e,_,_⟩ | ⟨kvs,k,b,e,_,_,_⟩
 ·obtain ⟨_,_,vs,_,dd⟩:=u5 I.hok e;exact dd.typeIs
 ·obtain ⟨_,_,xs,_,dd⟩:=xR I.hok e;exact dd.typeIs
def GC (td ty:TE):TE:=fun σ H Q=>td σ H fun x H1=>ty σ H1 fun y H2=>∃ a v,x=.ref a∧DGet H2 a y (some v)∧Q v H2
section
variable {X:Cx} {o i e value:Expr} {pos pos' tpos:Pos} {td ty tv:TE}
theorem wX (hu:X.A.units+1 < cLine) (ho:PE X o td) (hi:PE X i ty) (hs:AU i):PE X (.Subscript o i pos) (GC td ty):=by
 intro pins s σ H Q I h;refine rP PySem.F.slot_dict_getitem.lookup hs (thn (ho pins s σ H _ I h) fun u s1 ⟨x,H1,I1,rx,q1⟩=>thn (hi pins s1 σ H1 _ I1 q1) fun iv s2 ⟨y,H2,I2,ry,a,v,ex,g,q2⟩=>?_);subst ex;obtain rfl:u=Value.ref a:=rx;exact ⟨pp I2 g,tQ hu I2 g ry fun w' s3 I3 rw'=>⟨v,H2,I3,rw',q2⟩⟩
end
theorem u7 {P:Program} {w:World} {H:Hp} (h:Heap) (hb:sysModules < h.objs.size):ObjOk P w H (h.push { cls:=.type "dict",data:=.dict #[] }) h.objs.size (.dK []) :=
 ⟨aAD _,beq_eq_false_iff_ne.mpr (Ne.symm (aAH hb)),[],.nil,Heap.DictOf.new h⟩
section
variable {X:Cx} {pos:Pos}
end
def qO:List (TE×TE)→St→Hp→(List (V×V)→Hp→Prop)→Prop
 | [],_,H,Q=>Q [] H
 | (tk,tv) :: r,σ,H,Q=>tk σ H fun x H1=>tv σ H1 fun y H2=>qO r σ H2 fun ps H3=>Q ((x,y) :: ps) H3
abbrev VV:List (V×V)→List (Value×Value)→Prop:=Paired fun p q=>RelV p.1 q.1∧RelV p.2 q.2
def PPs (X:Cx) (pos:Pos) (keys:List (Option Expr)) (values:List Expr) (trs:List (TE×TE)):Prop :=
 ∀ (pins:List (Addr×Obj)) (s:Shared) (σ:St) (H:Hp) (Q:List (V×V)→Hp→Prop),Inv X pins σ H s→qO trs σ H Q →
  wpAny (model X.prog X.w) X.A (evalPairs (pairTrees keys values X.env pos)) (fun vs s'=>∃ ps H',Inv X pins σ H' s'∧VV ps vs∧Q ps H') X.xe s
theorem wY {X:Cx} {pos:Pos}:PPs X pos [] [] []:=fun pins s σ H Q I h=>pairTrees_nil_walk ⟨[],H,I,.nil,h⟩
theorem kG {X:Cx} {pos:Pos} {k v:Expr} {ks:List (Option Expr)} {vs:List Expr} {tk tv:TE} {trs:List (TE×TE)} (hk:PE X k tk) (hv:PE X v tv) (hr:PPs X pos ks vs trs) :
  PPs X pos (some k :: ks) (v :: vs) ((tk,tv) :: trs):=fun pins s σ H Q I h =>
 pairTrees_cons_walk (thn (hk pins s σ H _ I h) fun u s1 ⟨x,H1,I1,rx,q1⟩=>thn (hv pins s1 σ H1 _ I1 q1) fun w2 s2 ⟨y,H2,I2,ry,q2⟩ =>
  thn (hr pins s2 σ H2 _ I2 q2) fun ws s3 ⟨ps,H3,I3,rel,q3⟩=>⟨(x,y) :: ps,H3,I3,.cons ⟨rx,ry⟩ rel,q3⟩)
def dF (kvs more:List (Key×V)):List (Key×V):=more.foldl (fun acc kv=>jY acc kv.1 kv.2) kvs
theorem KV.merge:∀ {more:List (Key×V)} {rs:List (Key×Value)} {kvs:List (Key×V)} {vs:List (Key×Value)},KV more rs→KV kvs vs→KV (dF kvs more) (merged vs rs):=by
 intro more rs kvs vs r;unfold KV at r
 induction r generalizing kvs vs with
 | nil=>intro q;exact q
 | @cons p q ps qs h t ih =>
  intro r0;have e:KV (jY kvs p.1 p.2) (stored vs q.1 q.2):=by
   have:=r0.put p.1 h.2;rw [← h.1];exact this
  exact ih e
theorem gN:∀ (more kvs:List (Key×V)),(dF kvs more).length≤kvs.length+more.length
 | [],kvs=>by show kvs.length≤kvs.length+0;lia
 | p :: r,kvs=>by
  have h1:=gN r (jY kvs p.1 p.2);have h2:=pk kvs p.1 p.2;show (dF (jY kvs p.1 p.2) r).length≤_;rw [aAb];lia
theorem kH {P:Program} {w:World}:∀ {kvs:List (Key×V)} {ws:List (Value×Value)},VV (kvs.map fun kv=>(kV kv.1,kv.2)) ws→∃ rs,Carries (aW P w) ws rs∧KV kvs rs
 | [],_,r=>by rw [aA5] at r;cases r;exact ⟨[],True.intro,.nil⟩
 | p :: kvs,_,r=>by
  rw [aAo] at r
  cases r with
  | @cons a b as bs h t =>
   obtain ⟨rs,c,q⟩:=kH (P:=P) (w:=w) t;obtain ⟨b1,b2⟩:=b;exact ⟨(p.1,b2) :: rs,⟨rO h.1,rfl,c⟩,.cons ⟨rfl,h.2⟩ q⟩
def GD (trs:List (TE×TE)):TE:=fun σ H Q=>∀ p,H p=none→qO trs σ (upd H p (.dK [])) fun ps H2=>H2 p=some (.dK [])∧∃ kvs:List (Key×V),ps=kvs.map (fun kv=>(kV kv.1,kv.2))∧kvs.length≤15∧Q (.ref p) (upd H2 p (.dK (dF [] kvs)))
theorem wZ {X:Cx} {pos:Pos} {keys:List (Option Expr)} {values:List Expr} {trs:List (TE×TE)} (h:PPs X pos keys values trs) (hall:keys.all (·.isSome)=true) (hl:keys.length=values.length) (h0:keys≠[])
  (h15:keys.length≤15):PE X (.Dict keys values pos) (GD trs):=by
 intro pins s σ H Q I q;have hn:=I.hok.fresh (aAp s.heap.objs.size);have I1:=I.laid (a:=s.heap.objs.size) (o:=.dK []) (h':=s.heap.push { cls:=.type "dict",data:=.dict #[] }) (t':=s.toks) (fun _ _ q=>aAe _ q) (aAp _) (u7 s.heap I.big);refine wpAny_Dict_walk (knd:=aW X.prog X.w) hall hl h0 h15 (thn (h pins _ σ _ _ I1 (q _ hn)) fun ws s2 ⟨ps,H2,I2,rel,e,kvs,ep,lk,q2⟩=>?_);subst ep;obtain ⟨rs,c,rk⟩:=kH (P:=X.prog) (w:=X.w) rel;obtain ⟨z,hd,vs0,r0,dd⟩:=GB I2.hok e
 cases r0
 refine ⟨rs,c,dd,fun h' dd' hs=>⟨.ref s.heap.objs.size,_,?_,rfl,q2⟩⟩;have hz:(dF [] kvs).length≤sizeLine:=by
  have h1:=gN kvs [];rw [aAn] at h1;rw [sizeLine_eq];lia
 have he:∃ q,h'.get? s.heap.objs.size=some q:=let ⟨q,_,_,hq,_⟩:=dd';⟨q,hq⟩;exact wW I2 (by rw [e];exact True.intro) hs he (AT hz hd (rk.merge .nil) dd')
section
variable {X:Cx} {pins:List (Addr×Obj)} {σ:St} {H:Hp} {s:Shared} {a:Addr} {y d:V} {u r:Value} {o:Option V} {A:Around} {E:Value→Shared→Prop}
end
section
variable {X:Cx} {o e f:Expr} {apos cpos:Pos} {td ty tx:TE}
end
section
variable {X:Cx} {pins:List (Addr×Obj)} {σ:St} {H:Hp} {s:Shared} {a:Addr} {kvs:List (Key×V)} {A:Around} {E:Value→Shared→Prop}
end
section
variable {X:Cx} {pins:List (Addr×Obj)} {σ:St} {H:Hp} {s:Shared} {a:Addr} {y:V} {u:Value} {A:Around} {E:Value→Shared→Prop}
end
end L2
namespace PySem
open Sem (wp)
namespace F
end F
end PySem
namespace PySem
open Sem (wp)
section
variable {prog:Program} {w:World} {K:Type} [DecidableEq K] {knd:KeyKind prog w K} {A:Around} {E:Value→Shared→Prop}
def Heap.PairItems (h:Heap) (knd:KeyKind prog w K) (items:Array Value) (kvs:List (K×Value)):Prop :=
 items.size=kvs.length∧∀ (i:Nat) (kv:K×Value),kvs[i]?=some kv→∃ (a:Addr) (key:Value),items[i]?=some (.ref a)∧h.IsTuple a #[key,kv.2]∧knd.is kv.1 key=true
theorem Heap.PairItems.stay {h h':Heap} {items:Array Value} {kvs:List (K×Value)} (x:h.PairItems knd items kvs) (k:∀ (i:Nat) (a:Addr) (o:Obj),items[i]?=some (.ref a)→h.get? a=some o→h'.get? a=some o):h'.PairItems knd items kvs :=
 ⟨x.1,fun i kv e=>by
  obtain ⟨a,key,e1,⟨o,e2,r⟩,e3⟩:=x.2 i kv e;exact ⟨a,key,e1,⟨o,k i a o e1 e2,r⟩,e3⟩⟩
end
end PySem
namespace L2
open PySem PySem.Spec PyProof.Rows
def Pl (H:Hp) (a:Addr):Prop:=∃ o u,H a=some (.frz o u)∧o.dict=none
mutual
inductive IsP (K:W.Frag) (H:Hp):Dt→V→Prop
 | non:IsP K H .non .non
 | bl {b}:IsP K H (.bl b) (.bl b)
 | int {i}:IsP K H (.int i) (.int i)
 | str {z}:IsP K H (.str z) (.str z)
 | tup {l:List Dt} {a:Addr} {xs:List V}:SqT K H a xs→Pl H a→IsPs K H l xs→IsP K H (.tup l) (.ref a)
inductive IsPs (K:W.Frag) (H:Hp):List Dt→List V→Prop
 | nil:IsPs K H [] []
 | cons {d:Dt} {l:List Dt} {x:V} {xs:List V}:IsP K H d x→IsPs K H l xs→IsPs K H (d :: l) (x :: xs)
end
section
variable {K:W.Frag} {H H':Hp}
mutual
theorem IsP.d:∀ {d:Dt} {v:V},IsP K H d v→IsD K H d v
 | _,_,.non=>.non
 | _,_,.bl=>.bl
 | _,_,.int=>.int
 | _,_,.str=>.str
 | _,_,.tup h _ r=>.tup h (IsPs.d r)
theorem IsPs.d:∀ {l:List Dt} {xs:List V},IsPs K H l xs→IsDs K H l xs
 | _,_,.nil=>.nil
 | _,_,.cons h r=>.cons (IsP.d h) (IsPs.d r)
end
theorem Pl.same {a:Addr} (g:Same H H') (h:Pl H a):Pl H' a:=by
 obtain ⟨o,u,e,d⟩:=h;exact ⟨o,u,g _ _ e,d⟩
theorem Pl.but {a r:Addr} {ys:List V} (hr:H r=some (.lst ys)) (g:But r H H') (h:Pl H a):Pl H' a:=by
 obtain ⟨o,u,e,d⟩:=h;exact ⟨o,u,g _ _ (mn e hr (by intro z;cases z)) e,d⟩
mutual
theorem IsP.same (g:Same H H'):∀ {d:Dt} {v:V},IsP K H d v→IsP K H' d v
 | _,_,.non=>.non
 | _,_,.bl=>.bl
 | _,_,.int=>.int
 | _,_,.str=>.str
 | _,_,.tup h p r=>.tup (g.tup h) (p.same g) (IsPs.same g r)
theorem IsPs.same (g:Same H H'):∀ {l:List Dt} {xs:List V},IsPs K H l xs→IsPs K H' l xs
 | _,_,.nil=>.nil
 | _,_,.cons h r=>.cons (IsP.same g h) (IsPs.same g r)
end
mutual
theorem IsP.but {r:Addr} {ys:List V} (hr:H r=some (.lst ys)) (g:But r H H'):∀ {d:Dt} {v:V},IsP K H d v→IsP K H' d v
 | _,_,.non=>.non
 | _,_,.bl=>.bl
 | _,_,.int=>.int
 | _,_,.str=>.str
 | _,_,.tup h p q=>.tup (by
   rcases u0 hr h with n | n
   ·exact g.tup n h
   ·exact n _) (p.but hr g) (IsPs.but hr g q)
theorem IsPs.but {r:Addr} {ys:List V} (hr:H r=some (.lst ys)) (g:But r H H'):∀ {l:List Dt} {xs:List V},IsPs K H l xs→IsPs K H' l xs
 | _,_,.nil=>.nil
 | _,_,.cons h q=>.cons (IsP.but hr g h) (IsPs.but hr g q)
end
theorem IsPs.length {l:List Dt} {xs:List V} (h:IsPs K H l xs):l.length=xs.length:=h.d.length
theorem IsPs.get {l:List Dt} {xs:List V} (h:IsPs K H l xs) {i:Nat} {d:Dt} (e:l[i]?=some d):∃ x,xs[i]?=some x∧IsP K H d x:=by
 induction l generalizing xs i with
 | nil=>simp at e
 | cons c l ih =>
  cases h with
  | cons h r =>
   cases i with
   | zero=>simp at e;subst e;exact ⟨_,rfl,h⟩
   | succ i=>exact ih r (by simpa using e)
theorem IsPs.get' {l:List Dt} {xs:List V} (h:IsPs K H l xs) {i:Nat} {x:V} (e:xs[i]?=some x):∃ d,l[i]?=some d∧IsP K H d x:=by
 induction l generalizing xs i with
 | nil=>cases h;simp at e
 | cons c l ih =>
  cases h with
  | cons h r =>
   cases i with
   | zero=>simp at e;subst e;exact ⟨_,rfl,h⟩
   | succ i=>exact ih r (by simpa using e)
theorem IsPs.append {l m:List Dt} {xs ys:List V} (h:IsPs K H l xs) (h':IsPs K H m ys):IsPs K H (l++m) (xs++ys):=by
 induction l generalizing xs with
 | nil=>cases h;exact h'
 | cons d l ih=>cases h with | cons h r=>exact .cons h (ih r)
theorem IsPs.drop:∀ {l:List Dt} {xs:List V} (n:Nat),IsPs K H l xs→IsPs K H (l.drop n) (xs.drop n)
 | _,_,0,h=>h
 | _,_,_+1,.nil=>.nil
 | _,_,n+1,.cons _ r=>IsPs.drop n r
theorem IsPs.take:∀ {l:List Dt} {xs:List V} (n:Nat),IsPs K H l xs→IsPs K H (l.take n) (xs.take n)
 | _,_,0,_=>.nil
 | _,_,_+1,.nil=>.nil
 | _,_,n+1,.cons h r=>.cons h (IsPs.take n r)
theorem IsP.unref {l:List Dt} {v:V} (h:IsP K H (.tup l) v):∃ a xs,v=.ref a∧SqT K H a xs∧Pl H a∧IsPs K H l xs:=by
 cases h with
 | tup h p r=>exact ⟨_,_,rfl,h,p,r⟩
end
def plO (xs:List V) (us:List Value):HO:=.frz { cls:=.type "tuple",data:=.seq us.toArray } (.tup xs)
section
variable {X:Cx} {pins:List (Addr×Obj)} {σ:St} {H:Hp} {s:Shared}
theorem Inv.plain {xs:List V} {us:List Value} {t':Nat} (I:Inv X pins σ H s) (r:Vals xs us) (z:xs.length≤sizeLine) :
  Inv X pins σ (upd H s.heap.objs.size (plO xs us)) { s with heap:=s.heap.push { cls:=.type "tuple",data:=.seq us.toArray },toks:=t' }∧H s.heap.objs.size=none :=
 ⟨I.laid (t':=t') (fun b ob q=>aAe _ q) (aAp _) ⟨aAz _ rfl,z,us,r,IsTup.new _ _⟩,I.hok.fresh (aAp _)⟩
theorem iB {p:Addr} {l:List Dt} {xs:List V} {us:List Value} (hf:H p=none) (d:IsPs X.K H l xs):Same H (upd H p (plO xs us))∧IsP X.K (upd H p (plO xs us)) (.tup l) (.ref p) :=
 ⟨ag hf _,.tup (.inl (.inr ⟨_,aa⟩)) ⟨_,_,aa,rfl⟩ (d.same (ag hf _))⟩
variable {e:Expr} {es:List Expr} {t:TA} {pos:Pos}
inductive ITup (K:W.Frag) (xs:List V) (H1:Hp) (Q:VK):Prop
 | mk (l:List Dt):(IsPs K H1 l xs)→(xs.length≤sizeLine)→(∀ v H',Same H1 H'→IsP K H' (.tup l) v→Q v H')→ITup K xs H1 Q
def u8 (K:W.Frag) (t:TA):TE:=fun σ H Q=>t σ H fun xs H1=>ITup K xs H1 Q
theorem w5 {x1} (h:PA X es t):PE X (.Tuple es x1 pos) (u8 X.K t):=by
 intro pins s σ H Q I hq;refine wpAny_Tuple_spliced (thn (h pos pins s σ H _ I hq) fun us s1 ⟨xs,H1,I1,r,l,d,z,q⟩=>⟨by rw [← r.length];exact z,?_⟩);obtain ⟨I2,hf⟩:=I1.plain (t':=s1.toks) r z;obtain ⟨g,dp⟩:=iB (X:=X) (us:=us) hf d;exact ⟨.ref s1.heap.objs.size,_,I2,rfl,q _ _ g dp⟩
theorem pq:bB X (.type "tuple") (fun xs H Q=>∃ p ys l,xs=[.ref p]∧SqL X.K H p ys∧IsPs X.K H l ys∧∀ v H',Same H H'→IsP X.K H' (.tup l) v→Q v H'):=by
 intro pins s σ H xs us Q I r h;obtain ⟨p,ys,l,rfl,hq,d,q⟩:=h;obtain ⟨u,rfl,rx⟩:=dE r
 cases rx
 obtain ⟨its,r',pl,hz⟩:=I.list hq;have hlen:=r'.length;refine call_tuple_list pl.isList (fun h' kp=>?_) (by simp only [aAw] <;> lia);have I1:Inv X pins σ H { s with heap:=h' }:=I.kept (t':=s.toks) kp;obtain ⟨I2,hf⟩:=I1.plain (t':=s.toks) r' hz;obtain ⟨g,dp⟩:=iB (X:=X) (us:=its) hf d;exact ⟨.ref h'.objs.size,_,I2,rfl,q _ _ g dp⟩
theorem w6:OpR X (binaryOp .Add) (fun x y H Q=>∃ l m,IsP X.K H (.tup l) x∧IsP X.K H (.tup m) y∧l.length+m.length≤sizeLine∧∀ v H',Same H H'→IsP X.K H' (.tup (l++m)) v→Q v H'):=by
 intro pins s σ H x y v u Q I rx ry h;obtain ⟨l,m,dx,dy,hz,q⟩:=h;obtain ⟨a,xs,rfl,ha,pa,ra⟩:=dx.unref;obtain ⟨b,ys,rfl,hb,pb,rb⟩:=dy.unref
 cases rx
 cases ry
 obtain ⟨its,r1,p1,_⟩:=I.tuple ha;obtain ⟨its2,r2,p2,_⟩:=I.tuple hb;have e1:=ra.length;have e2:=rb.length
 by_cases hx:xs=[]
 ·subst hx;have hi:its=[]:=r1.nil_iff.mpr rfl;subst hi;have hl:l=[]:=aA3.mp (by rw [e1];rfl);subst hl;exact HT.cat_nil p1 p2 ⟨.ref b,H,I,rfl,q _ H (Same.refl H) dy⟩
 ·refine HT.cat_tup p1 p2 (fun z=>hx (r1.nil_iff.mp z)) (fun z=>?_) (fun z=>?_) (by rw [← r1.length,← r2.length,← e1,← e2];exact hz)
  ·have hy:=r2.nil_iff.mp z;subst hy;have hm:m=[]:=aA3.mp (by rw [e2];rfl);subst hm;exact ⟨.ref a,H,I,rfl,q _ H (Same.refl H) (by rw [aAZ];exact dx)⟩
  ·obtain ⟨I2,hf⟩:=I.plain (t':=s.toks) (r1.append r2) (by rw [aAc,← e1,← e2];exact hz);obtain ⟨g,dp⟩:=iB (X:=X) (us:=its++its2) hf (ra.append rb);exact ⟨.ref s.heap.objs.size,_,I2,rfl,q _ _ g dp⟩
theorem w8:SlR X (fun x lo hi H Q=>∃ l,IsP X.K H (.tup l) x∧∀ v H',Same H H'→IsP X.K H' (.tup (tL l lo hi)) v→Q v H'):=by
 intro pins s σ H x v vl vu lo hi sl Q I rx hs pl pu h;obtain ⟨l,dx,q⟩:=h;obtain ⟨a,xs,rfl,hx,pa,ra⟩:=id dx.unref
 cases rx
 have e1:=ra.length;obtain ⟨its,r,ht,hz⟩:=I.tuple hx;have hlen:its.toArray.size=xs.length:=by rw [aAw];exact r.length.symm
 refine ⟨"tuple",_,PyProof.Rows.slot_tuple_getitem.lookup,ht.typeIs,?_⟩
 by_cases hw:HT.sIx xs.length 0 lo=0∧HT.sIx xs.length xs.length hi=xs.length
 ·refine HT.getItem_tuple_all ht hs pl pu (by rw [hlen];exact hw.1) (by rw [hlen];exact hw.2) ⟨.ref a,H,I,rfl,q _ H (Same.refl H) ?_⟩;have e:tL l lo hi=l:=by
   unfold tL;rw [e1,hw.1,hw.2,List.drop_zero,Nat.sub_zero,← e1,aBs]
  rw [e];exact dx
 ·refine HT.getItem_tuple_cut ht hs pl pu (by rw [hlen];exact hw) ?_ (by rw [hlen];exact hz);rw [hlen];obtain ⟨I2,hf⟩:=I.plain (t':=s.toks) ((r.drop (HT.sIx xs.length 0 lo)).take (HT.sIx xs.length xs.length hi - HT.sIx xs.length 0 lo)) (aAA (jJ xs lo hi) hz);have d2:IsPs X.K H (tL l lo hi) (kA xs lo hi):=by
   unfold tL kA;rw [e1];exact (ra.drop _).take _
  obtain ⟨g,dp⟩:=iB (X:=X) (us:=(its.drop (HT.sIx xs.length 0 lo)).take (HT.sIx xs.length xs.length hi - HT.sIx xs.length 0 lo)) hf d2;exact ⟨.ref s.heap.objs.size,_,I2,rfl,q _ _ g dp⟩
theorem w9:IxR X (fun x y H Q=>∃ l i d,IsP X.K H (.tup l) x∧y=.int i∧atI l i=some d∧∀ v,IsP X.K H d v→Q v H):=by
 intro value slice pins s σ H x y v u Q I rx ry h hs;obtain ⟨l,i,d,dx,rfl,ha,q⟩:=h;obtain ⟨a,xs,rfl,hx,pa,ra⟩:=id dx.unref;obtain ⟨j,hj,hd,_⟩:=iu ha;have e1:=ra.length;obtain ⟨w',hw,dw⟩:=ra.get hd;have hat:atI xs i=some w':=by
  unfold atI at ha ⊢;rw [← e1]
  cases z:ixN l.length i with
  | none=>rw [z] at ha;cases ha
  | some j' =>
   rw [z] at ha;have ha':l[j']?=some d:=ha;obtain ⟨w2,hw2,dw2⟩:=ra.get ha';have z2:=kb z;rw [hj] at z2;have:j=j':=Option.some.inj z2.1;subst this;exact hw
 exact uO value slice pins s σ H (.ref a) (.int i) v u Q I rx ry ⟨a,xs,i,w',rfl,rfl,hx,hat,q w' dw⟩ hs
theorem ny:OpR X (binaryOp .Mult) (rI IntMulOk fun i j=>.int (i*j)):=opI fun _ _ _ _ _ _ _ hc q=>mul_int q hc
end
def rQ (fs:List (Str×Dt)) (z:Str):Option Dt:=(fs.find? fun p=>decide (p.1=z)).map (·.2)
def HB (K:W.Frag) (H:Hp) (p:Addr) (fs:List (Str×Dt)):Prop :=
 ∃ kvs,H p=some (.dK kvs)∧∀ z,(rQ fs z=none→gK kvs (Sum.inr z:Key)=none)∧∀ d,rQ fs z=some d→∃ v,gK kvs (Sum.inr z:Key)=some v∧IsP K H d v
section
variable {X:Cx} {pins:List (Addr×Obj)} {σ:St} {H:Hp} {s:Shared}
end
end L2
namespace PySem
open Sem (wp)
open Builtin
section
variable {prog:Program} {w:World} {A:Around} {E:Value→Shared→Prop} {s:Shared}
end
end PySem
namespace L2
open PySem PySem.Spec PyProof.Rows
section
variable {X:Cx}
variable {tg:Expr}
end
theorem rR {X:Cx} {st:Stmt} {t:TS} (h:X.Ok→PS X st t):PS X st t:=fun pins s σ H D I hw=>h I.ok pins s σ H D I hw
theorem rS {P:Program} {w:World} {X:Cx}:fJ (CXE P w) X (fun _ _ _=>False):=by
 intro pins σ H s e s' I h;obtain ⟨_,_,_,_,_,_,_,_,_,_,_,_,_,q⟩:=h;exact q.elim
theorem u1 {A:Around} (h:A.units+64 < cLine):A.units+1 < cLine:=by lia
theorem fn_none {P:Program} {w:World} {K:W.Frag} {mg:Str→Option Value} {base:Heap} {CX:CXT} {k:Nat} {f:Addr} {fd:FuncData} {ps:List Str} {sp:Sp} (h:∀ vs H Q E,¬ sp vs H Q E):FnOk P w K mg base CX k f fd ps sp :=
 ⟨fun vs H Q E z=>(h vs H Q E z).elim,fun A outer s H args us vs Q E hr e0 hb r z=>(h vs H Q E z).elim⟩
section
variable {X:Cx}
theorem kI:OpR X (binaryOp .FloorDiv) (rI (fun _ j=>0 < j∧j < 10000000000000000000000000000000000000000000000000000000000000) fun i j=>.int (i / j)):=opI fun i j _ _ _ _ _ hc q=>by
 have h1:(0:Int) < j:=hc.1;have h2:j < 10000000000000000000000000000000000000000000000000000000000000:=hc.2;refine floordiv_int (by lia) (by rw [Int.fdiv_eq_ediv_of_nonneg i (by lia)];exact q) (.inl (PyProof.noPylong_of_log2 ?_));have h3:j.natAbs < 2 ^ 9000:=aAj (show j.natAbs < 10000000000000000000000000000000000000000000000000000000000000 by lia) (by decide +kernel);exact (Nat.log2_lt (by lia)).mpr h3
theorem mt_starts:MtM X "str.startswith" (fun x vs H Q=>∃ y z,x=.str y∧vs=[.str z]∧Q (.bl (Txt.startswith y z)) H):=by
 intro pins s σ H x vs v us Q I rx rv h;obtain ⟨y,z,rfl,rfl,q⟩:=h;obtain ⟨t,rfl⟩:=rx;obtain ⟨u,rfl,t',rfl⟩:=rv.one;exact SC.startswith ⟨.bl _,H,I,rfl,q⟩
theorem call_int_text:bB X (.type "int") (fun xs H Q=>∃ z n,xs=[.str z]∧PySem.intText? z=some n∧z.length≤640∧Q (.int n) H):=by
 intro pins s σ H xs us Q I r h;obtain ⟨z,n,rfl,hn,hl,q⟩:=h;obtain ⟨u,rfl,t,rfl⟩:=dE r;exact W.KIN.call_text hn hl ⟨.int n,H,I.tok _,⟨_,rfl⟩,q⟩
inductive ICatS (K:W.Frag) (x y:V) (H:Hp) (Q:VK):Prop
 | mk (l b:Addr) (xs zs:List V):(x=.ref l)→(y=.ref b)→(SqL K H l xs)→(SqL K H b zs)→(xs.length+zs.length≤sizeLine)→(∀ p,H p=none→Q (.ref p) (upd H p (.lst (xs++zs))))→ICatS K x y H Q
def rV (K:W.Frag):R2:=fun x y H Q=>ICatS K x y H Q
theorem xf:OpR X (binaryOp .Add) (rV X.K):=by
 intro pins s σ H x y v u Q I rx ry h;obtain ⟨l,b,xs,zs,rfl,rfl,hH,hB,hz,q⟩:=h
 cases rx
 cases ry
 obtain ⟨its,r,pl,z⟩:=I.list hH;obtain ⟨its2,r2,pl2,z2⟩:=I.list hB;obtain ⟨⟨cls,dd,data,sl⟩,ho,hc,n,hd⟩:=pl.isList;obtain ⟨⟨cls2,dd2,data2,sl2⟩,ho2,hc2,n2,hd2⟩:=pl2.isList;simp only at hc hd hc2 hd2;subst hc hd hc2 hd2;have l1:=r.length;have l2:=r2.length;have ea:its.toArray++its2.toArray=(its++its2).toArray:=by simp
 refine concat_meets ⟨_,ho,rfl⟩ ⟨_,ho2,rfl⟩ noFill_list_add seq_list_add PySem.F.slot_list_add PySem.F.entry_list_add (PySem.F.args_list_add_2 _ _) (list_addW l b its.toArray its2.toArray n n2 dd dd2 sl sl2 (by simp only [aAw];lia)) ⟨ho,ho2,?_⟩;rw [ea];exact ⟨.ref _,_,I.lnew (t':=s.toks) (r.append r2) (by rw [aAc];lia),rfl,q _ I.fresh⟩
end
open PySem.NumText
def dg (m:Nat):List Nat:=(Nat.toDigits 10 m).map Char.toNat
theorem u9:∀ d:Nat,d < 10→(Nat.digitChar d).toNat=48+d:=by decide
theorem fM {m:Nat} (h:m < 10):dg m=[48+m]:=by
 unfold dg;rw [Nat.toDigits_of_lt_base h];show [(Nat.digitChar m).toNat]=_;rw [u9 m h]
theorem rW {m:Nat} (h:10≤m):dg m=dg (m / 10)++[48+m % 10]:=by
 have hm:m % 10 < 10:=Nat.mod_lt m (by decide);have t:Nat.toDigits 10 (m / 10)++Nat.toDigits 10 (m % 10)=Nat.toDigits 10 (10*(m / 10)+m % 10):=Nat.toDigits_append_toDigits (by decide) (by lia) hm;rw [Nat.div_add_mod] at t;unfold dg;rw [← t,aAt]
 congr 1
 exact fM hm
theorem eJ (m:Nat):AllDigits (dg m):=by
 intro c hc;obtain ⟨ch,hch,e⟩:=aAl.mp hc;rw [← e];exact digit_range (Nat.isDigit_of_mem_toDigits (by decide) (by decide) hch)
theorem va (m:Nat):dg m≠[]:=by
 intro e;have h:=toDigits_len_ge 10 m;rw [List.map_eq_nil_iff.mp e] at h;exact absurd h (by decide)
theorem vc (m:Nat):digitsVal (dg m)=m:=W.KIN.val_back m
theorem rX:∀ (m:Nat),0 < m→∃ c r,dg m=c :: r∧49≤c:=by
 intro m
 induction m using Nat.strongRecOn with
 | _ m ih =>
  intro h
  by_cases h1:m < 10
  ·exact ⟨48+m,[],fM h1,by lia⟩
  ·obtain ⟨c,r,e,hc⟩:=ih (m / 10) (by lia) (by lia);exact ⟨c,r++[48+m % 10],by rw [rW (by lia),e];rfl,hc⟩
theorem nA:∀ (k m:Nat),m < 10 ^ (k+1)→(dg m).length≤k+1
 | 0,m,h=>by rw [fM (by simpa using h)];exact aAp 1
 | k+1,m,h=>by
  by_cases h1:m < 10
  ·rw [fM h1];exact aBO (aAD _)
  ·rw [rW (by lia),aAc,aA1];have:m / 10 < 10 ^ (k+1):=by
    rw [Nat.pow_succ] at h;exact Nat.div_lt_of_lt_mul (by rw [Nat.mul_comm];exact h)
   have:=nA k (m / 10) this;lia
def eK (n:Int):List Nat:=if n < 0 then 45 :: dg n.natAbs else dg n.natAbs
theorem str_int (n:Int):(Str.ofString (toString n)).cps.toList=eK n:=by
 rw [signs_ofString]
 cases n with
 | ofNat m =>
  have:¬ (Int.ofNat m < 0):=by simp
  unfold eK;rw [if_neg this];show (Nat.repr m).toList.map Char.toNat=_;rw [Nat.toList_repr]
  rfl
 | negSucc m =>
  have:Int.negSucc m < 0:=Int.negSucc_lt_zero m;unfold eK;rw [if_pos this];show ("-" ++Nat.repr (m+1)).toList.map Char.toNat=_;rw [String.toList_append,aAt,Nat.toList_repr]
  rfl
theorem cf {x y:Str} (h:x.cps.toList=y.cps.toList):x=y:=by
 obtain ⟨a⟩:=x;obtain ⟨b⟩:=y
 congr 1
 exact Array.toList_inj.mp h
theorem kJ (z:Str) (c:Nat):Txt.startswith z ⟨#[c]⟩=decide (z.cps.toList.head?=some c):=by
 obtain ⟨⟨l⟩⟩:=z
 cases l with
 | nil=>rfl
 | cons d r =>
  rw [aAY,decide_eq_true_iff];simp [Txt.startswith,Builtin.Str.subAt,Str.length]
theorem qP {z:Str} (h:1≤z.length):Txt.slice z (some 1) none=⟨(z.cps.toList.drop 1).toArray⟩:=by
 have e:=slice_from_eq (x:=z) (i:=1) (b:=z.length) (by decide) (by lia) rfl;rw [e];apply cf;show ((z.cps.toList.drop 1).take ((z.length:Int) - 1).toNat)=z.cps.toList.drop 1;apply aAy;have:z.cps.toList.length=z.length:=aAU;rw [aAI];lia
end L2
namespace L2
open PySem PySem.Spec PyProof.Rows
section
variable {X:Cx} {pins:List (Addr×Obj)} {σ:St} {H:Hp} {s:Shared} {h':Heap}
theorem Inv.turnedT {t':Nat} {wr:List Addr} {T:Addr} {o:HO} (I:Inv X pins σ H s) (k:∀ b u,b∉wr→s.heap.get? b=some u→h'.get? b=some u) (f:∀ b∈wr,ip X pins H b)
  (hT:s.heap.objs.size≤T) (new:ObjOk X.prog X.w (upd H T o) h' T o):Inv X pins σ (upd H T o) { s with heap:=h',toks:=t' }:=by
 have nT:∀ b u,s.heap.get? b=some u→b≠T:=fun b u e z=>absurd (aAj (aAu e) (z ▸ hT)) (aAR _);have nH:∀ b u,H b=some u→b≠T:=fun b u e z=>absurd (aAj (I.hok.lt e) (z ▸ hT)) (aAR _);have nw:∀ b u,H b=some u→b∉wr:=fun b u e z=>by rw [(f b z).1] at e;cases e
 refine I.step (g':=s.gens) (d':=s.drawn) (ch:=wr) (fun b hb=>?_) (fun b u _ _ hc e _=>k b u hc e) (fun b u _ _ hc e _=>⟨u.slots,k b u hc e⟩) (fun b u _ e n=>by rw [ac (nT b u e)];exact n)
  (fun b u hc e=>⟨u,k b u hc e⟩) (fun b xs e=>by rw [ac (nH b _ e)];exact e) (fun b u v e=>by rw [ac (nH b _ e)];exact e) (fun b ps e=>⟨#[],by rw [ac (nH b _ e),e];simp⟩) (fun m hm=>?_) (fun b u e=>?_) I.bare
 ·obtain ⟨f0,f1,f2,f3,f4,f5⟩:=f b hb;exact ⟨f3,f1,f4,f5⟩
 ·obtain ⟨u,es,ep,ho,r⟩:=hm;exact ⟨u,es,ep,k _ u (fun z=>(f _ z).2.1 rfl) ho,r⟩
 ·by_cases hb:b=T
  ·subst hb;rw [aa] at e
   cases e
   exact new
  ·rw [ac hb] at e;refine (I.hok b u e).stay (fun c v hc q=>k c v ?_ q) (fun c q=>?_) fun c xs q=>by rw [ac (nH c _ q)];exact q
   ·rcases hc with z | z
    ·rw [z];exact nw b u e
    ·exact nw c _ z
   ·rw [ac (nH c _ q)];exact q
theorem Inv.turnedL {t':Nat} {wr:List Addr} (I:Inv X pins σ H s) (k:∀ b u,b∉wr→s.heap.get? b=some u→h'.get? b=some u) (f:∀ b∈wr,ip X pins H b):Inv X pins σ H { s with heap:=h',toks:=t' }:=by
 have nw:∀ b u,H b=some u→b∉wr:=fun b u e z=>by rw [(f b z).1] at e;cases e
 refine I.step (g':=s.gens) (d':=s.drawn) (ch:=wr) (fun b hb=>?_) (fun b u _ _ hc e _=>k b u hc e) (fun b u _ _ hc e _=>⟨u.slots,k b u hc e⟩) (fun _ _ _ _ n=>n)
  (fun b u hc e=>⟨u,k b u hc e⟩) (fun _ _ e=>e) (fun _ _ _ e=>e) (fun b ps e=>⟨#[],by rw [e];simp⟩) (fun m hm=>?_) (fun b u e=>?_) I.bare
 ·obtain ⟨f0,f1,f2,f3,f4,f5⟩:=f b hb;exact ⟨f3,f1,f4,f5⟩
 ·obtain ⟨u,es,ep,ho,r⟩:=hm;exact ⟨u,es,ep,k _ u (fun z=>(f _ z).2.1 rfl) ho,r⟩
 ·refine (I.hok b u e).stay (fun c v hc q=>k c v ?_ q) (fun _ q=>q) fun _ _ q=>q;rcases hc with z | z
  ·rw [z];exact nw b u e
  ·exact nw c _ z
end
section
variable {X:Cx} {elts:List Expr} {k:Nat} {tpos:Pos}
end
def met:List Key→List Key
 | []=>[]
 | k :: r=>if r.any (fun j=>decide (j=k)) then met r else k :: met r
section
variable {P:Program} {w:World} {A:Around} {R:Result→Shared→Prop} {it:Addr} {fp wr:List Addr} {G:Array GenState→Array GenState→Prop} {n:Nat} {Pt:Nat→Value→Prop} {St:Nat→Shared→Prop}
end
section
variable {P:Program} {w:World} {A:Around} {E:Value→Shared→Prop} {s:Shared}
end
section
variable {X:Cx}
end
section
variable {K:W.Frag} {a b l:Addr} {xs ys:List V} {g:TG} {tb:List V→Addr→St→Hp→(List V→St→Hp→Prop)→Prop} {R:Hp→Prop} {σ0:St} {H0:Hp}
theorem eL (Pv:Nat→List V→St→Hp→Prop) (h0:Pv 0 [] σ0 H0) (hl:∀ i ys σ H,i≤xs.length→Pv i ys σ H→SqT K H a xs)
  (hs:∀ i x ys σ H (N:List V→St→Hp→Prop),xs[i]?=some x→Pv i ys σ H→(∀ ys' σ' H',Pv (i+1) ys' σ' H'→N ys' σ' H')→g x σ H fun σ2 H2=>tb ys l σ2 H2 N)
  (hd:∀ ys σ H,Pv xs.length ys σ H→R H) :
  ∃ W:Nat→Nat→List V→St→Hp→Prop,(∃ m,W 0 m [] σ0 H0)∧∀ i m ys σ' H',W i m ys σ' H'→((Itt K a).stop i H'∧R H') ∨
   ((Itt K a).go i H'∧∀ x H'',(Itt K a).yld i H' x H''→g x σ' H'' fun σ2 H2=>tb ys l σ2 H2 fun ys' σ3 H3=>∃ m',m' < m∧W (i+1) m' ys' σ3 H3):=uZ (Q:=fun _ H=>R H) Pv h0 hl hs hd
theorem kK (Pv:Nat→List V→St→Hp→Prop) (h0:Pv 0 [] σ0 H0) (hl:∀ i ys σ H,i≤xs.length→Pv i ys σ H→SqL K H a xs)
  (hs:∀ i x ys σ H (N:List V→St→Hp→Prop),xs[i]?=some x→Pv i ys σ H→(∀ ys' σ' H',Pv (i+1) ys' σ' H'→N ys' σ' H')→g x σ H fun σ2 H2=>tb ys l σ2 H2 N)
  (hd:∀ ys σ H,Pv xs.length ys σ H→R H) :
  ∃ W:Nat→Nat→List V→St→Hp→Prop,(∃ m,W 0 m [] σ0 H0)∧∀ i m ys σ' H',W i m ys σ' H'→((Itl K a).stop i H'∧R H') ∨
   ((Itl K a).go i H'∧∀ x H'',(Itl K a).yld i H' x H''→g x σ' H'' fun σ2 H2=>tb ys l σ2 H2 fun ys' σ3 H3=>∃ m',m' < m∧W (i+1) m' ys' σ3 H3):=tK (Q:=fun _ H=>R H) Pv h0 hl hs hd
end
theorem kg {X:Cx} {K:W.Frag} {es:List Expr} {k:Nat} {pos:Pos} {t:TGs} {n:Nat} (hK:X.K=K) (hc:X.calm=true) (h:PGs X es t)
  (hn:(assignEach es X.env).length=n:=by rfl) (hst:(assignEach es X.env).findIdx? (·.1)=none:=by rfl):PG X (.Tuple es k pos) (Gf K n t):=by
 subst hK;exact ja hc h hn hst
theorem bM {H H1:Hp} {l:Addr} {o:HO} (hl:H l=none) (g:Same H H1):Same H (upd H1 l o):=fun b u e=>by rw [ac (ah e hl)];exact g b u e
section
variable {X:Cx}
end
section
variable {X:Cx}
variable {K:W.Frag}
theorem pe_tupPK {es:List Expr} {x1:Nat} {pos:Pos} {t:TA} (hK:X.K=K) (h:PA X es t):PE X (.Tuple es x1 pos) (u8 K t):=by subst hK;exact w5 h
theorem aD (hK:X.K=K):IxR X (AI K):=by subst hK;exact wO
theorem xh (hK:X.K=K) (hu:X.A.units+64 < cLine):OpR X (compareOp .Eq) (Gz K):=by subst hK;exact AQ hu
theorem e7 (hK:X.K=K):OpR X (compareOp .In) (rIn K false):=by subst hK;exact tq
end
section
variable {X:Cx}
end
section
variable {X:Cx}
theorem mE:∀ {ss:List Str} {us:List Value},Vals (ss.map V.str) us→StrsAre us ss
 | [],us,h=>by cases h;exact .nil
 | z :: ss,us,h=>by
  cases h with
  | cons r rr =>
   obtain ⟨t,rfl⟩:=r;exact .cons z t (mE rr)
theorem jh:∀ {ss:List Str} {us:List Value},StrsAre us ss→Vals (ss.map V.str) us
 | _,_,.nil=>.nil
 | _,_,.cons z t r=>.cons ⟨t,rfl⟩ (jh r)
theorem qQ:bB X (.builtin "sorted") (fun xs H Q=>∃ (p:Addr) (ss:List Str),xs=[.ref p]∧SqL X.K H p (ss.map V.str)∧ss.length < 64∧∀ a ss',H a=none→ss'.Perm ss→sortedS ss'=true→Q (.ref a) (upd H a (.lst (ss'.map V.str)))):=by
 intro pins s σ H xs us Q I r h;obtain ⟨p,ss,rfl,hp,hl,q⟩:=h;obtain ⟨u,rfl,rx⟩:=dE r
 cases rx
 obtain ⟨its,rv,pl,hz⟩:=I.list hp;have el:=rv.length;rw [aAa] at el;refine sorted_strs pl.isList (mE rv) (by lia) fun out ss' h1 h2 h3=>?_;obtain ⟨e,he⟩:=sortedAll_at s.heap its out;have hn:H (s.heap.objs.size+1)=none:=I.hok.fresh (aBX _);refine ⟨.ref (s.heap.objs.size+1),_,I.laid (t':=s.toks) (o:=.lst (ss'.map V.str)) (fun b o=>sortedAll_old) (aBX _) ?_,rfl,q _ _ hn h2 h3⟩;have e2:seqObj "list" out e=seqObj "list" out.toList.toArray e:=by rw [Array.toArray_toList]
 refine ⟨?_,out.toList,e,jh h1,?_⟩
 ·rw [aAa,h2.length_eq];exact aBa (aBN hl (by decide))
 ·rw [he,e2]
end
abbrev two (v:Value) (c:Nat):Obj:={ cls:=.type "list",dict:=none,data:=.seq #[v,v] c,slots:=#[] }
section
variable {prog:Program} {w:World} {A:Around} {R:Result→Shared→Prop} {it:Addr} {fp wr:List Addr} {n:Nat} {P:Nat→Value→Prop} {St:Nat→Heap→Prop}
end
section
variable {prog:Program} {w:World} {A:Around} {E:Value→Shared→Prop} {s:Shared} {l:Addr} {zs:Array (Int×Tok)} {d:Value} {Q:Value→Shared→Prop}
end
section
variable {X:Cx}
end
section
variable {X:Cx} {K:W.Frag}
end
section
variable {l:Addr} {g:TG} {tb:List V→Addr→St→Hp→(List V→St→Hp→Prop)→Prop} {R:Hp→Prop} {σ0:St} {H0:Hp} {lo:Int} {n:Nat} {z:Str}
theorem bi (Pv:Nat→List V→St→Hp→Prop) (h0:Pv 0 [] σ0 H0) (hs:∀ i ys σ H (N:List V→St→Hp→Prop),i < n→Pv i ys σ H→(∀ ys' σ' H',Pv (i+1) ys' σ' H'→N ys' σ' H')→g (.int (lo+i)) σ H fun σ2 H2=>tb ys l σ2 H2 N) (hd:∀ ys σ H,Pv n ys σ H→R H) :
  ∃ W:Nat→Nat→List V→St→Hp→Prop,(∃ m,W 0 m [] σ0 H0)∧∀ i m ys σ' H',W i m ys σ' H'→((Itr lo n).stop i H'∧R H')∨((Itr lo n).go i H'∧∀ x H'',(Itr lo n).yld i H' x H''→g x σ' H'' fun σ2 H2=>tb ys l σ2 H2 fun ys' σ3 H3=>∃ m',m' < m∧W (i+1) m' ys' σ3 H3):=qM (Q:=fun _ H=>R H) Pv h0 hs hd
theorem tR (Pv:Nat→List V→St→Hp→Prop) (h0:Pv 0 [] σ0 H0) (hs:∀ i c ys σ H (N:List V→St→Hp→Prop),z.cps[i]?=some c→Pv i ys σ H→(∀ ys' σ' H',Pv (i+1) ys' σ' H'→N ys' σ' H')→g (.str ⟨#[c]⟩) σ H fun σ2 H2=>tb ys l σ2 H2 N) (hd:∀ ys σ H,Pv z.cps.size ys σ H→R H) :
  ∃ W:Nat→Nat→List V→St→Hp→Prop,(∃ m,W 0 m [] σ0 H0)∧∀ i m ys σ' H',W i m ys σ' H'→((Its z).stop i H'∧R H')∨((Its z).go i H'∧∀ x H'',(Its z).yld i H' x H''→g x σ' H'' fun σ2 H2=>tb ys l σ2 H2 fun ys' σ3 H3=>∃ m',m' < m∧W (i+1) m' ys' σ3 H3):=pe (Q:=fun _ H=>R H) Pv h0 hs hd
end
section
variable {X:Cx} {K:W.Frag}
inductive JIxP (K:W.Frag) (x y:V) (H:Hp) (Q:VK):Prop
 | mk (l:List Dt) (i:Int) (d:Dt):(IsP K H (.tup l) x)→(y=.int i)→(atI l i=some d)→(∀ v,IsP K H d v→Q v H)→JIxP K x y H Q
def vd (K:W.Frag):R2:=fun x y H Q=>JIxP K x y H Q
def HC (K:W.Frag):R2:=fun x y H Q=>∃ l i d,IsD K H (.tup l) x∧y=.int i∧atI l i=some d∧∀ v,IsD K H d v→Q v H
inductive JCatP (K:W.Frag) (x y:V) (H:Hp) (Q:VK):Prop
 | mk (l m:List Dt):(IsP K H (.tup l) x)→(IsP K H (.tup m) y)→(l.length+m.length≤sizeLine)→(∀ v H',Same H H'→IsP K H' (.tup (l++m)) v→Q v H')→JCatP K x y H Q
def GE (K:W.Frag):R2:=fun x y H Q=>JCatP K x y H Q
inductive JLenD (K:W.Frag) (xs:List V) (H:Hp) (Q:VK):Prop
 | mk (x:V) (l:List Dt):(xs=[x])→(IsD K H (.tup l) x)→(Q (.int l.length) H)→JLenD K xs H Q
def GF (K:W.Frag):List V→Hp→VK→Prop:=fun xs H Q=>JLenD K xs H Q
inductive JIsi (K:W.Frag) (xs:List V) (H:Hp) (Q:VK):Prop
 | mk (x:V) (T:String) (b:Bool):(xs=[x,.ty T])→(IsiB K H x T b)→(Q (.bl b) H)→JIsi K xs H Q
def HD (K:W.Frag):List V→Hp→VK→Prop:=fun xs H Q=>JIsi K xs H Q
inductive JTupP (K:W.Frag) (xs:List V) (H:Hp) (Q:VK):Prop
 | mk (p:Addr) (ys:List V) (l:List Dt):(xs=[.ref p])→(SqL K H p ys)→(IsPs K H l ys)→(∀ v H',Same H H'→IsP K H' (.tup l) v→Q v H')→JTupP K xs H Q
def GG (K:W.Frag):List V→Hp→VK→Prop:=fun xs H Q=>JTupP K xs H Q
theorem iC (hK:X.K=K):IxR X (vd K):=by
 subst hK;intro e1 e2 pins s σ H x y v u Q I rx ry h hs;obtain ⟨l,i,d,a,b,c,q⟩:=h;exact w9 _ _ _ _ _ _ _ _ _ _ _ I rx ry ⟨l,i,d,a,b,c,q⟩ hs
theorem ix_tupDN (hK:X.K=K):IxR X (HC K):=by subst hK;exact wV
theorem kL (hK:X.K=K):OpR X (binaryOp .Add) (GE K):=by
 subst hK;intro pins s σ H x y v u Q I rx ry h;obtain ⟨l,m,a,b,c,q⟩:=h;exact w6 _ _ _ _ _ _ _ _ _ I rx ry ⟨l,m,a,b,c,q⟩
theorem iD (hK:X.K=K) (hu:X.A.units+64 < cLine):OpR X (compareOp .NotEq) (GA K):=by subst hK;exact AR hu
theorem kM (hK:X.K=K):bB X (.builtin "len") (GF K):=by
 subst hK;intro pins s σ H xs us Q I r h;obtain ⟨x,l,a,b,q⟩:=h;exact tM _ _ _ _ _ _ _ I r ⟨x,l,a,b,q⟩
theorem call_isiN' (hK:X.K=K):bB X (.builtin "isinstance") (HD K):=by
 subst hK;intro pins s σ H xs us Q I r h;obtain ⟨x,l,m,a,b,q⟩:=h;exact uV _ _ _ _ _ _ _ I r ⟨x,l,m,a,b,q⟩
theorem aZ (hK:X.K=K):bB X (.type "tuple") (GG K):=by
 subst hK;intro pins s σ H xs us Q I r h;obtain ⟨x,l,m,a,b,c,q⟩:=h;exact pq _ _ _ _ _ _ _ I r ⟨x,l,m,a,b,c,q⟩
theorem pi_tupN {tg l:Expr} {tl:TE} (hK:X.K=K) (hl:PE X l tl):PI X tg l (Gh K tl):=by subst hK;exact AD hl
theorem fN {tg l:Expr} {tl:TE} (hK:X.K=K) (hl:PE X l tl):PI X tg l (xM K tl):=by subst hK;exact wE hl
end
section
variable {prog:Program} {w:World} {A:Around} {E:Value→Shared→Prop} {s:Shared}
theorem gU {b t:Addr} {k:Nat} {its:Array Value} {v:Value} {Q:Value→Shared→Prop} (hb:IsTupIter s.heap b t k) (ht:IsTup s.heap t its) (hv:its[k]?=some v)
  (q:∀ h',IsTupIter h' b t (k+1)→Heap.SameBut b s.heap h'→Q v { s with heap:=h' }):wpAny (model prog w) A (Builtin.SmallTypes.nextOf (.ref b)) Q E s:=by
 obtain ⟨ob,gb,cb,db⟩:=id hb;obtain ⟨ot,gt,_,nt,dt⟩:=ht;unfold Builtin.SmallTypes.nextOf;refine wpAny_bind (wpAny_callSpecial?_slot (name:=Str.ofString "__next__") hb.typeIs slot_tupleiter_next (wpAny_call_entry slot_tupleiter_next hb.typeIs entry_tupleiter_next ?_ (args_tupleiter_next _)));refine show wpAny _ _ (field (.ref b) 0 >>= _) _ _ s from wpAny_bind (wpAny_field gb db (x:=.ref t) rfl ?_);refine show wpAny _ _ (if (Value.ref t == Value.none)=true then _ else _) _ _ s from ?_;rw [if_neg (by exact aAx)];refine show wpAny _ _ (field (.ref b) 1 >>= _) _ _ s from wpAny_bind (wpAny_field gb db (x:=.int k 0) rfl ?_);refine show wpAny _ _ (seqItems? (.ref t) >>= _) _ _ s from wpAny_bind (wpAny_seqItems gt dt ?_);simp only [hv,aBf];refine wpAny_bind (wpAny_setField gb db (by simp) (wpAny_pure ⟨v,rfl,wpAny_pure (q _ ⟨_,aBu _ gb (Obj.isFreed_of_fields (Obj.data_mapFields db _)),(Obj.cls_mapFields ..).trans cb,?_⟩ (Heap.SameBut.update ..))⟩));rw [Obj.data_mapFields db];simp [rawInt]
theorem mF {b t:Addr} {k:Nat} {its:Array Value} {Q:Value→Shared→Prop} (hh:A.handled=none) (hb:IsTupIter s.heap b t k) (ht:IsTup s.heap t its) (hv:its[k]?=none)
  (q:∀ h' e,Heap.ExtBut b s.heap h'→(∃ o,h'.get? e=some o∧o.cls=.type "StopIteration")→E (.ref e) { s with heap:=h' }):wpAny (model prog w) A (Builtin.SmallTypes.nextOf (.ref b)) Q E s:=by
 obtain ⟨ob,gb,cb,db⟩:=id hb;obtain ⟨ot,gt,_,nt,dt⟩:=ht;unfold Builtin.SmallTypes.nextOf;refine wpAny_bind (wpAny_callSpecial?_slot (name:=Str.ofString "__next__") hb.typeIs slot_tupleiter_next (wpAny_call_entry slot_tupleiter_next hb.typeIs entry_tupleiter_next ?_ (args_tupleiter_next _)));refine show wpAny _ _ (field (.ref b) 0 >>= _) _ _ s from wpAny_bind (wpAny_field gb db (x:=.ref t) rfl ?_);refine show wpAny _ _ (if (Value.ref t == Value.none)=true then _ else _) _ _ s from ?_;rw [if_neg (by exact aAx)];refine show wpAny _ _ (field (.ref b) 1 >>= _) _ _ s from wpAny_bind (wpAny_field gb db (x:=.int k 0) rfl ?_);refine show wpAny _ _ (seqItems? (.ref t) >>= _) _ _ s from wpAny_bind (wpAny_seqItems gt dt ?_);simp only [hv,aBf];refine wpAny_bind (wpAny_rule (wpAny_bind (wpAny_setField gb db (by simp) ?_)));refine show wpAny _ _ (newExc (.type "StopIteration") [] >>= _) _ _ _ from wpAny_bind ?_;simp only [newTuple,newExc];refine wpAny_bind (wpAny_newObj_type (wpAny_bind (m:=firstArgMember _ _) (wpAny_of_eq (a:=Value.none) (by first | rfl | (simp only [firstArgMember];rfl)) (wpAny_newObj_type ?_ (by size_fits)))) (by size_fits));simp only [raiseNew];refine wpAny_bind (wpAny_handled ?_);rw [show A.in1.handled=none from hh];exact wpAny_bind (wpAny_pure (wpAny_throw (q _ _ (((Heap.SameBut.update ..).extBut.push _).push _) ⟨_,aAz _ rfl,rfl⟩)))
theorem tS {z P0 P1 u v l m:Addr} {k:Nat} {xs ys:Array Value} {x y a b:Value} {Q:Option Value→Shared→Prop} (D:ZipApart z P0 P1 u v l m) (Z:IsZip s.heap z P0 P1 .none) (I0:IsPair s.heap P0 (.ref u) (.ref v)) (I1:IsPair s.heap P1 a b)
  (wu:IsTupIter s.heap u l k) (wv:IsTupIter s.heap v m k) (tl:IsTup s.heap l xs) (tm:IsTup s.heap m ys) (ex:xs[k]?=some x) (ey:ys[k]?=some y)
  (q:∀ h',IsZip h' z P0 P1 (rawInt s.heap.objs.size)→IsPair h' P1 x y→IsTupIter h' u l (k+1)→IsTupIter h' v m (k+1)→IsPair h' s.heap.objs.size x y→h'.objs.size=s.heap.objs.size+1 →
   (∀ c o,c≠z→c≠P1→c≠u→c≠v→s.heap.get? c=some o→h'.get? c=some o)→Q (some (.ref s.heap.objs.size)) { s with heap:=h' }):wpAny (model prog w) A (pyNext (.ref z)) Q E s:=by
 have hT:s.TypeIs (.ref z) "zip" :=⟨_,Z,rfl⟩;unfold pyNext;refine wpAny_bind (wpAny_attempt (wpAny_callSpecial?_slot (name:=Str.ofString "__next__") hT F.slot_zip_next (wpAny_call_entry F.slot_zip_next hT F.entry_zip_next ?_ (F.args_zip_next_1 _))));refine show wpAny _ _ (field (.ref z) 2 >>= _) _ _ _ from wpAny_bind (wpAny_field Z rfl (x:=.bool false) rfl ?_);refine show wpAny _ _ (field (.ref z) 3 >>= _) _ _ _ from wpAny_bind (wpAny_field Z rfl (x:=.ref P0) rfl (wpAny_bind (wpAny_seqItems I0 rfl ?_)));refine show wpAny _ _ (Builtin.SmallTypes.ownedTupleIsFree (.ref z) >>= _) _ _ _ from wpAny_bind ?_;unfold Builtin.SmallTypes.ownedTupleIsFree;refine wpAny_bind (wpAny_field Z rfl (x:=.none) rfl (wpAny_pure ?_));rw [if_pos rfl];refine wpAny_bind (wpAny_rule (wpAny_bind (wpAny_field Z rfl (x:=.ref P1) rfl (wpAny_bind (wpAny_setField_rec Z (by simp) fun ha Za sa=>?_)))));replace Za:IsZip ha z P0 P1 .ellipsis:=Za;refine wpAny_bind ?_;simp only [List.zipIdx_cons,aAV,List.zipIdx_nil,aBp];refine wpAny_bind (wpAny_bind (wpAny_onRaise ?_));refine show wpAny _ _ (Builtin.SmallTypes.nextOf (.ref u) >>= _) _ _ _ from wpAny_bind (gU (wu.extBut sa.extBut D.i1z) (tl.extBut sa.extBut D.l1z) ex fun hb wb sb=>wpAny_pure ?_);have Ib:IsPair hb P1 a b:=sb.extBut _ _ D.TOi1 (sa.extBut _ _ D.TOz I1);refine wpAny_bind (wpAny_seqItems Ib rfl (wpAny_bind (wpAny_updateSeq_pair Ib fun hc Ic sc=>wpAny_bind (wpAny_letGo (wpAny_pure ?_)))));replace Ic:IsPair hc P1 x b:=Ic;refine wpAny_bind (wpAny_bind (wpAny_onRaise ?_));refine show wpAny _ _ (Builtin.SmallTypes.nextOf (.ref v) >>= _) _ _ _ from wpAny_bind (gU (((wv.extBut sa.extBut D.i2z).extBut sb.extBut D.i12.symm).extBut sc.extBut D.TOi2.symm) (((tm.extBut sa.extBut D.l2z).extBut sb.extBut D.l2i1).extBut sc.extBut D.l2TO) ey fun hd wd sd=>wpAny_pure ?_);have Id:IsPair hd P1 x b:=sd.extBut _ _ D.TOi2 Ic;refine wpAny_bind (wpAny_seqItems Id rfl (wpAny_bind (wpAny_updateSeq_pair Id fun he Ie se=>wpAny_bind (wpAny_letGo (wpAny_pure (wpAny_pure ?_))))));replace Ie:IsPair he P1 x y:=Ie;refine wpAny_bind (wpAny_seqItems Ie rfl (wpAny_bind (wpAny_newTuple ?_)));have size:he.objs.size=s.heap.objs.size:=by rw [se.1,sd.1,sc.1,sb.1,sa.1]
 have Ze:IsZip he z P0 P1 .ellipsis:=se.extBut _ _ D.TOz.symm (sd.extBut _ _ D.i2z.symm (sc.extBut _ _ D.TOz.symm (sb.extBut _ _ D.i1z.symm Za)));have keep:∀ c o,c≠z→c≠P1→c≠u→c≠v→s.heap.get? c=some o→he.get? c=some o:=fun c o n1 n2 n3 n4 e=>se.extBut _ _ n2 (sd.extBut _ _ n4 (sc.extBut _ _ n2 (sb.extBut _ _ n3 (sa.extBut _ _ n1 e))));have we:IsTupIter he u l (k+1):=((wb.extBut sc.extBut D.TOi1.symm).extBut sd.extBut D.i12).extBut se.extBut D.TOi1.symm;have we':IsTupIter he v m (k+1):=wd.extBut se.extBut D.TOi2.symm;have ltz:z < he.objs.size:=aAu Ze;refine show wpAny _ _ (Builtin.SmallTypes.ownedTupleHandOut (.ref z) (.ref he.objs.size) >>= _) _ _ _ from wpAny_bind ?_;unfold Builtin.SmallTypes.ownedTupleHandOut;have Zf:IsZip (he.push { cls:=.type "tuple",data:=.seq #[x,y] }) z P0 P1 .ellipsis:=aAe _ Ze;refine wpAny_bind (wpAny_setField_rec Zf (by simp) fun hg Zg sg=>?_);replace Zg:IsZip hg z P0 P1 (rawInt he.objs.size):=Zg;refine wpAny_setField_rec Zg (by simp) fun hi Zi si=>?_;replace Zi:IsZip hi z P0 P1 (rawInt he.objs.size):=Zi;have up:∀ c o,c≠z→he.get? c=some o→hi.get? c=some o:=fun c o n e=>si.extBut _ _ n (sg.extBut _ _ n (aAe _ e));have Ti:IsPair hi he.objs.size x y:=si.extBut _ _ (aBJ ltz) (sg.extBut _ _ (aBJ ltz) (aAz _ rfl));have size':hi.objs.size=he.objs.size+1:=by rw [si.1,sg.1,aA2]
 refine wpAny_pure ⟨_,rfl,wpAny_pure ?_⟩;rw [size] at Zi Ti size';have go:=q hi Zi (up _ _ D.TOz Ie) (by obtain ⟨o,e,r⟩:=we;exact ⟨o,up _ o D.i1z e,r⟩) (by obtain ⟨o,e,r⟩:=we';exact ⟨o,up _ o D.i2z e,r⟩) Ti size' fun c o n1 n2 n3 n4 e=>up c o n1 (keep c o n1 n2 n3 n4 e);rw [← size] at go;exact go
theorem ve {z P0 P1 u v l m:Addr} {k:Nat} {xs ys:Array Value} {a b:Value} {Q:Option Value→Shared→Prop} (hh:A.handled=none) (D:ZipApart z P0 P1 u v l m) (Z:IsZip s.heap z P0 P1 .none) (I0:IsPair s.heap P0 (.ref u) (.ref v)) (I1:IsPair s.heap P1 a b)
  (wu:IsTupIter s.heap u l k) (wv:IsTupIter s.heap v m k) (tl:IsTup s.heap l xs) (tm:IsTup s.heap m ys) (no:xs[k]?=none∨ys[k]?=none)
  (q:∀ h',(∀ c o,c≠z→c≠P1→c≠u→c≠v→s.heap.get? c=some o→h'.get? c=some o)→Q none { s with heap:=h' }):wpAny (model prog w) A (pyNext (.ref z)) Q E s:=by
 have hT:s.TypeIs (.ref z) "zip" :=⟨_,Z,rfl⟩;unfold pyNext;refine wpAny_bind (wpAny_attempt (wpAny_callSpecial?_slot (name:=Str.ofString "__next__") hT F.slot_zip_next (wpAny_call_entry F.slot_zip_next hT F.entry_zip_next ?_ (F.args_zip_next_1 _))));refine show wpAny _ _ (field (.ref z) 2 >>= _) _ _ _ from wpAny_bind (wpAny_field Z rfl (x:=.bool false) rfl ?_);refine show wpAny _ _ (field (.ref z) 3 >>= _) _ _ _ from wpAny_bind (wpAny_field Z rfl (x:=.ref P0) rfl (wpAny_bind (wpAny_seqItems I0 rfl ?_)));refine show wpAny _ _ (Builtin.SmallTypes.ownedTupleIsFree (.ref z) >>= _) _ _ _ from wpAny_bind ?_;unfold Builtin.SmallTypes.ownedTupleIsFree;refine wpAny_bind (wpAny_field Z rfl (x:=.none) rfl (wpAny_pure ?_));rw [if_pos rfl];refine wpAny_bind (wpAny_rule (wpAny_bind (wpAny_field Z rfl (x:=.ref P1) rfl (wpAny_bind (wpAny_setField_rec Z (by simp) fun ha Za sa=>?_)))));replace Za:IsZip ha z P0 P1 .ellipsis:=Za;refine wpAny_bind ?_;simp only [List.zipIdx_cons,aAV,List.zipIdx_nil,aBp];refine wpAny_bind (wpAny_bind (wpAny_onRaise ?_));have stop:∀ {h':Heap} {e:Addr},(∃ o,h'.get? e=some o∧o.cls=.type "StopIteration")→IsZip h' z P0 P1 .ellipsis→e≠z:=fun he hz c=>by
  obtain ⟨o,ho,hc⟩:=he;subst c;rw [hz] at ho
  cases ho
  simp at hc
 have fin:∀ {h':Heap} {e:Addr},(∃ o,h'.get? e=some o∧o.cls=.type "StopIteration")→(∀ c o,c≠z→c≠P1→c≠u→c≠v→s.heap.get? c=some o→h'.get? c=some o) →
   wpAny (model prog w) A (do if (← isInstance (.ref e) (.type "StopIteration")) then pure none else throw (.ref e)) Q E { s with heap:=h' }:=fun {h' e} he hk=>by
  obtain ⟨o,ho,hc⟩:=he;exact wpAny_bind (wpAny_isInstance (T:= "StopIteration") (b:=true) ⟨o,ho,hc⟩ isSubtype_stop (wpAny_pure (q _ hk)))
 cases ex:xs[k]? with
 | none =>
  refine show wpAny _ _ (Builtin.SmallTypes.nextOf (.ref u) >>= _) _ _ _ from wpAny_bind (mF hh (wu.extBut sa.extBut D.i1z) (tl.extBut sa.extBut D.l1z) ex fun hb e sb he=>?_);have Zb:IsZip hb z P0 P1 .ellipsis:=sb _ _ D.i1z.symm Za;have ne:=stop he Zb;obtain ⟨o,ho,hc⟩:=he;exact wpAny_setField_rec Zb (by simp) fun hd _ sd=>fin ⟨o,sd.extBut _ _ ne ho,hc⟩ fun c o n1 _ n3 _ e=>sd.extBut _ _ n1 (sb _ _ n3 (sa.extBut _ _ n1 e))
 | some x =>
  have ey:ys[k]?=none:=no.resolve_left (by rw [ex];simp);refine show wpAny _ _ (Builtin.SmallTypes.nextOf (.ref u) >>= _) _ _ _ from wpAny_bind (gU (wu.extBut sa.extBut D.i1z) (tl.extBut sa.extBut D.l1z) ex fun hb wb sb=>wpAny_pure ?_);have Ib:IsPair hb P1 a b:=sb.extBut _ _ D.TOi1 (sa.extBut _ _ D.TOz I1);refine wpAny_bind (wpAny_seqItems Ib rfl (wpAny_bind (wpAny_updateSeq_pair Ib fun hc Ic sc=>wpAny_bind (wpAny_letGo (wpAny_pure (wpAny_bind (wpAny_bind (wpAny_onRaise ?_))))))));refine show wpAny _ _ (Builtin.SmallTypes.nextOf (.ref v) >>= _) _ _ _ from wpAny_bind (mF hh (((wv.extBut sa.extBut D.i2z).extBut sb.extBut D.i12.symm).extBut sc.extBut D.TOi2.symm) (((tm.extBut sa.extBut D.l2z).extBut sb.extBut D.l2i1).extBut sc.extBut D.l2TO) ey fun hd e sd he=>?_);have Zd:IsZip hd z P0 P1 .ellipsis:=sd _ _ D.i2z.symm (sc.extBut _ _ D.TOz.symm (sb.extBut _ _ D.i1z.symm Za));have ne:=stop he Zd;obtain ⟨o,ho,hcl⟩:=he;exact wpAny_setField_rec Zd (by simp) fun hf _ sf=>fin ⟨o,sf.extBut _ _ ne ho,hcl⟩ fun c o n1 n2 n3 n4 e=>sf.extBut _ _ n1 (sd _ _ n4 (sc.extBut _ _ n2 (sb.extBut _ _ n3 (sa.extBut _ _ n1 e))))
theorem xS (hh:A.handled=none) (z P0 P1 u v l m:Addr) (D:ZipApart z P0 P1 u v l m) (xs ys:Array Value) :
  WalksT prog w A z [z,P0,P1,u,v,l,m] [z,P1,u,v] (min xs.size ys.size) (fun i vals=>∃ x y,xs[i]?=some x∧ys[i]?=some y∧vals=#[x,y])
   (fun i h=>IsZip h z P0 P1 .none∧IsPair h P0 (.ref u) (.ref v)∧(∃ a b,IsPair h P1 a b)∧IsTupIter h u l i∧IsTupIter h v m i∧IsTup h l xs∧IsTup h m ys)
   (fun i T h=>IsZip h z P0 P1 (rawInt T)∧IsPair h P0 (.ref u) (.ref v)∧(∃ a b,IsPair h P1 a b)∧IsTupIter h u l (i+1)∧IsTupIter h v m (i+1)∧IsTup h l xs∧IsTup h m ys∧T≠z∧T≠P1∧T≠u∧T≠v) where
 sub:=fun c hc=>by
  simp only [aAm,aAQ,or_false] at hc ⊢;rcases hc with h | h | h | h <;> simp [h]
 frame:=fun i h h' st kk=>by
  obtain ⟨Z,I0,⟨a,b,I1⟩,⟨o1,e1,r1⟩,⟨o2,e2,r2⟩,⟨o3,e3,r3⟩,⟨o4,e4,r4⟩⟩:=st;exact ⟨kk z (by simp) _ Z,kk P0 (by simp) _ I0,⟨a,b,kk P1 (by simp) _ I1⟩,⟨o1,kk u (by simp) _ e1,r1⟩,⟨o2,kk v (by simp) _ e2,r2⟩,⟨o3,kk l (by simp) _ e3,r3⟩,⟨o4,kk m (by simp) _ e4,r4⟩⟩
 item:=fun i s Q E hi st q=>by
  obtain ⟨Z,I0,⟨a,b,I1⟩,wu,wv,tl,tm⟩:=st;have h1:i < xs.size:=by lia
  have h2:i < ys.size:=by lia
  refine tS D Z I0 I1 wu wv tl tm (aBi h1) (aBi h2) fun h' a1 a2 a3 a4 a5 a6 kk=>?_;have far:∀ {c o},s.heap.get? c=some o→s.heap.objs.size≠c:=fun e=>aBJ (aAu e);obtain ⟨o1,e1,_⟩:=wu;obtain ⟨o2,e2,_⟩:=wv;obtain ⟨o3,e3,r3⟩:=tl;obtain ⟨o4,e4,r4⟩:=tm;refine q s.heap.objs.size #[xs[i],ys[i]] h' s.toks ⟨_,_,aBi h1,aBi h2,rfl⟩ (aAp _) ⟨_,a5,rfl,_,rfl⟩ ⟨a1,kk _ _ D.TIz D.TITO D.TIi1 D.TIi2 I0,⟨_,_,a2⟩,a3,a4,⟨o3,kk _ _ D.l1z D.l1TO D.l1i1 D.l1i2 e3,r3⟩,⟨o4,kk _ _ D.l2z D.l2TO D.l2i1 D.l2i2 e4,r4⟩,far Z,far I1,far e1,far e2⟩ fun c o hc e=>?_;simp only [aAm,aAQ,or_false,not_or] at hc;exact kk c o hc.1 hc.2.1 hc.2.2.1 hc.2.2.2 e
 go:=fun elts k pos i T s Q E st q=>by
  obtain ⟨Z,I0,⟨a,b,I1⟩,wu,wv,tl,tm,_⟩:=st;refine wpAny_letOwnedTupleGo_zip Z fun h' Z' s'=>q h' ⟨Z',s'.extBut _ _ D.TIz I0,⟨a,b,s'.extBut _ _ D.TOz I1⟩,wu.extBut s'.extBut D.i1z,wv.extBut s'.extBut D.i2z,tl.extBut s'.extBut D.l1z,tm.extBut s'.extBut D.l2z⟩ fun c o hc e=>?_;simp only [aAm,aAQ,or_false,not_or] at hc;exact s'.extBut _ _ hc.1 e
 apart:=fun i T h st hT=>by
  obtain ⟨_,_,_,_,_,_,_,n1,n2,n3,n4⟩:=st;simp only [aAm,aAQ,or_false] at hT;rcases hT with h | h | h | h
  ·exact n1 h
  ·exact n2 h
  ·exact n3 h
  ·exact n4 h
 done:=fun s Q E st q=>by
  obtain ⟨Z,I0,⟨a,b,I1⟩,wu,wv,tl,tm⟩:=st;have no:xs[min xs.size ys.size]?=none∨ys[min xs.size ys.size]?=none:=by
   rcases Nat.le_total xs.size ys.size with h | h
   ·exact .inl (aBY (by lia))
   ·exact .inr (aBY (by lia))
  refine ve hh D Z I0 I1 wu wv tl tm no fun h' kk=>q h' s.toks fun c o hc e=>?_;simp only [aAm,aAQ,or_false,not_or] at hc;exact kk c o hc.1 hc.2.1 hc.2.2.1 hc.2.2.2 e
 self:=fun i s Q E st q=>wpAny_pyIter_zip st.1 q
abbrev zT1 (h:Heap) (l:Addr):Heap:=h.push { cls:=.type "tuple_iterator",data:=.fields #[.ref l,.int 0 0] }
abbrev zT2 (h:Heap) (l m:Addr):Heap:=(zT1 h l).push { cls:=.type "tuple_iterator",data:=.fields #[.ref m,.int 0 0] }
abbrev zT3 (h:Heap) (l m:Addr):Heap:=(zT2 h l m).push { cls:=.type "tuple",data:=.seq #[.ref h.objs.size,.ref (zT1 h l).objs.size] }
abbrev zT4 (h:Heap) (l m:Addr):Heap:=(zT3 h l m).push { cls:=.type "tuple",data:=.seq #[.none,.none] }
abbrev zT5 (h:Heap) (l m:Addr):Heap:=(zT4 h l m).push { cls:=.type "zip",data:=.fields #[.none,.bool false,.bool false,.ref (zT2 h l m).objs.size,.ref (zT3 h l m).objs.size] }
theorem qR (l m:Addr) (xs ys:Array Value) :
  Meets (Builtin.«zip.__new__» ⟨[.type "zip",.ref l,.ref m],[]⟩) (fun _ R s=>IsTup s.heap l xs∧IsTup s.heap m ys∧R (.ok (.ret (.ref (zT4 s.heap l m).objs.size))) { s with heap:=zT5 s.heap l m }) :=
 .of_wp fun prog w A R s h=>by
  obtain ⟨hp,g,d,tk,os⟩:=s;obtain ⟨tl,tm,h⟩:=h;have sub:=sub_zip;have T1:IsTup (Shared.heap ⟨hp,g,d,tk,os⟩) l xs:=tl;have T2:IsTup (Shared.heap ⟨hp.push { cls:=.type "tuple_iterator",data:=.fields #[.ref l,.int 0 0] },g,d,tk,os⟩) m ys:=IsTup.push tm _
  wp_walk using iter_tuple T1,iter_tuple T2
  exact ⟨_,rfl,h⟩
theorem tT {l m:Addr} {xs ys:Array Value} {Q:Value→Shared→Prop} (tl:IsTup s.heap l xs) (tm:IsTup s.heap m ys)
  (q:∀ h',IsZip h' (s.heap.objs.size+4) (s.heap.objs.size+2) (s.heap.objs.size+3) .none→IsPair h' (s.heap.objs.size+2) (.ref s.heap.objs.size) (.ref (s.heap.objs.size+1))→IsPair h' (s.heap.objs.size+3) .none .none →
   IsTupIter h' s.heap.objs.size l 0→IsTupIter h' (s.heap.objs.size+1) m 0→h'.objs.size=s.heap.objs.size+5→(∀ c o,s.heap.get? c=some o→h'.get? c=some o)→Q (.ref (s.heap.objs.size+4)) { s with heap:=h' }) :
  wpAny (model prog w) A (call (.type "zip") [.ref l,.ref m]) Q E s:=by
 refine callType_new F.called_zip (by decide) (F.typeCall_zip_2 _ _) (F.newCall_zip_2 _ _) (fun obj=>F.args_object_init_3 obj _ _) F.entry_zip_new (qR l m xs ys) ⟨tl,tm,?_⟩;have n1:(zT1 s.heap l).objs.size=s.heap.objs.size+1:=aA2 ..;have n2:(zT2 s.heap l m).objs.size=s.heap.objs.size+2:=by rw [aA2,n1]
 have n3:(zT3 s.heap l m).objs.size=s.heap.objs.size+3:=by rw [aA2,n2]
 have n4:(zT4 s.heap l m).objs.size=s.heap.objs.size+4:=by rw [aA2,n3]
 have n5:(zT5 s.heap l m).objs.size=s.heap.objs.size+5:=by rw [aA2,n4]
 have e5:(zT5 s.heap l m).get? (zT4 s.heap l m).objs.size=some _:=aAz _ rfl;have e4:(zT5 s.heap l m).get? (zT3 s.heap l m).objs.size=some _:=aAe _ (aAz _ rfl);have e3:(zT5 s.heap l m).get? (zT2 s.heap l m).objs.size=some _:=aAe _ (aAe _ (aAz _ rfl));have e2:(zT5 s.heap l m).get? (zT1 s.heap l).objs.size=some _:=aAe _ (aAe _ (aAe _ (aAz _ rfl)));have e1:(zT5 s.heap l m).get? s.heap.objs.size=some _:=aAe _ (aAe _ (aAe _ (aAe _ (aAz _ rfl))));refine show _∧_ from ?_;rw [n2,n3,n4] at e5;rw [n1,n2] at e3;rw [n3] at e4;rw [n1] at e2;rw [n4];exact ⟨⟨_,e5,rfl⟩,q _ e5 e3 e4 ⟨_,e1,rfl,rfl⟩ ⟨_,e2,rfl,rfl⟩ n5 fun c o x=>aAe _ (aAe _ (aAe _ (aAe _ (aAe _ x))))⟩
end
def pz (K:W.Frag) (a b:Addr):It :=
 ⟨fun i H=>∃ xs ys x y,SqT K H a xs∧SqT K H b ys∧xs[i]?=some x∧ys[i]?=some y,
  fun i H v H'=>∃ T x y,v=.ref T∧H T=none∧H'=upd H T (.tup [x,y])∧(∀ xs,SqT K H a xs→xs[i]?=some x)∧(∀ ys,SqT K H b ys→ys[i]?=some y),
  fun i H=>∃ xs ys,SqT K H a xs∧SqT K H b ys∧min xs.length ys.length=i⟩
def AV (z TI TO i1 i2 l1 l2:Addr) (i:Nat) (h:Heap):Prop:=IsZip h z TI TO .none∧IsPair h TI (.ref i1) (.ref i2)∧(∃ a b,IsPair h TO a b)∧IsTupIter h i1 l1 i∧IsTupIter h i2 l2 i
theorem tU {P:Program} {w:World} {K:W.Frag} {elts:List Expr} {k:Nat} {pos:Pos} (z TI TO i1 i2 l1 l2:Addr) (D:ZipApart z TI TO i1 i2 l1 l2) :
  Turn P w K (.Tuple elts k pos) (pz K l1 l2) [z,TI,TO,i1,i2] z (AV z TI TO i1 i2 l1 l2) where
 mem:=by simp
 obj:=fun i h st b hb=>by
  obtain ⟨hz,hTI,⟨a,c,hTO⟩,⟨o1,e1,c1,d1⟩,⟨o2,e2,c2,d2⟩⟩:=st;simp only [aAm,aAQ,or_false] at hb;rcases hb with rfl | rfl | rfl | rfl | rfl
  ·exact ⟨_,hz,fun v q=>by cases q⟩
  ·exact ⟨_,hTI,fun v q=>by cases q⟩
  ·exact ⟨_,hTO,fun v q=>by cases q⟩
  ·exact ⟨o1,e1,fun v q=>by rw [d1] at q;cases q⟩
  ·exact ⟨o2,e2,fun v q=>by rw [d2] at q;cases q⟩
 keep:=fun i h h' st kk=>by
  obtain ⟨hz,hTI,⟨a,c,hTO⟩,⟨o1,e1,r1⟩,⟨o2,e2,r2⟩⟩:=st;exact ⟨kk z (by simp) _ hz,kk TI (by simp) _ hTI,⟨a,c,kk TO (by simp) _ hTO⟩,⟨o1,kk i1 (by simp) _ e1,r1⟩,⟨o2,kk i2 (by simp) _ e2,r2⟩⟩
 item:=by
  intro X hP hw hK hc i pins s σ H E I hf st hg;subst hP hw hK;obtain ⟨xs,ys,x,y,hx,hy,ex,ey⟩:=hg;obtain ⟨its,rv,p,hz⟩:=I.tuple hx;obtain ⟨its2,rv2,p2,hz2⟩:=I.tuple hy;obtain ⟨s1,s2,s3,s4,s5⟩:=st;have W:=xS (prog:=X.prog) (w:=X.w) (I.ok.hd hc) z TI TO i1 i2 l1 l2 D its.toArray its2.toArray;have li:i < xs.length:=(aAk.mp ex).1;have li2:i < ys.length:=(aAk.mp ey).1;have el:=rv.length;have el2:=rv2.length;have wsub:∀ b∈[z,TO,i1,i2],b∈[z,TI,TO,i1,i2]:=fun b hb=>by
   simp only [aAm,aAQ,or_false] at hb ⊢;rcases hb with rfl | rfl | rfl | rfl <;> simp
  refine W.item i s _ _ (by simp only [aAw];lia) ⟨s1,s2,s3,s4,s5,p,p2⟩ fun T vals h' tk hv hT hTup hm hk=>?_;obtain ⟨u,v,eu,ev,rfl⟩:=hv;obtain ⟨u',eu',ru⟩:=rv.get ex;obtain ⟨v',ev',rv'⟩:=rv2.get ey;have e1:u=u':=by
   have:its[i]?=some u:=by simpa using eu
   rw [eu'] at this;exact (Option.some.inj this).symm
  have e2:v=v':=by
   have:its2[i]?=some v:=by simpa using ev
   rw [ev'] at this;exact (Option.some.inj this).symm
  subst e1 e2;have hTn:H T=none:=I.hok.fresh hT;have I1:Inv X pins σ (upd H T (.tup [x,y])) { s with heap:=h',toks:=tk }:=I.turnedT hk (fun b hb=>hf b (wsub b hb)) hT ⟨by show 2≤sizeLine;decide,[u,v],.cons ru (.cons rv' .nil),hTup⟩;have ap:=W.apart i T h' hm;have f1:∀ b∈[z,TO,i1,i2],ip X pins (upd H T (.tup [x,y])) b:=fun b hb=>by
   obtain ⟨f0,f1⟩:=hf b (wsub b hb);exact ⟨by rw [ac (fun e:b=T=>ap (by rw [← e];exact hb))];exact f0,f1⟩
  refine ⟨_,rfl,W.go elts k pos i T _ _ _ hm fun h'' st2 hk2=>?_⟩;obtain ⟨t1,t2,t3,t4,t5,_,_⟩:=st2;refine ⟨.ref T,_,Inv.turnedL (s:={ s with heap:=h',toks:=tk }) (t':=tk) I1 hk2 f1,rfl,⟨T,x,y,rfl,hTn,rfl,fun zs q=>by rw [I.tuple_inj q hx];exact ex,fun zs q=>by rw [I.tuple_inj q hy];exact ey⟩,⟨t1,t2,t3,t4,t5⟩,fun b hb=>?_⟩;have fb:=(hf b hb).1
  by_cases e:b=T
  ·subst e;have lti:s.heap.objs.size > TI:=aAu s2;simp only [aAm,aAQ,or_false] at hb;rcases hb with rfl | rfl | rfl | rfl | rfl
   ·exact absurd (by simp) ap
   ·exact absurd lti (Nat.not_lt.mpr hT)
   ·exact absurd (by simp) ap
   ·exact absurd (by simp) ap
   ·exact absurd (by simp) ap
  ·rw [ac e];exact fb
 done:=by
  intro X hP hw hK hc i pins s σ H E I hf st hg;subst hP hw hK;obtain ⟨xs,ys,hx,hy,hi⟩:=hg;obtain ⟨its,rv,p,hz⟩:=I.tuple hx;obtain ⟨its2,rv2,p2,hz2⟩:=I.tuple hy;obtain ⟨s1,s2,s3,s4,s5⟩:=st;have W:=xS (prog:=X.prog) (w:=X.w) (I.ok.hd hc) z TI TO i1 i2 l1 l2 D its.toArray its2.toArray;have el:=rv.length;have el2:=rv2.length;have en:min its.toArray.size its2.toArray.size=i:=by simp only [aAw];lia
  have wsub:∀ b∈[z,TO,i1,i2],b∈[z,TI,TO,i1,i2]:=fun b hb=>by
   simp only [aAm,aAQ,or_false] at hb ⊢;rcases hb with rfl | rfl | rfl | rfl <;> simp
  refine W.done s _ _ ?_ fun h' tk hk=>⟨rfl,I.turnedL hk fun b hb=>hf b (wsub b hb)⟩;rw [en];exact ⟨s1,s2,s3,s4,s5,p,p2⟩
 self:=fun _ _ _ _ _ st h=>wpAny_pyIter_zip st.1 h
section
variable {X:Cx} {elts:List Expr} {k:Nat} {tpos:Pos}
def GH (K:W.Frag) (ta:TA):TI:=fun σ H R=>ta σ H fun vs H1=>∃ a b,vs=[.ref a,.ref b]∧(∃ xs,SqT K H1 a xs)∧(∃ ys,SqT K H1 b ys)∧R (pz K a b) H1
theorem xi {a b:Expr} {ta:TA} {p pos:Pos} (hg:Gl X "zip") (hm:X.mg "zip" = none) (ha:PA X [a,b] ta) (hs:starEach [a,b] X.env=[(false,eval a X.env),(false,eval b X.env)]:=by rfl) (hs2:starEach [b] X.env=[(false,eval b X.env)]:=by rfl) :
  PI X (.Tuple elts k tpos) (.Call (.Name "zip" p) [a,b] [] pos) (GH X.K ta):=by
 intro pins s σ H R I h;refine Call_ (i8 I hg hm boot_zip (PyProof.Rows.callWith_type1 (thn (ha pos pins s σ H _ I h) fun us s1 ⟨vs,H1,I1,r1,q1⟩=>?_) (by rw [hs,hs2]) (by rw [hs2];rfl)));obtain ⟨l1,l2,e,⟨xs,hx⟩,⟨ys,hy⟩,q⟩:=q1;subst e;obtain ⟨u,v,rfl,ru,rv⟩:=r1.two
 cases ru
 cases rv
 obtain ⟨its,rr,pl,hz⟩:=I1.tuple hx;obtain ⟨its2,rr2,pl2,hz2⟩:=I1.tuple hy;have lt1:l1 < s1.heap.objs.size:=by obtain ⟨o,e,_⟩:=pl;exact aAu e
 have lt2:l2 < s1.heap.objs.size:=by obtain ⟨o,e,_⟩:=pl2;exact aAu e
 refine tT pl pl2 fun h' z1 z2 z3 z4 z5 zs kk=>?_;have I2:Inv X pins σ H1 { s1 with heap:=h' }:=I1.kept (t':=s1.toks) kk;refine wpAny_pyIter_zip z1 ?_;refine ⟨_,_,_,_,H1,rfl,I2,tU _ _ _ _ _ l1 l2 ?_,⟨z1,z2,⟨_,_,z3⟩,z4,z5⟩,fun b hb=>?_,q⟩
 ·have lt1':s1.heap.objs.size > l1:=lt1;have lt2':s1.heap.objs.size > l2:=lt2
  constructor <;> (show ¬ (@Eq Nat _ _)) <;> lia
 ·have:s1.heap.objs.size≤b:=by
   simp only [aAm,aAQ,or_false] at hb;rcases hb with rfl | rfl | rfl | rfl | rfl <;> lia
  exact I1.fpOk this (I1.hok.fresh this)
end
theorem tV {K:W.Frag} {a b l:Addr} {xs ys:List V} {g:TG} {tb:List V→Addr→St→Hp→(List V→St→Hp→Prop)→Prop} {Q:VK} {σ0:St} {H0:Hp} (Pv:Nat→List V→St→Hp→Prop) (h0:Pv 0 [] σ0 H0)
  (hla:∀ i us σ H,Pv i us σ H→SqT K H a xs∧SqT K H b ys)
  (hs:∀ i x y T us σ H (N:List V→St→Hp→Prop),xs[i]?=some x→ys[i]?=some y→H T=none→Pv i us σ H→(∀ us' σ' H',Pv (i+1) us' σ' H'→N us' σ' H')→g (.ref T) σ (upd H T (.tup [x,y])) fun σ2 H2=>tb us l σ2 H2 N)
  (hd:∀ us σ H,Pv (min xs.length ys.length) us σ H→Q (.ref l) H) :
  ∃ W:Nat→Nat→List V→St→Hp→Prop,(∃ m,W 0 m [] σ0 H0)∧∀ i m us σ' H',W i m us σ' H'→((pz K a b).stop i H'∧Q (.ref l) H') ∨
   ((pz K a b).go i H'∧∀ x H'',(pz K a b).yld i H' x H''→g x σ' H'' fun σ2 H2=>tb us l σ2 H2 fun us' σ3 H3=>∃ m',m' < m∧W (i+1) m' us' σ3 H3):=by
 refine ⟨fun i m us σ H=>m=min xs.length ys.length - i∧i≤min xs.length ys.length∧Pv i us σ H,⟨_,rfl,aAD _,h0⟩,?_⟩;rintro i m us σ H ⟨rfl,hi,p⟩;obtain ⟨sa,sb⟩:=hla i us σ H p
 by_cases hlt:i < min xs.length ys.length
 ·obtain ⟨x,ex⟩:∃ x,xs[i]?=some x:=⟨_,aAv (by lia)⟩;obtain ⟨y,ey⟩:∃ y,ys[i]?=some y:=⟨_,aAv (by lia)⟩;refine .inr ⟨⟨xs,ys,x,y,sa,sb,ex,ey⟩,fun v H' q=>?_⟩;obtain ⟨T,x',y',rfl,hT,rfl,q1,q2⟩:=q;have e1:=q1 xs sa;have e2:=q2 ys sb;exact hs i x' y' T us σ H _ e1 e2 hT p fun us' σ' H' w=>⟨_,by lia,rfl,hlt,w⟩
 ·have e:i=min xs.length ys.length:=by lia
  subst e;exact .inl ⟨⟨xs,ys,sa,sb,rfl⟩,hd us σ H p⟩
section
variable {X:Cx} {K:W.Frag}
theorem mG:OpR X (compareOp .LtE) (fun x y H Q=>∃ i j,x=.str i∧y=.str j∧Q (.bl (!decide (j.cps.toList < i.cps.toList))) H):=by
 intro pins s σ H x y v u Q I rx ry h;obtain ⟨i,j,rfl,rfl,q⟩:=h;obtain ⟨t,rfl⟩:=rx;obtain ⟨t',rfl⟩:=ry;exact PySem.P.le_str (aI I q rfl)
end
section
variable {prog:Program} {w:World} {A:Around} {E:Value→Shared→Prop} {s:Shared}
end
section
variable {X:Cx}
def DicQ (K:W.Frag) (H:Hp) (p:Addr) (fs:List (Str×Dt)):Prop :=
 ∃ kvs,H p=some (.dK kvs)∧kvs.map (·.1)=fs.map (fun p=>(Sum.inr p.1:Key))∧∀ z,(rQ fs z=none→gK kvs (Sum.inr z:Key)=none)∧∀ d,rQ fs z=some d→∃ v,gK kvs (Sum.inr z:Key)=some v∧IsP K H d v
theorem DicQ.p {K:W.Frag} {H:Hp} {p:Addr} {fs:List (Str×Dt)} (h:DicQ K H p fs):HB K H p fs:=by
 obtain ⟨kvs,e,_,k⟩:=h;exact ⟨kvs,e,k⟩
end
section
variable {prog:Program} {w:World} {A:Around} {E:Value→Shared→Prop} {s:Shared}
end
section
variable {prog:Program} {w:World} {A:Around} {E:Value→Shared→Prop} {s:Shared}
end
section
variable {X:Cx} {pins:List (Addr×Obj)} {σ:St} {H H':Hp} {s:Shared} {h':Heap}
end
abbrev GI (j tk:Nat) (x:Value):Obj:={ cls:=.type "tuple",data:=.seq #[.int j tk,x] }
inductive Rws (h:Heap) (lo:Nat):Nat→List V→List (Addr×HO)→Prop
 | nil {j:Nat}:Rws h lo j [] []
 | cons {j T tk:Nat} {x:Value} {v:V} {vs:List V} {r:List (Addr×HO)}:lo < T→RelV v x→h.get? T=some (GI j tk x)→Rws h lo (j+1) vs r→Rws h lo j (v :: vs) ((T,plO [.int j,v] [.int j tk,x]) :: r)
theorem Rws.length {h:Heap} {lo:Nat}:∀ {j:Nat} {vs:List V} {r:List (Addr×HO)},Rws h lo j vs r→r.length=vs.length
 | _,_,_,.nil=>rfl
 | _,_,_,.cons _ _ _ r=>by rw [aAb,aAb,r.length]
section
variable {X:Cx}
end
section
variable {prog:Program} {w:World} {A:Around} {E:Value→Shared→Prop} {s:Shared}
end
section
variable {X:Cx}
end
section
variable {X:Cx} {tg:Expr} {pins:List (Addr×Obj)} {σ:St} {H:Hp} {s:Shared}
end
section
variable {X:Cx}
end
section
variable {a:Addr} {ob:Obj} {kvs:List (Key×V)} {g:TG} {l:Addr} {σ0:St} {H0:Hp} {R:Hp→Prop} {tb:List V→Addr→St→Hp→(List V→St→Hp→Prop)→Prop}
end
section
variable {X:Cx}
end
section
variable {prog:Program} {w:World} {A:Around} {E:Value→Shared→Prop} {s:Shared}
end
section
variable {X:Cx}
end
section
variable {X:Cx} {K:W.Frag}
end
section
variable {X:Cx} {K:W.Frag}
inductive JSlP (K:W.Frag) (x:V) (lo hi:Option Int) (H:Hp) (Q:VK):Prop
 | mk (l:List Dt):(IsP K H (.tup l) x)→(∀ v H',Same H H'→IsP K H' (.tup (tL l lo hi)) v→Q v H')→JSlP K x lo hi H Q
def HE (K:W.Frag):V→Option Int→Option Int→Hp→VK→Prop:=fun x lo hi H Q=>JSlP K x lo hi H Q
inductive JLenS (K:W.Frag) (xs:List V) (H:Hp) (Q:VK):Prop
 | mk (p:Addr) (ys:List V):(xs=[.ref p])→((SqL K H p ys∨SqT K H p ys))→(Q (.int ys.length) H)→JLenS K xs H Q
def GJ (K:W.Frag):List V→Hp→VK→Prop:=fun xs H Q=>JLenS K xs H Q
def xj (K:W.Frag):List V→Hp→VK→Prop:=fun xs H Q=>∃ p ys,xs=[.ref p]∧(SqL K H p ys∨SqT K H p ys)∧∀ l,H l=none→Q (.ref l) (upd H l (.lst ys))
def AW (K:W.Frag):List V→Hp→VK→Prop:=fun xs H Q=>∃ (p:Addr) (ss:List Str),xs=[.ref p]∧SqL K H p (ss.map V.str)∧ss.length < 64∧∀ a ss',H a=none→ss'.Perm ss→sortedS ss'=true→Q (.ref a) (upd H a (.lst (ss'.map V.str)))
def HF (K:W.Frag):List V→Hp→VK→Prop:=fun xs H Q=>∃ p ys,xs=[.ref p]∧true=true∧SqL K H p (bls ys)∧Q (.bl (ys.all id)) H
theorem eM (hK:X.K=K):SlR X (HE K):=by
 subst hK;intro pins s σ H x v vl vu lo hi sl Q I rx hs pl pu h;obtain ⟨l,a,q⟩:=h;exact w8 _ _ _ _ _ _ _ _ _ _ _ _ I rx hs pl pu ⟨l,a,q⟩
theorem iE (hK:X.K=K):SlR X (Gu K):=by subst hK;exact wP
theorem au (hK:X.K=K):OpR X (binaryOp .Add) (rV K):=by subst hK;exact xf
theorem bp (hK:X.K=K):bB X (.builtin "len") (GJ K):=by
 subst hK;intro pins s σ H xs us Q I r h;obtain ⟨x,l,a,b,q⟩:=h;exact iw _ _ _ _ _ _ _ I r ⟨x,l,a,b,q⟩
theorem gO (hK:X.K=K):bB X (.type "list") (xj K):=by subst hK;exact nc
theorem jO (hK:X.K=K):bB X (.builtin "sorted") (AW K):=by subst hK;exact qQ
theorem mH (hK:X.K=K) (hc:X.calm=true):bB X (.builtin "all") (HF K):=by
 subst hK;intro pins s σ H xs us Q I r h;obtain ⟨p,ys,rfl,_,hs,q⟩:=h;exact uX _ _ _ _ _ _ _ I r ⟨p,ys,rfl,hc,hs,q⟩
end
section
variable {K:W.Frag} {a b l:Addr} {xs ys:List V} {g:TG} {tb:List V→Addr→St→Hp→(List V→St→Hp→Prop)→Prop} {R:Hp→Prop} {σ0:St} {H0:Hp}
theorem qS (Pv:Nat→List V→St→Hp→Prop) (h0:Pv 0 [] σ0 H0) (hla:∀ i us σ H,Pv i us σ H→SqT K H a xs∧SqT K H b ys)
  (hs:∀ i x y T us σ H (N:List V→St→Hp→Prop),xs[i]?=some x→ys[i]?=some y→H T=none→Pv i us σ H→(∀ us' σ' H',Pv (i+1) us' σ' H'→N us' σ' H')→g (.ref T) σ (upd H T (.tup [x,y])) fun σ2 H2=>tb us l σ2 H2 N)
  (hd:∀ us σ H,Pv (min xs.length ys.length) us σ H→R H) :
  ∃ W:Nat→Nat→List V→St→Hp→Prop,(∃ m,W 0 m [] σ0 H0)∧∀ i m us σ' H',W i m us σ' H'→((pz K a b).stop i H'∧R H') ∨
   ((pz K a b).go i H'∧∀ x H'',(pz K a b).yld i H' x H''→g x σ' H'' fun σ2 H2=>tb us l σ2 H2 fun us' σ3 H3=>∃ m',m' < m∧W (i+1) m' us' σ3 H3):=tV (Q:=fun _ H=>R H) Pv h0 hla hs hd
end
section
variable {X:Cx} {K:W.Frag}
end
end L2
namespace PySem
open Sem (wp)
namespace F
end F
section
variable {prog:Program} {w:World} {K:Type} [DecidableEq K] {kd:KeyKind prog w K} {A:Around} {E:Value→Shared→Prop}
end
end PySem
namespace L2
open PySem PySem.Spec PyProof.Rows
def kDt:Key→Dt
 | .inl i=>.int i
 | .inr z=>.str z
theorem xl {K:W.Frag} {H:Hp} {k:Key} {v:V} (h:IsP K H (kDt k) v):v=kV k:=by
 cases k <;> (cases h;rfl)
theorem mI {K:W.Frag} {H:Hp}:∀ {ks:List Key} {xs:List V},IsPs K H (ks.map kDt) xs→xs=ks.map kV
 | [],_,h=>by cases h;rfl
 | k :: ks,_,h=>by
  cases h with
  | cons h r=>rw [xl h,mI r];rfl
def xT (P:Program) (w:World) (p:Addr) (xs:List (List Key×Addr×Value)) (h:Heap):Prop :=
 ∃ o es ep,h.get? p=some o∧o.ExactDict∧o.data=.dict es ep∧es.toList=xs.map (entryOfKey (tupleKind (aW P w)))∧(xs.map (·.1)).Nodup
def DicT (P:Program) (w:World) (K:W.Frag) (H:Hp) (p:Addr) (kvs:List (List Key×Dt)):Prop :=
 (p == sysModules)=false∧∃ xs:List (List Key×Addr×Value),H p=some (.ext (xT P w p xs)) ∧
  Paired (fun (a:List Key×Dt) (b:List Key×Addr×Value)=>a.1=b.1∧IsP K H (.tup (a.1.map kDt)) (.ref b.2.1)∧∃ v,RelV v b.2.2∧IsP K H a.2 v) kvs xs
section
variable {X:Cx} {pins:List (Addr×Obj)} {σ:St} {H:Hp} {s:Shared}
theorem rY (I:Inv X pins σ H s) {ks:List Key} {a:Addr} (h:IsP X.K H (.tup (ks.map kDt)) (.ref a)):IsTupleKey (aW X.prog X.w) s.heap ks a:=by
 obtain ⟨b,ys,e,ha,_,ra⟩:=h.unref
 cases e
 obtain ⟨its,r,⟨o,h1,h2,n,h3⟩,_⟩:=I.tuple ha;rw [mI ra] at r;exact ⟨o,its.toArray,n,h1,h2,h3,by simpa using jg r⟩
theorem DicT.dict {p:Addr} {kvs:List (List Key×Dt)} (I:Inv X pins σ H s) (h:DicT X.prog X.w X.K H p kvs):(p == sysModules)=false∧∃ xs:List (List Key×Addr×Value),s.heap.DictOfH (tupleKind (aW X.prog X.w)) p xs ∧
  Paired (fun (a:List Key×Dt) (b:List Key×Addr×Value)=>a.1=b.1∧IsP X.K H (.tup (a.1.map kDt)) (.ref b.2.1)∧∃ v,RelV v b.2.2∧IsP X.K H a.2 v) kvs xs:=by
 obtain ⟨e0,xs,e,r⟩:=h;obtain ⟨⟨o,es,ep,h1,h2,h3,h4,h5⟩,_⟩:=(show ObjOk X.prog X.w H s.heap p (.ext (xT X.prog X.w p xs)) from I.hok p _ e);refine ⟨e0,xs,⟨o,es,ep,h1,h2,h3,h4,fun y hy=>?_,h5⟩,r⟩;have all:∀ {l:List (List Key×Dt)} {m:List (List Key×Addr×Value)},Paired (fun (a:List Key×Dt) (b:List Key×Addr×Value)=>a.1=b.1∧IsP X.K H (.tup (a.1.map kDt)) (.ref b.2.1)∧∃ v,RelV v b.2.2∧IsP X.K H a.2 v) l m→∀ y∈m,IsTupleKey (aW X.prog X.w) s.heap y.1 y.2.1:=by
  intro l m q
  induction q with
  | nil=>intro y hy;exact nomatch hy
  | @cons p q ps qs hq t ih =>
   intro y hy;rcases aAm.mp hy with rfl | hy
   ·rw [← hq.1];exact rY I hq.2.1
   ·exact ih y hy
 exact all r y hy
end
end L2
namespace PySem
open Sem (wp)
section
variable {prog:Program} {w:World} {K:Type} [DecidableEq K] {knd:HeapKind prog w K} {A:Around} {E:Value→Shared→Prop} {s:Shared}
end
end PySem
namespace L2
open PySem PySem.Spec PyProof.Rows
section
variable {X:Cx} {pins:List (Addr×Obj)} {σ:St} {H:Hp} {s:Shared}
end
theorem u2 {A:Around} (h:A.units+64 < cLine):A.units+2 < cLine:=by lia
section
variable {X:Cx} {o e f:Expr} {apos cpos:Pos} {td ty tx:TE}
end
end L2
namespace PySem
open Sem (wp)
open PyProof.Rows
section
variable {prog:Program} {w:World} {A:Around} {E:Value→Shared→Prop} {s:Shared} {δ:Type} {R:δ→Value→Prop} {h₀:Heap} {a:Addr} {D:List (Str×δ)} {k:Str} {tk:Tok}
theorem fP {Q:Option Value→Shared→Prop} (T:KTD.TabOf R h₀ a D) (kp:∀ b o,h₀.get? b=some o→s.heap.get? b=some o) (q1:∀ d v,KTD.datumAt k D=some d→R d v→Q (some v) { s with toks:=s.toks+1 })
  (q2:KTD.datumAt k D=none→Q none { s with toks:=s.toks+1 }):wpAny (model prog w) A (dictGet a (.str k tk)) Q E s:=by
 obtain ⟨_,o,es,ep,ho0,hc,hd,hr⟩:=T;have ho:=kp _ _ ho0;obtain ⟨l⟩:=es;unfold dictGet
 try with_reducible refine wpAny_holding ?_
 refine wpAny_bind (wpAny_pyHash_str (wpAny_bind (KTD.kt_dictFind_strs (s:={ s with toks:=s.toks+1 }) ho hd (by simpa using hr.exact) ?_)));have hq:Q (findBy (fun k v=>v.isStr k) (Array.mk l) k) { s with toks:=s.toks+1 }:=by
  rw [show findBy (fun k v=>v.isStr k) (Array.mk l) k=(l.find? fun e=>e.key.isStr k).map (·.val) by simp [findBy]]
  cases hat:KTD.datumAt k D with
  | none=>rw [show (l.find? fun e=>e.key.isStr k).map (·.val)=none by have:=hr.find_none hat;simpa using this];exact q2 hat
  | some d =>
   obtain ⟨v,hv,rv⟩:=hr.find_some hat;rw [show (l.find? fun e=>e.key.isStr k).map (·.val)=some v from hv];exact q1 d v hat rv
 rw [findBy_of_findIdx?] at hq
 cases hi:(Array.mk l).findIdx? fun e=>e.key.isStr k with
 | some i=>rw [hi] at hq;exact wpAny_bind (wpAny_dictEntries (s:={ s with toks:=s.toks+1 }) ho hd (wpAny_pure hq))
 | none=>rw [hi] at hq;exact wpAny_pure hq
end
end PySem
namespace L2
open PySem PySem.Spec PyProof.Rows
def kN (K:W.Frag) (a:Addr) (D:List (Str×Addr)):Prop:=∀ h,K.In h→KTD.TabOf (fun b v=>v=Value.ref b) h a D
theorem Bm {K:W.Frag} {a:Addr} {D:List (Str×Addr)} (e:KTD.tabLook (fun b v=>v == Value.ref b) (fun b=>K.lookup b) a D=true):kN K a D :=
 fun _ X=>KTD.tab_of_look (L:=fun b v=>v == Value.ref b) (R:=fun b v=>v=Value.ref b) (fun _ _ z=>eq_of_beq z) (fun b o q=>X b o q) e
def nB (K:W.Frag) (b:Addr) (ws:List Str):Bool:=match K.lookup b with
 | some o=>o.cls == .type "tuple" && (match o.data with | .seq vs _=>KTD.strsLook vs.toList ws && decide (vs.size≤1000) | _=>false)
 | none=>false
def vg (K:W.Frag) (D:List (Addr×List Str)):Bool:=D.all fun p=>nB K p.1 p.2
def kO (K:W.Frag) (D:List (Addr×List Str)):Prop:=∀ p∈D,∀ H:Hp,SqT K H p.1 (p.2.map V.str)
theorem GK {K:W.Frag} {D:List (Addr×List Str)} (e:vg K D=true):kO K D:=by
 intro p hp H;have e1:nB K p.1 p.2=true:=aAO.mp e p hp;unfold nB at e1
 split at e1
 ·rename_i o ho
  simp only [aAB] at e1;obtain ⟨e2,e3⟩:=e1
  split at e3
  ·rename_i vs n hd
   simp only [aAB] at e3;exact .inr ⟨o,vs,n,ho,eq_of_beq e2,hd,aBa (av (of_decide_eq_true e3.2)),jh (KTD.strs_of_look e3.1)⟩
  ·cases e3
 ·cases e1
def fQ (k:Str):List (Str×Addr)→Option Addr
 | []=>none
 | (x,b) :: D=>if k=x then some b else fQ k D
theorem kP {k:Str}:∀ D:List (Str×Addr),KTD.datumAt k D=fQ k D
 | []=>rfl
 | (x,b) :: D=>by
  show (if decide (k=x)=true then some b else KTD.datumAt k D)=_
  by_cases h:k=x
  ·simp [fQ,h]
  ·simp [fQ,h,kP D]
section
variable {X:Cx}
end
section
variable {prog:Program} {w:World} {A:Around} {E:Value→Shared→Prop} {s:Shared}
end
section
variable {prog:Program} {w:World} {A:Around} {E:Value→Shared→Prop} {s:Shared}
end
section
variable {prog:Program} {w:World} {K:Type} [DecidableEq K] {knd:KeyKind prog w K} {A:Around} {E:Value→Shared→Prop}
end
section
variable {prog:Program} {w:World} {K:Type} [DecidableEq K] {knd:KeyKind prog w K} {A:Around} {E:Value→Shared→Prop}
end
section
variable {X:Cx}
end
section
variable {X:Cx}
end
open AutoSeq1 (wpAny_loadPart')
structure ZOut (lo:Nat) (xs ys acc:Array Value) (h:Heap):Prop where
 pr:∀ (j:Nat) (e:Value),acc[j]?=some e→∃ (T:Addr) (x y:Value),e=.ref T∧lo≤T∧xs[j]?=some x∧ys[j]?=some y∧IsPair h T x y
 ij:∀ (j k:Nat) (e:Value),acc[j]?=some e→acc[k]?=some e→j=k
theorem ZOut.keep {lo:Nat} {xs ys acc:Array Value} {h h':Heap} (Z:ZOut lo xs ys acc h) (k:∀ T x y,lo≤T→IsPair h T x y→IsPair h' T x y):ZOut lo xs ys acc h' :=
 ⟨fun j e hj=>by obtain ⟨T,x,y,a,b,c,d,f⟩:=Z.pr j e hj;exact ⟨T,x,y,a,b,c,d,k T x y b f⟩,Z.ij⟩
section
variable {prog:Program} {w:World} {A:Around} {E:Value→Shared→Prop} {s:Shared}
end
section
variable {prog:Program} {w:World} {A:Around} {E:Value→Shared→Prop} {s:Shared}
end
abbrev GN (x y:Value):Obj:={ cls:=.type "tuple",data:=.seq #[x,y] }
inductive RwZ (h:Heap) (lo:Nat):List V→List V→List (Addr×HO)→Prop
 | nil:RwZ h lo [] [] []
 | cons {T:Nat} {x y:Value} {v u:V} {vs us:List V} {r:List (Addr×HO)}:lo≤T→RelV v x→RelV u y→h.get? T=some (GN x y)→RwZ h lo vs us r→RwZ h lo (v :: vs) (u :: us) ((T,plO [v,u] [x,y]) :: r)
theorem RwZ.length {h:Heap} {lo:Nat} {vs us:List V} {r:List (Addr×HO)} (R:RwZ h lo vs us r):r.length=vs.length:=by
 induction R with
 | nil=>rfl
 | cons _ _ _ _ _ ih=>rw [aAb,aAb,ih]
section
variable {X:Cx}
end
end L2
namespace L2
open PySem PySem.Spec PyProof.Rows
open AutoSeq1 (wpAny_loadPart')
section
variable {prog:Program} {w:World} {A:Around} {E:Value→Shared→Prop} {s:Shared}
end
section
variable {X:Cx}
end
end L2
namespace L2
open PySem PySem.Spec PyProof.Rows
section
variable {X:Cx} {o e:Expr} {es:List Expr} {to:TE} {t:TA} {name:Str} {apos cpos:Pos} {T id:String} {r:V→List V→Hp→VK→Prop}
end
section
variable {P:Program} {w:World} {A:Around} {E:Value→Shared→Prop} {s:Shared}
end
section
variable {P:Program} {w:World} {A:Around} {R:Result→Shared→Prop} {it:Addr} {fp wr:List Addr} {G:Array GenState→Array GenState→Prop} {n:Nat} {Pt:Nat→Value→Prop} {St:Nat→Shared→Prop}
end
section
variable {P:Program} {w:World} {A:Around} {E:Value→Shared→Prop} {s:Shared}
end
section
variable {P:Program} {w:World} {A:Around} {E:Value→Shared→Prop} {s:Shared}
def SIt (h:Heap) (I a:Addr) (first:Value) (i n ep:Nat):Prop:=∃ o,h.get? I=some o∧o.cls=.type "set_iterator" ∧o.data=.fields #[first,.int i 0,.ref a,.int n 0,.int ep 0]
theorem SIt.type {I a:Addr} {first:Value} {i n ep:Nat} (x:SIt s.heap I a first i n ep):s.TypeIs (.ref I) "set_iterator" :=let ⟨o,ho,hc,_⟩:=x;⟨o,ho,hc⟩
theorem SIt.at {h h':Heap} {I a:Addr} {first:Value} {i n ep:Nat} (x:SIt h I a first i n ep) (e:∀ o,h.get? I=some o→h'.get? I=some o):SIt h' I a first i n ep:=let ⟨o,ho,r⟩:=x;⟨o,e _ ho,r⟩
end
section
variable {P:Program} {w:World} {A:Around} {E:Value→Shared→Prop} {s:Shared}
end
section
variable {P:Program} {w:World} {A:Around} {E:Value→Shared→Prop} {s:Shared}
end
section
variable {P:Program} {w:World} {A:Around} {E:Value→Shared→Prop} {s:Shared}
end
section
variable {P:Program} {w:World} {A:Around} {E:Value→Shared→Prop} {s:Shared}
end
section
variable {P:Program} {w:World} {A:Around} {E:Value→Shared→Prop} {s:Shared}
end
section
variable {X:Cx}
end
section
variable {X:Cx} {elts:List Expr} {k:Nat} {tpos:Pos}
end
section
variable {X:Cx} {o e f:Expr} {apos cpos:Pos} {td ty tx:TE}
end
section
variable {X:Cx} {e st:Expr} {te tst:TE} {p2 pos:Pos}
end
end L2
namespace PySem
open Sem (wp)
section
variable {M:Model} {A:Around} {E:Value→Shared→Prop} {s:Shared}
end
end PySem
namespace PySem
open Sem (wp)
section
variable {prog:Program} {w:World} {A:Around} {E:Value→Shared→Prop} {s:Shared} {env:Env}
variable {nm q:Str} {C N:Addr} {bs bm bmB:List Value} {hdct:Bool} {sn:List Str} {sub:List Value} {ab:Bool} {col:Option Bool} {dd:Option Addr} {k0 k1 k2 k3 k5:Option Value} {B newId initId:String}
end
end PySem
namespace L2
open PySem PySem.Spec PyProof.Rows
section
variable {X:Cx} {pins:List (Addr×Obj)} {σ:St} {H:Hp} {s:Shared}
end
end L2
namespace PySem
open Sem (wp)
section
variable {prog:Program} {w:World} {A:Around} {E:Value→Shared→Prop} {s:Shared} {env:Env}
variable {nm q:Str} {C N:Addr} {bs bm bmB:List Value} {hdct:Bool} {sn:List Str} {sub:List Value} {ab:Bool} {col:Option Bool} {dd:Option Addr} {k0 k1 k2 k3 k5:Option Value} {B newId initId:String}
end
end PySem
namespace L2
open PySem PySem.Spec PyProof.Rows
section
variable {X:Cx} {pins:List (Addr×Obj)} {σ:St} {H:Hp} {s:Shared}
end
end L2
namespace PySem
open Sem (wp)
section
variable {prog:Program} {w:World} {K:Type} [DecidableEq K] {kd:KeyKind prog w K} {k0:K} {A:Around} {E:Value→Shared→Prop} {s:Shared}
def IsBoxKey (kd:KeyKind prog w K) (k0:K) (h:Heap) (k:K) (a:Addr):Prop :=
 ∃ o u b n,h.get? a=some o∧o.cls=.type "tuple" ∧o.data=.seq #[u,.ref b] n∧kd.is k0 u=true∧IsTupleKey kd h [k] b
theorem IsBoxKey.tuple {k:K} {a:Addr} (x:IsBoxKey kd k0 s.heap k a):s.TypeIs (.ref a) "tuple" :=let ⟨o,_,_,_,q,c,_⟩:=x;⟨o,q,c⟩
theorem IsBoxKey.one {h:Heap} {a:Addr} {x y:K} (p:IsBoxKey kd k0 h x a) (q:IsBoxKey kd k0 h y a):x=y:=by
 obtain ⟨o,u,b,n,p1,p2,p3,p4,p5⟩:=p;obtain ⟨o',u',b',n',q1,q2,q3,q4,q5⟩:=q;obtain rfl:o=o':=Option.some.inj (p1.symm.trans q1);rw [p3] at q3;injection q3 with e _
 have e2:u=u'∧b=b':=by simpa using e
 obtain ⟨rfl,rfl⟩:=e2;exact List.cons.inj (p5.inj q5) |>.1
theorem IsBoxKey.stay {h h':Heap} {k:K} {a d:Addr} {o:Obj} {es ep} (x:IsBoxKey kd k0 h k a) (q:h.get? d=some o) (qd:o.data=.dict es ep) (sb:Heap.SameBut d h h'):IsBoxKey kd k0 h' k a:=by
 obtain ⟨o',u,b,n,p1,p2,p3,p4,p5⟩:=x;have ne:a≠d:=by
  rintro rfl;obtain rfl:o'=o:=Option.some.inj (p1.symm.trans q);rw [qd] at p3;exact nomatch p3
 exact ⟨o',u,b,n,(sb.2 a ne).trans p1,p2,p3,p4,p5.keeps q qd sb⟩
def nD (kd:KeyKind prog w K) (k0 k:K):Int:=reduceHash (Builtin.Tuple.tupleHashOf [kd.hash k0,tupleKeyHash kd [k]])
theorem vh {k:K} {a:Addr} {Q:Int→Shared→Prop} (hu:A.units+1 < cLine) (x:IsBoxKey kd k0 s.heap k a) (z:Q (nD kd k0 k) { s with toks:=s.toks+4 }) :
  wpAny (model prog w) A (pyHash (.ref a)) Q E s:=by
 have ty:=x.tuple;obtain ⟨o,u,b,n,p1,_,p3,p4,p5⟩:=x;unfold pyHash
 first | unfold pyHashByItsType | skip
 first | refine wpAny_bind (wpAny_cRoomFor_or (.inr (aBN (aA9 _) hu)) ?_) | skip
 refine wpAny_bind (wpAny_specialOf ty F.slot_tuple_hash.lookup ?_);show wpAny _ _ (if (some (Value.builtin "tuple.__hash__") == some Value.none)=true then _ else _) Q E s;rw [if_neg (by rw [beq_builtin_none];exact aAx)];refine wpAny_bind (wpAny_specialOf ty F.slot_tuple_hash.lookup ?_);show wpAny _ _ (callSpecialIfBoundUnlessNone? (.ref a) "__hash__" _ >>= _) Q E s;refine wpAny_bind (wpAny_callSpecialIfBoundUnlessNone?_slot ty F.slot_tuple_hash (wpAny_call_entry F.slot_tuple_hash ty F.entry_tuple_hash ?_ (F.args_tuple_hash_1 _)));show wpAny _ _ (Builtin.Tuple.tupleItemsOf (.ref a) >>= _) _ _ s;refine wpAny_bind (wpAny_tupleItemsOf p1 p3 ?_);refine wpAny_bind ?_;rw [← aBD];show wpAny _ _ (forIn [u,Value.ref b] _ _) _ _ _;rw [aAV];refine wpAny_bind (wpAny_bind (kd.pyHash p4 ?_))
 first | refine wpAny_pure ?_ | refine wpAny_bind (wpAny_pure (wpAny_pure ?_))
 show wpAny _ _ (forIn [Value.ref b] _ _) _ _ _;rw [aAV];refine wpAny_bind (wpAny_bind (wpAny_pyHash_tuple (knd:=kd) (ks:=[k]) (by exact hu) (by exact p5) ?_))
 first | refine wpAny_pure ?_ | refine wpAny_bind (wpAny_pure (wpAny_pure ?_))
 show wpAny _ _ (forIn ([]:List Value) _ _) _ _ _;rw [aBp];refine wpAny_pure ?_;show wpAny _ _ (retInt (Builtin.Tuple.tupleHashOf [kd.hash k0,tupleKeyHash kd [k]])) _ _ _;refine wpAny_ret_mkInt ?_;show wpAny _ _ (if (decide (-(2:Int) ^ 63≤Builtin.Tuple.tupleHashOf [kd.hash k0,tupleKeyHash kd [k]]) && decide (Builtin.Tuple.tupleHashOf [kd.hash k0,tupleKeyHash kd [k]] < 2 ^ 63))=true then _ else _) Q E _;unfold nD reduceHash at z
 split
 ·rename_i q
  rw [if_pos q] at z;exact wpAny_pure z
 ·rename_i q
  rw [if_neg q] at z;exact wpAny_bind (wpAny_rule (wpAny_pure z))
theorem vi {x y:K} {a b:Addr} {P:Fin→Shared→Prop} (hu:A.units+1 < cLine) (p:IsBoxKey kd k0 s.heap x a) (q:IsBoxKey kd k0 s.heap y b) (z:P (.done (.ret (.bool (decide (x=y))))) s) :
  wpAny (model prog w) A (Builtin.«tuple.__eq__» ⟨[.ref a,.ref b],[]⟩) P E s:=by
 have ty:=q.tuple;obtain ⟨oa,ua,ba,na,a1,_,a3,a4,a5⟩:=p;obtain ⟨ob,ub,bb,nb,b1,_,b3,b4,b5⟩:=q;show wpAny _ _ (isInstance (.ref b) (.type "tuple") >>= _) _ _ s;refine wpAny_bind (wpAny_isInstance ty isSubtype_tuple_tuple ?_);simp only [aBe,aAF,if_false];refine wpAny_bind (wpAny_tupleItemsOf a1 a3 ?_);refine wpAny_bind (wpAny_tupleItemsOf b1 b3 ?_);refine wpAny_bind ?_;show wpAny _ _ (forIn [(ua,ub),(Value.ref ba,Value.ref bb)] _ _) _ _ _;rw [aAV];refine wpAny_bind (wpAny_bind (kd.eqBool (a:=k0) (b:=k0) a4 b4 ?_));rw [decide_eq_true rfl];simp only [aBe,aAF,if_false];refine wpAny_pure ?_;show wpAny _ _ (forIn [(Value.ref ba,Value.ref bb)] _ _) _ _ _;rw [aAV];refine wpAny_bind (wpAny_bind (wpAny_eqBool_tuple (knd:=kd) (x:=[x]) (y:=[y]) (by lia) a5 b5 ?_))
 by_cases e:x=y
 ·subst e;rw [decide_eq_true rfl];rw [decide_eq_true rfl] at z;simp only [aBe,aAF,if_false];refine wpAny_pure ?_;show wpAny _ _ (forIn ([]:List (Value×Value)) _ _) _ _ _;rw [aBp];exact wpAny_pure (wpAny_pure z)
 ·have e':¬ [x]=[y]:=fun c=>e (List.cons.inj c).1;rw [decide_eq_false e'];rw [decide_eq_false e] at z;simp only [Bool.not_false,if_true];exact wpAny_bind (wpAny_pure (wpAny_pure (wpAny_pure (wpAny_pure z))))
theorem AX {x y:K} {a b:Addr} {Q:Bool→Shared→Prop} (hu:A.units+2 < cLine) (p:IsBoxKey kd k0 s.heap x a) (q:IsBoxKey kd k0 s.heap y b) (z:Q (decide (x=y)) s) :
  wpAny (model prog w) A (eqBool (.ref a) (.ref b)) Q E s:=by
 unfold eqBool
 try with_reducible refine wpAny_holding ?_
 show wpAny _ _ (if (Value.ref a == Value.ref b)=true then _ else _) Q E s
 by_cases ab:(Value.ref a == Value.ref b)=true
 ·rw [if_pos ab];have e:a=b:=by have:=eq_of_beq ab;injection this
  subst e;obtain rfl:=p.one q;exact wpAny_bind (wpAny_rule (wpAny_pure (by simpa using z)))
 ·rw [if_neg ab];exact wpAny_bind (wpAny_richCompare_same_room (op:=.Eq) p.tuple q.tuple F.slot_tuple_eq
   (wpAny_call_entry F.slot_tuple_eq p.tuple F.entry_tuple_eq (vi (by exact hu) p q ⟨_,rfl,(fun e=>nomatch e),wpAny_truthy_bool z⟩) (F.args_tuple_eq_2 _ _)) (by lia))
theorem pA (m:Nat) {ks:List K} {a:Addr} {Q:Bool→Shared→Prop} (x:IsTupleKey kd s.heap ks a) (z:Q true s):wpAny (model prog w) A (eqIsQuiet (m+1) (.ref a)) Q E s:=by
 have ty:=x.typeIs;obtain ⟨o,its,n,p1,_,p3,p4⟩:=x;unfold eqIsQuiet;refine wpAny_bind (wpAny_specialOf ty F.slot_tuple_eq.lookup ?_);show wpAny _ _ (isInstance (.ref a) (.type "tuple") >>= _) _ _ s;refine wpAny_bind (wpAny_isInstance ty isSubtype_tuple_tuple ?_);simp only [aBe,aAF,if_false];refine wpAny_bind (wpAny_seqItems p1 p3 ?_);refine wpAny_bind ?_;show wpAny _ _ (forIn its _ _) _ _ s;rw [← aBD];refine wpAny_forIn_list _ (fun rest r s'=>r.1=none∧s'=s∧∀ v∈rest,carriedByValue v=true) _ ?_ ?_ _ _ ⟨rfl,rfl,p4.byValue⟩
 ·rintro v rest r s' ⟨hr,rfl,al⟩;rw [eqIsQuiet_byValue _ (al v aAi)];refine wpAny_bind (wpAny_pure ?_);simp only [aBe,aAF,if_false];exact wpAny_pure ⟨rfl,rfl,fun u hu'=>al u (aAg _ hu')⟩
 ·rintro ⟨r1,r2⟩ s' ⟨hr,rfl,_⟩;simp only at hr;subst hr;exact wpAny_pure z
theorem tW {k:K} {a:Addr} {Q:Bool→Shared→Prop} (x:IsBoxKey kd k0 s.heap k a) (z:Q true s):wpAny (model prog w) A (eqIsQuiet 8 (.ref a)) Q E s:=by
 have ty:=x.tuple;obtain ⟨o,u,b,n,p1,_,p3,p4,p5⟩:=x;unfold eqIsQuiet;refine wpAny_bind (wpAny_specialOf ty F.slot_tuple_eq.lookup ?_);show wpAny _ _ (isInstance (.ref a) (.type "tuple") >>= _) _ _ s;refine wpAny_bind (wpAny_isInstance ty isSubtype_tuple_tuple ?_);simp only [aBe,aAF,if_false];refine wpAny_bind (wpAny_seqItems p1 p3 ?_);refine wpAny_bind ?_;show wpAny _ _ (forIn #[u,Value.ref b] _ _) _ _ s;rw [← aBD];show wpAny _ _ (forIn [u,Value.ref b] _ _) _ _ s;rw [aAV,eqIsQuiet_byValue _ (kd.byValue _ _ p4)];refine wpAny_bind (wpAny_bind (wpAny_pure ?_));simp only [aBe,aAF,if_false];refine wpAny_pure ?_;show wpAny _ _ (forIn [Value.ref b] _ _) _ _ s;rw [aAV];refine wpAny_bind (wpAny_bind (pA _ p5 ?_));simp only [aBe,aAF,if_false];refine wpAny_pure ?_;show wpAny _ _ (forIn ([]:List Value) _ _) _ _ s;rw [aBp];exact wpAny_pure (wpAny_pure z)
end
def xm {prog:Program} {w:World} {K:Type} [DecidableEq K] (kd:KeyKind prog w K) (k0:K):HeapKind prog w K where
 is:=IsBoxKey kd k0
 hash:=nD kd k0
 draws:=fun _=>4
 room:=fun A=>A.units+2 < cLine
 inj:=fun p q=>p.one q
 keeps:=fun x q qd sb=>x.stay q qd sb
 pyHash:=fun hu x z=>vh (aBN (aA9 _) hu) x z
 eqBool:=fun hu p q z=>AX hu p q z
 quiet:=fun x z=>tW x z
section
variable {prog:Program} {w:World} {K:Type} [DecidableEq K] {knd:HeapKind prog w K} {A:Around} {E:Value→Shared→Prop} {s:Shared}
end
end PySem
namespace L2
open PySem PySem.Spec PyProof.Rows
theorem mJ {α β:Type} {F:α→β→Prop}:∀ {l:List α} {m:List β},Paired F l m→∀ {i:Nat} {p:α} {q:β},l[i]?=some p→m[i]?=some q→F p q
 | _,_,.nil,i,p,q,h,_=>by simp at h
 | _,_,.cons r t,0,p,q,h,g=>by
  obtain rfl:_=p:=by simpa using h
  obtain rfl:_=q:=by simpa using g
  exact r
 | _,_,.cons r t,i+1,p,q,h,g=>mJ t (by simpa using h) (by simpa using g)
theorem vj {H:Hp} {a p:Addr} {o:Obj} {u:HO} (mu:Mut (H p)) (e:H a=some (.frz o u)):a≠p:=by
 intro c;subst c;rw [e] at mu;exact mu
mutual
theorem rZ {K:W.Frag} {H H':Hp} {p:Addr} (mu:Mut (H p)) (g:But p H H'):∀ {d:Dt} {v:V},IsP K H d v→IsP K H' d v
 | _,_,.non=>.non
 | _,_,.bl=>.bl
 | _,_,.int=>.int
 | _,_,.str=>.str
 | _,_,.tup h pl q=>.tup (g.tup (by obtain ⟨o,u,e,dn⟩:=pl;exact vj mu e) h) (by
   obtain ⟨o,u,e,dn⟩:=pl;exact ⟨o,u,g _ _ (vj mu e) e,dn⟩) (bC mu g q)
theorem bC {K:W.Frag} {H H':Hp} {p:Addr} (mu:Mut (H p)) (g:But p H H'):∀ {l:List Dt} {xs:List V},IsPs K H l xs→IsPs K H' l xs
 | _,_,.nil=>.nil
 | _,_,.cons h q=>.cons (rZ mu g h) (bC mu g q)
end
def AY (k:Key):Dt:=.tup [.str "list",.tup [kDt k]]
abbrev sh (P:Program) (w:World):HeapKind P w Key:=xm (aW P w) (Sum.inr ("list" : Str))
def nE (P:Program) (w:World) (p:Addr) (ob:Obj) (xs:List (Key×Addr×Value)) (h:Heap):Prop :=
 h.get? p=some ob∧ob.ExactDict∧∃ es ep,ob.data=.dict es ep∧es.toList=xs.map (entryOfKey (sh P w))∧(xs.map (·.1)).Nodup
def DicO (P:Program) (w:World) (K:W.Frag) (H:Hp) (a:Addr) (ob:Obj) (kvs:List (Key×V)):Prop:=(a == sysModules)=false∧kvs.length≤sizeLine∧∃ xs,H a=some (.ext (nE P w a ob xs)) ∧
 Paired (fun (p:Key×V) (q:Key×Addr×Value)=>p.1=q.1∧IsP K H (AY p.1) (.ref q.2.1)∧RelV p.2 q.2.2) kvs xs
def DicE (P:Program) (w:World) (m:Bool) (K:W.Frag) (H:Hp) (a:Addr) (kvs:List (Key×V)):Prop:=match m with
 | false=>H a=some (.dK kvs)
 | true=>(∃ ob,DicO P w K H a ob kvs)∨(kvs=[]∧H a=some (.dK []))
section
variable {P:Program} {w:World} {K:W.Frag} {m:Bool} {H H':Hp} {a:Addr} {ob:Obj} {kvs:List (Key×V)}
theorem DicE.ne {r:Addr} {ys:List V} (h:DicE P w m K H a kvs) (hr:H r=some (.lst ys)):r≠a:=by
 intro c;subst c
 cases m with
 | false=>rw [show H r=some (.dK kvs) from h] at hr;cases hr
 | true =>
  rcases h with ⟨ob,_,_,_,e,_⟩ | ⟨_,e⟩
  ·rw [e] at hr;cases hr
  ·rw [e] at hr;cases hr
end
section
variable {X:Cx} {pins:List (Addr×Obj)} {σ:St} {H:Hp} {s:Shared}
theorem AZ (I:Inv X pins σ H s) {k:Key} {a:Addr} (h:IsP X.K H (AY k) (.ref a)):IsBoxKey (aW X.prog X.w) (Sum.inr ("list" : Str)) s.heap k a:=by
 obtain ⟨b,ys,e,ha,_,ra⟩:=IsP.unref h
 cases e
 obtain ⟨its,r,⟨o,h1,h2,n,h3⟩,_⟩:=I.tuple ha
 cases ra with
 | cons d1 ra =>
  cases ra with
  | cons d2 ra =>
   cases ra
   cases d1
   obtain ⟨c,zs,rfl,hc,pc,rc⟩:=IsP.unref d2
   cases r with
   | cons q1 r =>
    cases r with
    | cons q2 r =>
     cases r
     cases q2
     exact ⟨o,_,c,n,h1,h2,h3,rO (k:=Sum.inr ("list" : Str)) q1,rY I (ks:=[k]) (show IsP X.K H (.tup ([k].map kDt)) (.ref c) from d2)⟩
theorem DicO.dict {a:Addr} {ob:Obj} {kvs:List (Key×V)} (I:Inv X pins σ H s) (h:DicO X.prog X.w X.K H a ob kvs):(a == sysModules)=false∧kvs.length≤sizeLine∧∃ xs,s.heap.DictOfH (sh X.prog X.w) a xs∧nE X.prog X.w a ob xs s.heap∧H a=some (.ext (nE X.prog X.w a ob xs)) ∧
  Paired (fun (p:Key×V) (q:Key×Addr×Value)=>p.1=q.1∧IsP X.K H (AY p.1) (.ref q.2.1)∧RelV p.2 q.2.2) kvs xs:=by
 obtain ⟨e0,e1,xs,e,r⟩:=h;obtain ⟨oo,_⟩:=(show ObjOk X.prog X.w H s.heap a (.ext (nE X.prog X.w a ob xs)) from I.hok a _ e);obtain ⟨h1,h2,es,ep,h3,h4,h5⟩:=id oo;refine ⟨e0,e1,xs,⟨ob,es,ep,h1,h2,h3,h4,fun y hy=>?_,h5⟩,oo,e,r⟩;obtain ⟨i,hi⟩:=aBj hy;have hl:i < kvs.length:=by rw [Paired.length r];exact (aAk.mp hi).1
 have q:=mJ r (aAv hl) hi;rw [← q.1];exact AZ I q.2.1
end
section
variable {X:Cx} {P:Program} {w:World} {K:W.Frag} {o e f:Expr} {apos cpos pos:Pos} {td ty tx:TE}
end
section
variable {X:Cx} {tg:Expr} {P:Program} {w:World} {K:W.Frag}
end
section
variable {prog:Program} {w:World} {A:Around} {E:Value→Shared→Prop} {s:Shared}
end
section
variable {X:Cx} {K:W.Frag}
end
end L2
namespace PySem
open PyProof.Rows PySem.Spec
section
variable {prog:Program} {w:World} {h₀:Heap} {k:Str} {tk:Tok} {a:Addr} {α:Type} {R:α→Value→Prop} {D:List (Str×α)}
theorem pB:MeetsIn prog w (Builtin.«dict.get» ⟨[.ref a,.str k tk],[]⟩) (fun _ Rr s=>KTD.TabOf R h₀ a D∧(∀ b o,h₀.get? b=some o→s.heap.get? b=some o)∧(∀ d v,KTD.datumAt k D=some d→R d v→Rr (.ok (.ret v)) { s with toks:=s.toks+1 }) ∧
  (KTD.datumAt k D=none→Rr (.ok (.ret .none)) { s with toks:=s.toks+1 })) :=
 .of_wp fun A Rr s ⟨T,kp,h1,h2⟩=>by
  show wpAny _ _ (dictGet a (.str k tk) >>= _) _ _ s;refine wpAny_bind (fP T kp (fun d v ha hv=>wpAny_pure ⟨v,rfl,h1 d v ha hv⟩) fun hn=>wpAny_bind (m:=Builtin.Dict.missed a (.str k tk)) (wpAny_missed_other T.1 (wpAny_pure ⟨.none,rfl,h2 hn⟩)))
end
end PySem
namespace L2
open PySem PySem.Spec PyProof.Rows
structure Mn (K:W.Frag) (C:Addr) (m q:Str) (st:Stmt) (ps:List Str) (f:Addr) (fd:FuncData):Prop where
 meth:Meth K C m f
 F:Fun K m q st f fd
 b:Binds K fd ps []
structure Mi (K:W.Frag) (C:Addr) (m q:Str) (st:Stmt) (ps:List Str) (f:Addr) (fd:FuncData):Prop where
 makes:Mk K C f
 F:Fun K m q st f fd
 b:Binds K fd ps []
def vm (y z:Str) (i:Int):Int:=match Builtin.Str.occurrences y z (PySem.fromIndex y.length i) y.length 1 with
 | k :: _=>(k:Int)
 | []=>-1
theorem kQ:∀ {zs:List Str} {us:List Value},Vals (zs.map V.str) us→StrsAre us zs
 | [],us,h=>by cases h;exact .nil
 | z :: zs,us,h=>by
  cases h with
  | cons r h =>
   obtain ⟨t,rfl⟩:=r;exact .cons z t (kQ h)
section
variable {X:Cx}
theorem vn:MtM X "str.find" (fun x vs H Q=>∃ y z i,x=.str y∧vs=[.str z,.int i]∧Q (.int (vm y z i)) H):=by
 intro pins s σ H x vs v us Q I rx rv h;obtain ⟨y,z,i,rfl,rfl,q⟩:=h;obtain ⟨t,rfl⟩:=rx;obtain ⟨u1,u2,rfl,⟨t1,rfl⟩,⟨t2,rfl⟩⟩:=rJ rv;exact call_gives PySem.F.slot_str_find (typeIs_str _ _ _) PySem.F.entry_str_find (PySem.F.args_str_find_3 _ _ _) (gives_str_find_from y z i t t1 t2) ⟨.int _,H,I.tok _,⟨_,rfl⟩,q⟩
theorem qT:MtM X "str.lstrip" (fun x vs H Q=>∃ y z,x=.str y∧vs=[.str z]∧y.length≤sizeLine∧Q (.str (Txt.lstripChars y z)) H):=by
 intro pins s σ H x vs v us Q I rx rv h;obtain ⟨y,z,rfl,rfl,hl,q⟩:=h;obtain ⟨t,rfl⟩:=rx;obtain ⟨u,rfl,t1,rfl⟩:=rv.one;exact SC.lstripChars (fun t' k=>⟨.str _,H,I.kept (t':=k) (fun _ _ e=>e),⟨t',rfl⟩,q⟩) hl
theorem fR:MtM X "str.join" (fun x vs H Q=>∃ (sp:Str) (p:Addr) (zs:List Str),x=.str sp∧vs=[.ref p]∧(SqL X.K H p (zs.map V.str)∨SqT X.K H p (zs.map V.str))∧(zs.map (·.length)).sum+zs.length*sp.length≤16777216∧Q (.str (Txt.join sp zs)) H):=by
 intro pins s σ H x vs v us Q I rx rv h;obtain ⟨sp,p,zs,rfl,rfl,hp,hz,q⟩:=h;obtain ⟨t,rfl⟩:=rx;obtain ⟨u,rfl,e⟩:=rv.one
 cases e
 rcases hp with hp | hp
 ·obtain ⟨its,rr,pl,_⟩:=I.list hp;exact join_list pl.isList (by simpa using kQ rr) hz fun t' k=>⟨.str _,H,I.kept (t':=k) (fun _ _ e=>e),⟨t',rfl⟩,q⟩
 ·obtain ⟨its,rr,pl,_⟩:=I.tuple hp;exact join_tuple pl (by simpa using kQ rr) hz fun t' k=>⟨.str _,H,I.kept (t':=k) (fun _ _ e=>e),⟨t',rfl⟩,q⟩
abbrev TJ:=St→Hp→Str→(Str→Hp→Prop)→Prop
def PJ (X:Cx) (es:List Expr) (t:TJ):Prop:=∀ (pins:List (Addr×Obj)) (s:Shared) (σ:St) (H:Hp) (out:Str) (Q:Str→Hp→Prop),Inv X pins σ H s→t σ H out Q→wpAny (model X.prog X.w) X.A (joinParts out (evalEach es X.env)) (EP X pins σ fun x H'=>∃ z,x=.str z∧Q z H') X.xe s
def tJn:TJ:=fun _ H out Q=>out.length≤sizeLine∧Q out H
def tJe (te:TE) (t:TJ):TJ:=fun σ H out Q=>te σ H fun x H1=>∃ y,x=.str y∧y.length≤sizeLine∧(out++y).length≤sizeLine∧t σ H1 (out++y) Q
def tJ (t:TJ):TE:=fun σ H Q=>t σ H Str.empty fun z H'=>Q (.str z) H'
theorem qU:PJ X [] tJn:=fun pins s σ H out Q I h=>joinParts_nil ⟨.str out,H,I.tok _,⟨_,rfl⟩,out,rfl,h.2⟩ h.1
theorem ji {e:Expr} {es:List Expr} {te:TE} {t:TJ} (he:PE X e te) (hr:PJ X es t):PJ X (e :: es) (tJe te t):=fun pins s σ H out Q I h =>
 joinParts_cons (thn (he pins s σ H _ I h) fun v s1 ⟨x,H1,I1,rx,y,ex,_,hl,q⟩=>by
  subst ex;obtain ⟨t0,rfl⟩:=rx;exact ⟨hl,hr pins s1 σ H1 _ Q I1 q⟩)
theorem gW {e:Expr} {es:List Expr} {te:TE} {t:TJ} {pos:Pos} (he:PE X e te) (hr:PJ X es t):PJ X (.FormattedValue e (-1) none pos :: es) (tJe te t):=fun pins s σ H out Q I h =>
 joinParts_cons (PyProof.Rows.FormattedValue_plain (thn (he pins s σ H _ I h) fun v s1 ⟨x,H1,I1,rx,y,ex,hy,hl,q⟩=>by
  subst ex;obtain ⟨t0,rfl⟩:=rx;exact formatField_str (fun t' tk=>⟨hl,hr pins _ σ H1 _ Q (I1.kept (t':=tk) fun _ _ e=>e) q⟩) hy))
theorem nF {e1 e2:Expr} {es:List Expr} {t:TJ} {pos:Pos} (h:PJ X (e1 :: e2 :: es) t):PE X (.JoinedStr (e1 :: e2 :: es) pos) (tJ t):=fun pins s σ H Q I q =>
 JoinedStr_many (thn (h pins s σ H Str.empty _ I q) fun v s1 ⟨x,H1,I1,rx,z,ex,q1⟩=>by
  subst ex;exact ⟨.str z,H1,I1,rx,q1⟩)
def A0 (D:List (Str×Addr)) (t:TA):TE:=fun σ H Q=>t σ H fun vs H1=>∃ k,vs=[.str k]∧Q (match fQ k D with | some b=>.ref b | none=>.non) H1
theorem kR {x:Str} {ad:Addr} {D:List (Str×Addr)} {e:Expr} {t:TA} {p apos cpos:Pos} (hD:kN X.K ad D) (hg:Gl X x) (hm:X.mg x=some (.ref ad)) (ha:PA X [e] t) (hdb:(x == ("__debug__" : Str))=false:=by decide)
  (hbase:attributeBase (.Name x p) "get" X.env (eval (.Name x p) X.env)=eval (.Name x p) X.env:=by rfl)
  (hfew:((backTo cpos (starEach [e] X.env)).all (fun x=>!x.1) && (backToKw cpos (keywordEach [] X.env)).all (fun x=>x.1.isSome)
   && decide (([e]:List Expr).length+([]:List Keyword).length+(if ([]:List Keyword).isEmpty then 0 else 1) < 30))=true:=by rfl)
  (hline:(apos.endLine == cpos.line)=true:=by rfl) (hs:starEach [e] X.env=(false,eval e X.env) :: starEach [] X.env:=by rfl) :
  PE X (.Call (.Attribute (.Name x p) "get" apos) [e] [] cpos) (A0 D t):=by
 intro pins s σ H Q I h;have T:∀ {s':Shared} {σ':St} {H':Hp} {pins':List (Addr×Obj)},Inv X pins' σ' H' s'→KTD.TabOf (fun b v=>v=Value.ref b) X.base ad D:=fun J=>hD _ J.ok.mod.kin;have ty0:∀ {s':Shared} {σ':St} {H':Hp} {pins':List (Addr×Obj)},Inv X pins' σ' H' s'→s'.TypeIs (.ref ad) "dict" ∧(∀ b,Value.ref ad=.ref b→∃ ob,s'.heap.get? b=some ob∧ob.dict=none):=fun {s' σ' H' pins'} J=>by
  obtain ⟨_,o,_,_,ho,hc,_⟩:=T J;refine ⟨⟨o,J.bk _ _ ho,hc.1⟩,fun b q=>?_⟩;injection q with q
  subst q;exact ⟨o,J.bk _ _ ho,hc.2.1⟩
 refine wpAny_Call_method_late hbase hfew hline rfl (im I hg hm ?_ hdb);refine ⟨"dict","dict.get",PySem.F.plainAttrs_dict,PySem.F.slot_dict_get,PySem.F.type_dict_get,(ty0 I).1,(ty0 I).2,?_⟩;have hA:=ha cpos pins s σ H _ I h;rw [hs] at hA ⊢;refine Calls.callWith_builtin (by rfl) (Calls.evalArgs_plain ?_);refine thn hA fun us s2 ⟨vs,H2,I2,r2,k,e2,q2⟩=>?_;subst e2;obtain ⟨u,rfl,ru⟩:=dE r2;obtain ⟨tk,rfl⟩:=ru;refine call_meetsIn PySem.F.slot_dict_get (ty0 I2).1 PySem.F.entry_dict_get (PySem.F.args_dict_get_2 _ _) (pB (h₀:=X.base) (D:=D) (R:=fun b v=>v=Value.ref b)) ⟨T I2,fun b o z=>I2.bk b o z,fun b v hb hv=>?_,fun hn=>?_⟩
 ·subst hv;rw [← kP,hb] at q2;exact ⟨.ref b,H2,I2.tok _,rfl,q2⟩
 ·rw [← kP,hn] at q2;exact ⟨.non,H2,I2.tok _,rfl,q2⟩
end
def nG (K:W.Frag) (a:Addr) (D:List (Str×Str)):Prop:=∀ h,K.In h→KTD.TabOf (fun z v=>∃ t,v=Value.str z t) h a D
theorem Bn {K:W.Frag} {a:Addr} {D:List (Str×Str)} (e:KTD.tabLook (fun z v=>v.isStr z) (fun b=>K.lookup b) a D=true):nG K a D :=
 fun _ X=>KTD.tab_of_look (L:=fun z v=>v.isStr z) (R:=fun z v=>∃ t,v=Value.str z t) (fun z v h=>by
  cases v with
  | str y t=>exact ⟨t,by have:(y == z)=true:=h;rw [eq_of_beq this]⟩
  | _=>cases h) (fun b o q=>X b o q) e
def fS (k:Str):List (Str×Str)→Option Str
 | []=>none
 | (x,b) :: D=>if k=x then some b else fS k D
theorem eO {k:Str}:∀ D:List (Str×Str),KTD.datumAt k D=fS k D
 | []=>rfl
 | (x,b) :: D=>by
  show (if decide (k=x)=true then some b else KTD.datumAt k D)=_
  by_cases h:k=x
  ·simp [fS,h]
  ·simp [fS,h,eO D]
section
variable {X:Cx} {K:W.Frag}
theorem A1 (hK:X.K=K):OpR X (compareOp .In) (fun x y H Q=>∃ k ad D,x=.str k∧y=.ref ad∧nG K ad D∧Q (.bl (fS k D).isSome) H):=by
 subst hK;intro pins s σ H x y v u Q I rx ry h;obtain ⟨k,ad,D,rfl,rfl,hD,q⟩:=h;obtain ⟨tk,rfl⟩:=rx
 cases ry
 have T:=hD _ I.ok.mod.kin;have ty:s.TypeIs (.ref ad) "dict" :=by
  obtain ⟨_,o,_,_,ho,hc,_⟩:=T;exact ⟨o,I.bk _ _ ho,hc.1⟩
 show wpAny _ _ ((do return Value.bool (← contains (.ref ad) (.str k tk))):Sem Value) _ _ s;refine wpAny_bind ?_;unfold contains
 try with_reducible refine wpAny_holding ?_
 refine wpAny_bind (wpAny_specialOf ty slot_dict_contains.lookup ?_);show wpAny _ _ (if (some (Value.builtin "dict.__contains__") == some Value.none)=true then _ else _) _ _ s;rw [if_neg (by rw [beq_builtin_none];exact aAx)];refine wpAny_bind (wpAny_callSpecialUnlessNone?_slot (name:=Str.ofString "__contains__") ty slot_dict_contains
  (wpAny_call_entry slot_dict_contains ty entry_dict_contains ?_ (args_dict_contains _ _)))
 show wpAny _ _ (dictGet ad (.str k tk) >>= _) _ _ s;refine wpAny_bind (fP T (fun b o z=>I.bk b o z) (fun z v hz hv=>?_) fun hn=>?_)
 ·rw [eO] at hz;rw [hz] at q;exact wpAny_pure ⟨_,rfl,wpAny_truthy_bool (wpAny_pure ⟨.bl true,H,I.tok _,rfl,q⟩)⟩
 ·rw [eO] at hn;rw [hn] at q;exact wpAny_bind (m:=Builtin.Dict.pendingKey? ad (.str k tk)) (wpAny_pendingKey_other T.1 (wpAny_pure ⟨_,rfl,wpAny_truthy_bool (wpAny_pure ⟨.bl false,H,I.tok _,rfl,q⟩)⟩))
def GO (K:W.Frag) (td ty:TE):TE:=fun σ H Q=>td σ H fun x H1=>ty σ H1 fun y H2=>∃ k ad D z,x=.ref ad∧y=.str k∧nG K ad D∧fS k D=some z∧Q (.str z) H2
theorem xn {o e:Expr} {td ty:TE} {pos:Pos} (hK:X.K=K) (ho:PE X o td) (hi:PE X e ty) (hs:AU e):PE X (.Subscript o e pos) (GO K td ty):=by
 subst hK;intro pins s σ H Q I h;refine rP PySem.F.slot_dict_getitem.lookup hs (thn (ho pins s σ H _ I h) fun u s1 ⟨x,H1,I1,rx,q1⟩=>thn (hi pins s1 σ H1 _ I1 q1) fun iv s2 ⟨y,H2,I2,ry,k,ad,D,z,ex,ey,hD,hz,q2⟩=>?_);subst ex ey;obtain rfl:u=Value.ref ad:=rx;obtain ⟨tk,rfl⟩:=ry;have T:=hD _ I2.ok.mod.kin;have ty:s2.TypeIs (.ref ad) "dict" :=by
  obtain ⟨_,o,_,_,ho,hc,_⟩:=T;exact ⟨o,I2.bk _ _ ho,hc.1⟩
 refine ⟨ty,?_⟩;unfold getItem
 try with_reducible refine wpAny_holding ?_
 refine wpAny_bind (wpAny_sequenceKey ty (by decide) ?_);refine wpAny_bind (wpAny_callSpecial?_slot (name:=Str.ofString "__getitem__") ty slot_dict_getitem
  (wpAny_call_entry slot_dict_getitem ty entry_dict_getitem ?_ (args_dict_getitem _ _)))
 show wpAny _ _ (dictGet ad (.str k tk) >>= _) _ _ s2;refine wpAny_bind (fP T (fun b o z=>I2.bk b o z) (fun z' v hz' hv=>?_) fun hn=>?_)
 ·rw [eO,hz] at hz'
  cases hz'
  obtain ⟨t,rfl⟩:=hv;exact wpAny_pure ⟨_,rfl,wpAny_pure ⟨.str z,H2,I2.tok _,⟨t,rfl⟩,q2⟩⟩
 ·rw [eO,hz] at hn
  cases hn
end
def xU (K:W.Frag) (a:Addr) (bs:List Addr):Prop:=∀ H:Hp,SqT K H a (bs.map V.ref)
end L2
namespace PySem
namespace StrLaws
open Builtin Builtin.Str
theorem pC (s sub:Str) (hi:Nat):∀ (l:List Nat) (a:Array Nat) (fr:Nat),1≤a.size→(forIn l (a,fr) (occBody s sub hi 1)).run.fst=a
 | [],a,fr,h=>rfl
 | j :: l,a,fr,h=>by
  rw [aAV];unfold occBody;rw [if_neg (fun z=>by have:a.size < 1:=z.1.1.1;lia)];exact pC s sub hi l a fr h
theorem pD (s sub:Str) (hi:Nat):∀ (l:List Nat) (fr:Nat),(∀ i∈l,fr≤i) →
  (forIn l ((#[]:Array Nat),fr) (occBody s sub hi 1)).run.fst=match l.find? (fun i=>decide (i+sub.length≤hi∧subAt s sub i=true)) with | some i=>#[i] | none=>#[]
 | [],fr,_=>rfl
 | a :: l,fr,hf=>by
  rw [aAV];unfold occBody;have ha:fr≤a:=hf a (aAi ..)
  by_cases hc:a+sub.length≤hi∧subAt s sub a=true
  ·rw [if_pos ⟨⟨⟨by show 0 < 1;decide,ha⟩,hc.1⟩,hc.2⟩,aA4,decide_eq_true hc];exact pC s sub hi l _ _ (by simp)
  ·rw [if_neg (fun h=>hc ⟨h.1.2,h.2⟩),aA4,decide_eq_false hc];exact pD s sub hi l fr fun i hi'=>hf i (aAg _ hi')
theorem occ_one (x:Str) (c lo:Nat):occurrences x ⟨#[c]⟩ lo x.length 1=match (x.cps.toList.drop lo).findIdx? (· == c) with | some i=>[lo+i] | none=>[]:=by
 rw [occ_eq,pD x ⟨#[c]⟩ x.length _ lo (fun i hi=>by rw [List.mem_range'_1] at hi;exact hi.1)];have key:∀ (n lo:Nat),lo+n=x.length+1→(List.range' lo n).find? (fun i=>decide (i+(⟨#[c]⟩:Str).length≤x.length∧subAt x ⟨#[c]⟩ i=true))=((x.cps.toList.drop lo).findIdx? (· == c)).map (lo + ·):=by
  intro n
  induction n with
  | zero =>
   intro lo h;rw [aAS (by rw [aAU];have:x.length=x.cps.size:=rfl;lia)]
   rfl
  | succ n ih =>
   intro lo h;rw [List.range'_succ];have dk:decide (lo+(⟨#[c]⟩:Str).length≤x.length∧subAt x ⟨#[c]⟩ lo=true)=decide (x.cps.toList[lo]?=some c):=by
    rw [decide_eq_decide];exact subAt_one x c lo
   by_cases hlt:lo < x.cps.toList.length
   ·rw [aA6 hlt]
    by_cases e:x.cps.toList[lo]=c
    ·rw [List.find?_cons_of_pos (by rw [dk,aAv hlt,e];simp),aBE];simp [e]
    ·rw [aBZ (by rw [dk,aAv hlt];simpa using e),ih (lo+1) (by lia),aBE];have:(x.cps.toList[lo] == c)=false:=by simpa using e
     rw [this]
     cases (x.cps.toList.drop (lo+1)).findIdx? (· == c) with
     | none=>rfl
     | some i=>simp;lia
   ·rw [aBZ (by rw [dk,aBv (by lia)];simp),ih (lo+1) (by lia),aAS (by lia),aAS (by lia)]
    rfl
 by_cases hlo:lo≤x.length+1
 ·rw [key (x.length+1 - lo) lo (by lia)]
  cases (x.cps.toList.drop lo).findIdx? (· == c) <;> rfl
 ·rw [show x.length+1 - lo=0 by lia,aAS (by rw [aAU];have:x.length=x.cps.size:=rfl;lia)]
  rfl
end StrLaws
end PySem
namespace L2
open PySem PySem.Spec PyProof.Rows
section
variable {X:Cx}
theorem gX:OpR X (binaryOp .Mult) (fun x y H Q=>∃ (z:Str) (n:Int),x=.str z∧y=.int n∧1≤z.length∧z.length≤100∧0≤n∧n≤100∧∀ z':Str,z'.cps.toList=(List.replicate n.toNat z.cps.toList).flatten→Q (.str z') H):=by
 intro pins s σ H x y v u Q I rx ry h;obtain ⟨z,n,rfl,rfl,hz1,hz,h0,h1,q⟩:=h;obtain ⟨t,rfl⟩:=rx;obtain ⟨t',rfl⟩:=ry;have hm:z.length*n.toNat≤10000:=aAA (Nat.mul_le_mul hz (show n.toNat≤100 by lia)) (by decide);refine PySem.P.mul_str ?_ (fun c0 _=>?_) (fun _ _=>?_) ?_
 ·rw [decide_eq_false (by lia),decide_eq_false (by lia)]
  rfl
 ·intro c1;have c2:(z.length:Int) > (2 ^ 63 - 1) / n:=c1;have:(z.length:Int)≤(2 ^ 63 - 1) / n:=(Int.le_ediv_iff_mul_le (by lia)).mpr (by
   have hm':((z.length*n.toNat:Nat):Int)≤10000:=by lia
   rw [Int.natCast_mul,Int.toNat_of_nonneg h0] at hm';lia)
  lia
 ·exact decide_eq_false (Nat.not_lt.mpr (aAA hm (by decide)))
 ·by_cases c1:n < 1
  ·rw [if_pos c1];refine ⟨aAD _,.str _,H,I.tok _,⟨_,rfl⟩,q _ ?_⟩;rw [show n.toNat=0 by lia]
   rfl
  ·rw [if_neg c1]
   by_cases c2:n=1
   ·subst c2;exact ⟨.str _,H,I,⟨_,rfl⟩,q _ (by simp)⟩
   ·have c3:¬ (n == 1 || z.length == 0)=true:=by
     rw [show (z.length == 0)=false from by simp;lia,aB1]
     simpa using c2
    rw [if_neg c3];have e:((List.replicate n.toNat z.cps).foldl (·++·) #[]).toList=(List.replicate n.toNat z.cps.toList).flatten:=by
     have key:∀ (k:Nat) (acc:Array Nat),((List.replicate k z.cps).foldl (·++·) acc).toList=acc.toList++(List.replicate k z.cps.toList).flatten:=by
      intro k
      induction k with
      | zero=>intro acc;simp
      | succ k ih =>
       intro acc;rw [aA8,List.foldl_cons,ih,aA8,List.flatten_cons,aBx,aAJ]
     have:=key n.toNat #[]
     simpa using this
    refine ⟨?_,.str _,H,I.tok _,⟨_,rfl⟩,q _ e⟩;show (((List.replicate n.toNat z.cps).foldl (·++·) #[])).size≤sizeLine;rw [← aAU,e,List.length_flatten,List.map_replicate,List.sum_replicate_nat];rw [aAU,Nat.mul_comm];exact aAA hm (by decide)
end
def vo (vs:List Value) (bs:List Addr):Bool:=vs == bs.map Value.ref
def pE (K:W.Frag) (b:Addr) (bs:List Addr):Bool:=match K.lookup b with
 | some o=>o.cls == .type "tuple" && (match o.data with | .seq vs _=>vo vs.toList bs && decide (vs.size≤1000) | _=>false)
 | none=>false
theorem kS:∀ bs:List Addr,Vals (bs.map V.ref) (bs.map Value.ref)
 | []=>.nil
 | b :: bs=>.cons rfl (kS bs)
theorem GP {K:W.Frag} {a:Addr} {bs:List Addr} (e:pE K a bs=true):xU K a bs:=by
 intro H;unfold pE at e
 split at e
 ·rename_i o ho
  simp only [aAB] at e;obtain ⟨e2,e3⟩:=e
  split at e3
  ·rename_i vs n hd
   simp only [aAB] at e3;have ev:vs.toList=bs.map Value.ref:=eq_of_beq e3.1;exact .inr ⟨o,vs,n,ho,eq_of_beq e2,hd,aBa (av (of_decide_eq_true e3.2)),by rw [ev];exact kS bs⟩
  ·cases e3
 ·cases e
theorem mnM {K:W.Frag} {C f:Addr} {m q:Str} {st:Stmt} {ps:List Str} {od an:Option Addr} {sl:Array (Option Value)} {oc kV dc pm cd ct:Value} (a:W.findIn K (.ref C) m=some (some (.ref f))) (i:W.isFn K (.ref f)=true)
  (l:K.lookup f=some ⟨oc,od,.func (W.fnOf m q (cc st) (bH st) (ae st) .none kV dc pm an cd ct),sl⟩) (c:W.codeIn K cd q=true) (k:W.keepIn K (.ref f)=true)
  (b:∀ (kV doc pm:Value) (an:Option Addr) (cdv ct:Value) (us:List Value),us.length=ps.length→bindArgs (W.fnOf m q (cc st) (bH st) (ae st) .none kV doc pm an cdv ct) ⟨us,[]⟩=pure (ps.zip us)):∃ f fd,Mn K C m q st ps f fd :=
 ⟨f,_,⟨a,i,k⟩,jd (st:=st) l c k,(jd (st:=st) l c k).binds b⟩
theorem miM {K:W.Frag} {C f:Addr} {q:Str} {st:Stmt} {ps:List Str} {od an:Option Addr} {sl:Array (Option Value)} {oc kV dc pm cd ct:Value} (mk:W.makesIn K C=true) (a:W.findIn K (.ref C) "__init__" = some (some (.ref f))) (i:W.isFn K (.ref f)=true) (kc:W.keepIn K (.ref C)=true)
  (l:K.lookup f=some ⟨oc,od,.func (W.fnOf "__init__" q (cc st) (bH st) (ae st) .none kV dc pm an cd ct),sl⟩) (c:W.codeIn K cd q=true) (k:W.keepIn K (.ref f)=true)
  (b:∀ (kV doc pm:Value) (an:Option Addr) (cdv ct:Value) (us:List Value),us.length=ps.length→bindArgs (W.fnOf "__init__" q (cc st) (bH st) (ae st) .none kV doc pm an cdv ct) ⟨us,[]⟩=pure (ps.zip us)):∃ f fd,Mi K C "__init__" q st ps f fd :=
 ⟨f,_,⟨mk,a,i,kc⟩,jd (st:=st) l c k,(jd (st:=st) l c k).binds b⟩
section
variable {X:Cx}
theorem qV:bB X (.type "str") (fun xs H Q=>(∃ i,xs=[.int i]∧i.natAbs.log2 < 1920∧Q (.str (toString i)) H)∨∃ z,xs=[.str z]∧Q (.str z) H):=by
 intro pins s σ H xs us Q I r h;rcases h with ⟨i,rfl,hz,q⟩ | ⟨z,rfl,q⟩
 ·obtain ⟨u,rfl,t,rfl⟩:=dE r;exact PySem.P.str_of_int hz ⟨.str _,H,I.tok _,⟨_,rfl⟩,q⟩
 ·obtain ⟨u,rfl,t,rfl⟩:=dE r;exact PySem.P.str_of_str ⟨.str _,H,I,⟨_,rfl⟩,q⟩
def GQ (K:W.Frag):R2:=fun x y H Q=>∃ (p:Addr) (as:List Addr) (ds:List Dt) (d:Dt),y=.ref p∧SqL K H p (as.map V.ref)∧as.Nodup∧IsDs K H ds (as.map V.ref)∧IsD K H d x∧cA ds≤60∧Q (.bl (ds.any fun e=>eqD e d)) H
theorem sj:∀ {as:List Addr} {us:List Value},Vals (as.map V.ref) us→us=as.map Value.ref
 | [],_,h=>by cases h;rfl
 | a :: as,_,h=>by
  cases h with
  | cons r t =>
   cases r
   rw [sj t]
   rfl
theorem A2 {K:W.Frag} (hK:X.K=K) (hu:X.A.units+64 < cLine):OpR X (compareOp .In) (GQ K):=by
 subst hK;intro pins s σ H x y v u Q I rx ry h;obtain ⟨p,as,ds,d,rfl,hq,nd,hds,hd,hdep,q⟩:=h
 cases ry
 obtain ⟨its,r,pl,hz⟩:=I.list hq;have eu:=sj r;subst eu;have ld:ds.length=as.length:=by rw [hds.length,aAa]
 let f:Value→Bool:=fun w=>match w with
  | .ref a=>((as.zip ds).find? fun p=>p.1 == a).any fun p=>eqD p.2 d
  | _=>false
 have key:∀ (as:List Addr) (ds:List Dt),as.Nodup→ds.length=as.length→∀ (i:Nat) (a:Addr) (e:Dt),as[i]?=some a→ds[i]?=some e→(as.zip ds).find? (fun p=>p.1 == a)=some (a,e):=by
  intro as
  induction as with
  | nil=>intro ds _ _ i a e h;simp at h
  | cons b as ih =>
   intro ds nd l i a e h1 h2
   cases ds with
   | nil=>simp at l
   | cons g ds =>
    rw [aBc,aA4]
    cases i with
    | zero=>cases h1;cases h2;simp
    | succ i =>
     have hm:a∈as:=aAr h1;have nb:(b == a)=false:=by
      rw [beq_eq_false_iff_ne];rintro rfl;exact (aBd.mp nd).1 hm
     dsimp only;rw [nb];exact ih ds (aBd.mp nd).2 (Nat.succ.inj l) i a e h1 h2
 have fa:∀ (i:Nat) (a:Addr) (e:Dt),as[i]?=some a→ds[i]?=some e→f (.ref a)=eqD e d:=fun i a e h1 h2=>by
  show ((as.zip ds).find? fun p=>p.1 == a).any _=_;rw [key as ds nd ld i a e h1 h2]
  rfl
 refine SeqAt.in_listAt f pl.isList (fun w hw=>?_) ⟨.bl _,H,I,rfl,?_⟩
 ·have hw':w∈as.map Value.ref:=by simpa using hw
  obtain ⟨i,hi⟩:=aBj hw';rw [aAf] at hi;obtain ⟨a,ha,rfl⟩:=aAh.mp hi;have il:=(aAk.mp ha).1;obtain ⟨e,he⟩:∃ e,ds[i]?=some e:=⟨_,aAv (by lia)⟩;rw [fa i a e ha he];obtain ⟨x1,ex,dx⟩:=hds.get he;rw [aAf,ha] at ex
  cases ex
  have j1:i < ds.length:=(aAk.mp he).1;have dep1:e.dep≤60:=by
   have:=kF (l:=ds) j1;have e2:ds.getD i .non=e:=by rw [aAL,he];rfl
   rw [e2] at this;lia
  exact (AO I 60 e d (.ref a) x (.ref a) v X.A.in1 dep1 dx hd rfl rx (by rw [mD];lia)).1
 ·have e1:(as.map Value.ref).toArray.any f=ds.any fun e=>eqD e d:=by
   rw [show (as.map Value.ref).toArray.any f=(as.map Value.ref).any f by simp,List.any_map];have:∀ (as':List Addr) (ds':List Dt),ds'.length=as'.length→(∀ (i:Nat) (a:Addr) (e:Dt),as'[i]?=some a→ds'[i]?=some e→f (.ref a)=eqD e d)→as'.any (f ∘ Value.ref)=ds'.any fun e=>eqD e d:=by
    intro as'
    induction as' with
    | nil=>intro ds' l _;cases ds' with
     | nil=>rfl
     | cons g t=>simp at l
    | cons b as' ih =>
     intro ds' l h
     cases ds' with
     | nil=>simp at l
     | cons g ds' =>
      rw [aBm,aBm,ih ds' (Nat.succ.inj l) fun i a e h1 h2=>h (i+1) a e h1 h2];rw [show (f ∘ Value.ref) b=eqD g d from h 0 b g rfl rfl]
   exact this as ds ld fa
  rw [e1];exact q
end
end L2
namespace K87
open PySem L2 PyProof.Rows
abbrev jD:Stmt:=top 7
abbrev fg:Stmt:=top 10
abbrev gi:Stmt:=top 11
abbrev dR:Stmt:=top 16
abbrev cQ:Stmt:=top 17
abbrev cG:Stmt:=top 18
abbrev dm:Stmt:=top 19
abbrev cp:Stmt:=top 20
abbrev fh:Stmt:=top 21
abbrev cq:Stmt:=top 22
abbrev cR:Stmt:=top 23
abbrev eC:Stmt:=top 24
abbrev eD:Stmt:=top 25
abbrev gj:Stmt:=top 26
abbrev lT:Stmt:=top 27
abbrev ic:Stmt:=top 38
abbrev ie:Stmt:=top 39
abbrev jE:Stmt:=top 40
abbrev gk:Stmt:=top 41
abbrev ck:Stmt:=top 42
abbrev gn:Stmt:=top 47
abbrev fi:Stmt:=top 48
abbrev ig:Stmt:=top 49
abbrev bO:Stmt:=top 50
abbrev gp:Stmt:=top 51
abbrev gq:Stmt:=top 52
abbrev fj:Stmt:=top 53
abbrev gr:Stmt:=top 54
abbrev qo:Stmt:=top 55
abbrev cS:Stmt:=top 56
abbrev cr:Stmt:=top 57
abbrev dS:Stmt:=top 58
abbrev eE:Stmt:=top 60
abbrev gu:Stmt:=top 61
abbrev jF:Stmt:=top 62
abbrev gv:Stmt:=top 63
abbrev cT:Stmt:=top 64
abbrev cx:Stmt:=top 65
abbrev cY:Stmt:=top 66
abbrev bo:Stmt:=top 67
abbrev bF:Stmt:=top 68
abbrev cH:Stmt:=top 69
abbrev fm:Stmt:=top 70
abbrev bS:Stmt:=top 71
abbrev bL:Stmt:=top 72
abbrev bT:Stmt:=top 73
abbrev cy:Stmt:=top 74
abbrev gx:Stmt:=top 75
abbrev em:Stmt:=top 76
abbrev fq:Stmt:=top 77
abbrev cI:Stmt:=top 78
abbrev bg:Stmt:=top 79
abbrev bt:Stmt:=top 80
abbrev cZ:Stmt:=top 81
abbrev sQ:Stmt:=top 82
abbrev dU:Stmt:=bu (top 43) 0
abbrev cJ:Stmt:=bu (top 43) 1
abbrev da:Stmt:=bu (top 43) 2
abbrev dW:Stmt:=bu (top 43) 3
abbrev bY:Stmt:=bu (top 43) 4
theorem j7:FnScope ["self","text"] ["self","text"] (ae dU):=by constructor <;> first | rfl | decide +kernel
theorem eo:FnScope ["self","ahead","at"] ["self","ahead"] (ae cJ):=by constructor <;> first | rfl | decide +kernel
theorem jG:FnScope ["self","mark"] ["self","mark"] (ae da):=by constructor <;> first | rfl | decide +kernel
theorem fH:FnScope ["self","sort","found"] ["self","sort"] (ae dW):=by constructor <;> first | rfl | decide +kernel
theorem gy:FnScope ["self","mark"] ["self","mark"] (ae bY):=by constructor <;> first | rfl | decide +kernel
theorem rD:FnScope ["letter"] ["letter"] (ae jD):=by constructor <;> first | rfl | decide +kernel
theorem mh:FnScope ["number"] ["number"] (ae fg):=by constructor <;> first | rfl | decide +kernel
theorem iU:FnScope ["text","figures"] ["text"] (ae gi):=by constructor <;> first | rfl | decide +kernel
theorem j8:FnScope ["sort","word"] ["sort","word"] (ae dR):=by constructor <;> first | rfl | decide +kernel
theorem iV:FnScope ["kind","word"] ["kind"] (ae cQ):=by constructor <;> first | rfl | decide +kernel
theorem iW:FnScope ["word","parts"] ["word","parts"] (ae cG):=by constructor <;> first | rfl | decide +kernel
theorem sc_value_text:FnScope ["value","inner"] ["value"] (ae dm):=by constructor <;> first | rfl | decide +kernel
theorem dq:FnScope ["turn","word","forth","back"] ["turn"] (ae cp):=by constructor <;> first | rfl | decide +kernel
theorem mi:FnScope ["piece"] ["piece"] (ae fh):=by constructor <;> first | rfl | decide +kernel
theorem iX:FnScope ["sort","thing","form"] ["sort","thing"] (ae cq):=by constructor <;> first | rfl | decide +kernel
theorem oH:FnScope ["part","sort"] ["part","sort"] (ae cR):=by constructor <;> first | rfl | decide +kernel
theorem gz:FnScope ["word","texts","inner"] ["word","texts"] (ae eC):=by constructor <;> first | rfl | decide +kernel
theorem lU:FnScope ["texts"] ["texts"] (ae eD):=by constructor <;> first | rfl | decide +kernel
theorem oI:FnScope ["word","text"] ["word","text"] (ae gj):=by constructor <;> first | rfl | decide +kernel
theorem uz:FnScope ["text"] ["text"] (ae lT):=by constructor <;> first | rfl | decide +kernel
theorem cU:FnScope ["text","found","at","end"] ["text"] (ae ic):=by constructor <;> first | rfl | decide +kernel
theorem jT:FnScope ["text","at","close"] ["text","at"] (ae ie):=by constructor <;> first | rfl | decide +kernel
theorem ii:FnScope ["text","at","letters","end"] ["text","at","letters"] (ae jE):=by constructor <;> first | rfl | decide +kernel
theorem iY:FnScope ["text","number"] ["text"] (ae gk):=by constructor <;> first | rfl | decide +kernel
theorem aA:FnScope ["words","deepest","here","sort","told"] ["words"] (ae ck):=by constructor <;> first | rfl | decide +kernel
theorem oJ:FnScope ["text"] ["text"] (ae gn):=by constructor <;> first | rfl | decide +kernel
theorem mj:FnScope ["text"] ["text"] (ae fi):=by constructor <;> first | rfl | decide +kernel
theorem gA:FnScope ["text","sort","row","told"] ["text","sort"] (ae ig):=by constructor <;> first | rfl | decide +kernel
theorem iZ:FnScope ["row","sort","path"] ["row","sort"] (ae bO):=by constructor <;> first | rfl | decide +kernel
theorem i0:FnScope ["row","sort","word"] ["row","sort"] (ae gp):=by constructor <;> first | rfl | decide +kernel
theorem fu:FnScope ["row","word","found"] ["row"] (ae gq):=by constructor <;> first | rfl | decide +kernel
theorem ca:FnScope ["row","opening","word","sort","closing"] ["row"] (ae fj):=by constructor <;> first | rfl | decide +kernel
theorem fv:FnScope ["row","word","forth"] ["row"] (ae gr):=by constructor <;> first | rfl | decide +kernel
theorem dr:FnScope ["row","sort","word","form","found","part_sort"] ["row","sort","word"] (ae cS):=by constructor <;> first | rfl | decide +kernel
theorem i4:FnScope ["row","sort","closing","found"] ["row","sort","closing"] (ae cr):=by constructor <;> first | rfl | decide +kernel
theorem j9:FnScope ["parts"] ["parts"] (ae dS):=by constructor <;> first | rfl | decide +kernel
theorem lV:FnScope ["script","k"] ["script","k"] (ae eE):=by constructor <;> first | rfl | decide +kernel
theorem i5:FnScope ["cell","k","stir"] ["cell","k"] (ae gu):=by constructor <;> first | rfl | decide +kernel
theorem dX:FnScope ["script","k","turn","cell","found","j"] ["script","k","turn"] (ae jF):=by constructor <;> first | rfl | decide +kernel
theorem i6:FnScope ["row","many","digit"] ["row","many"] (ae gv):=by constructor <;> first | rfl | decide +kernel
theorem cz:FnScope ["row","many","base","tail","way","words"] ["row","many"] (ae cT):=by constructor <;> first | rfl | decide +kernel
theorem cm:FnScope ["row","low","high"] ["row"] (ae cx):=by constructor <;> first | rfl | decide +kernel
theorem cK:FnScope ["row","way","words"] ["row"] (ae cY):=by constructor <;> first | rfl | decide +kernel
theorem bA:FnScope ["row","deep","room","many","fields","name"] ["row","deep","room"] (ae bo):=by constructor <;> first | rfl | decide +kernel
theorem aO:FnScope ["row","deep","room","names","key","fields","name","inner"] ["row","deep","room"] (ae bF):=by constructor <;> first | rfl | decide +kernel
theorem jU:FnScope ["row","deep","room","way"] ["row","deep","room"] (ae cH):=by constructor <;> first | rfl | decide +kernel
theorem jV:FnScope ["row","most","signs"] ["row","most"] (ae fm):=by constructor <;> first | rfl | decide +kernel
theorem ao:FnScope ["kind","word","words","name","inner","number"] ["kind"] (ae bS):=by constructor <;> first | rfl | decide +kernel
theorem sc_law_value_words:FnScope ["value","words","part","marks"] ["value"] (ae bL):=by constructor <;> first | rfl | decide +kernel
theorem ay:FnScope ["turn","words","name","one","other","number"] ["turn"] (ae bT):=by constructor <;> first | rfl | decide +kernel
theorem aL:FnScope ["piece","words","k","part"] ["piece"] (ae cy):=by constructor <;> first | rfl | decide +kernel
theorem oK:FnScope ["words"] ["words"] (ae gx):=by constructor <;> first | rfl | decide +kernel
theorem oM:FnScope ["words","row"] ["words","row"] (ae em):=by constructor <;> first | rfl | decide +kernel
theorem jW:FnScope ["row","word"] ["row"] (ae fq):=by constructor <;> first | rfl | decide +kernel
theorem i7:FnScope ["row"] ["row"] (ae cI):=by constructor <;> first | rfl | decide +kernel
theorem cL:FnScope ["row","deep","way","many"] ["row","deep"] (ae bg):=by constructor <;> first | rfl | decide +kernel
theorem de:FnScope ["row","deep","way","forth"] ["row","deep"] (ae bt):=by constructor <;> first | rfl | decide +kernel
theorem a9:FnScope ["row","way","one","two","three","four"] ["row"] (ae cZ):=by constructor <;> first | rfl | decide +kernel
theorem eG:FnScope ["script","k","again","row","turn","words","text","piece"] ["script"] (ae sQ):=by constructor <;> first | rfl | decide +kernel
theorem pi1 {K:W.Frag} {X:Cx} {a:Expr} {ta:TE} {i j pos pos'} (hK:X.K=K) (ha:PE X a ta):PE X (.Subscript a (.Constant (.int i) j pos) pos') (tOp (vd K) ta (tC (.int i))):=pe_ix (iC hK) ha pe_int fun _ _=>rfl
theorem isS {K : W.Frag} {H : Hp} {z : Str} {Q : V → Prop} (h : Q (.str z)) : ∀ v, IsP K H (.str z) v → Q v := fun v hv => by cases hv; exact h
theorem isI {K : W.Frag} {H : Hp} {z : Int} {Q : V → Prop} (h : Q (.int z)) : ∀ v, IsP K H (.int z) v → Q v := fun v hv => by cases hv; exact h
theorem sz1 : 1 ≤ sizeLine := by decide
theorem sz2 : 2 ≤ sizeLine := by decide
theorem sz3 : 3 ≤ sizeLine := by decide
theorem pcl {X:Cx} {x:Str} {st:Stmt} {ps:List Str} {f:Addr} {fd:FuncData} {k:Nat} {sp:Sp} {e:Expr} {es:List Expr} {t:TA} {p pos:Pos} (D:Gn X.K X.mg x st ps f fd) (F:FnOk X.prog X.w X.K X.mg X.base CX0 k f fd ps sp) (hr:Room k X.A) (hg:Gl X x) (ha:PA X (e :: es) t) (hdb:(x == ("__debug__" : Str))=false:=by decide) (he:starEach (e :: es) X.env=(false,eval e X.env) :: starEach es X.env:=by rfl) (hpl:(backTo pos (starEach es X.env)).any (·.1)=false:=by rfl):PE X (.Call (.Name x p) (e :: es) [] pos) (rK sp [] E0 t):=pe_call F hr hg D.m D.F.kp D.b .nil jL ha hdb he hpl
theorem pa1 {X:Cx} {e:Expr} {te:TE} (ha:PE X e te) (hs:starEach [e] X.env=(false,eval e X.env) :: starEach [] X.env):PA X [e] (bI te iq):=aq ha pa_nil hs
theorem pa2 {X:Cx} {e f:Expr} {te tf:TE} (ha:PE X e te) (hb:PE X f tf) (hs:starEach [e,f] X.env=(false,eval e X.env) :: starEach [f] X.env) (ht:starEach [f] X.env=(false,eval f X.env) :: starEach [] X.env):PA X [e,f] (bI te (bI tf iq)):=aq ha (aq hb pa_nil ht) hs
theorem pa3 {X:Cx} {e f g:Expr} {te tf tg:TE} (ha:PE X e te) (hb:PE X f tf) (hc:PE X g tg) (hs:starEach [e,f,g] X.env=(false,eval e X.env) :: starEach [f,g] X.env) (ht:starEach [f,g] X.env=(false,eval f X.env) :: starEach [g] X.env) (hu:starEach [g] X.env=(false,eval g X.env) :: starEach [] X.env):PA X [e,f,g] (bI te (bI tf (bI tg iq))):=aq ha (aq hb (aq hc pa_nil hu) ht) hs
structure Ads where
 HandError:Addr
 BadText:Addr
 WordRow:Addr
structure Tx (K:W.Frag) (mg:Str→Option Value) (ad:Ads):Prop where
 is_sign:∃ f fd,Gn K mg "is_sign" jD ["letter"] f fd
 figures_of:∃ f fd,Gn K mg "figures_of" fg ["number"] f fd
 number_of:∃ f fd,Gn K mg "number_of" gi ["text"] f fd
 parts_behind:∃ f fd,Gn K mg "parts_behind" dR ["sort","word"] f fd
 kind_text:∃ f fd,Gn K mg "kind_text" cQ ["kind"] f fd
 most_exchanged:∃ f fd,Gn K mg "most_exchanged" cG ["word","parts"] f fd
 value_text:∃ f fd,Gn K mg "value_text" dm ["value"] f fd
 turn_text:∃ f fd,Gn K mg "turn_text" cp ["turn"] f fd
 piece_text:∃ f fd,Gn K mg "piece_text" fh ["piece"] f fd
 form_text:∃ f fd,Gn K mg "form_text" cq ["sort","thing"] f fd
 part_text:∃ f fd,Gn K mg "part_text" cR ["part","sort"] f fd
 in_brackets:∃ f fd,Gn K mg "in_brackets" eC ["word","texts"] f fd
 with_commas:∃ f fd,Gn K mg "with_commas" eD ["texts"] f fd
 pair_text:∃ f fd,Gn K mg "pair_text" gj ["word","text"] f fd
 quoted:∃ f fd,Gn K mg "quoted" lT ["text"] f fd
 words_of:∃ f fd,Gn K mg "words_of" ic ["text"] f fd
 word_end:∃ f fd,Gn K mg "word_end" ie ["text","at"] f fd
 run_end:∃ f fd,Gn K mg "run_end" jE ["text","at","letters"] f fd
 made_word:∃ f fd,Gn K mg "made_word" gk ["text"] f fd
 deepest_brackets:∃ f fd,Gn K mg "deepest_brackets" ck ["words"] f fd
 read_turn:∃ f fd,Gn K mg "read_turn" gn ["text"] f fd
 read_piece:∃ f fd,Gn K mg "read_piece" fi ["text"] f fd
 read_all:∃ f fd,Gn K mg "read_all" ig ["text","sort"] f fd
 part_read:∃ f fd,Gn K mg "part_read" bO ["row","sort"] f fd
 pair_read:∃ f fd,Gn K mg "pair_read" gp ["row","sort"] f fd
 kind_read:∃ f fd,Gn K mg "kind_read" gq ["row"] f fd
 value_read:∃ f fd,Gn K mg "value_read" fj ["row"] f fd
 turn_read:∃ f fd,Gn K mg "turn_read" gr ["row"] f fd
 path_read:∃ f fd,Gn K mg "path_read" qo ["row"] f fd
 form_read:∃ f fd,Gn K mg "form_read" cS ["row","sort","word"] f fd
 list_read:∃ f fd,Gn K mg "list_read" cr ["row","sort","closing"] f fd
 at_least_one:∃ f fd,Gn K mg "at_least_one" dS ["parts"] f fd
 law_cell_at:∃ f fd,Gn K mg "_law_cell_at" eE ["script","k"] f fd
 law_mixed:∃ f fd,Gn K mg "_law_mixed" gu ["cell","k"] f fd
 law_own:∃ f fd,Gn K mg "_law_own" jF ["script","k","turn"] f fd
 law_digit:∃ f fd,Gn K mg "_law_digit" gv ["row","many"] f fd
 law_names:∃ f fd,Gn K mg "_law_names" cT ["row","many"] f fd
 law_number_kind:∃ f fd,Gn K mg "_law_number_kind" cx ["row"] f fd
 law_leaf_kind:∃ f fd,Gn K mg "_law_leaf_kind" cY ["row"] f fd
 law_record_kind:∃ f fd,Gn K mg "_law_record_kind" bo ["row","deep","room"] f fd
 law_rows_kind:∃ f fd,Gn K mg "_law_rows_kind" bF ["row","deep","room"] f fd
 law_kind:∃ f fd,Gn K mg "_law_kind" cH ["row","deep","room"] f fd
 law_text:∃ f fd,Gn K mg "_law_text" fm ["row","most"] f fd
 law_kind_words:∃ f fd,Gn K mg "_law_kind_words" bS ["kind"] f fd
 law_value_words:∃ f fd,Gn K mg "_law_value_words" bL ["value"] f fd
 law_turn_words:∃ f fd,Gn K mg "_law_turn_words" bT ["turn"] f fd
 law_piece_words:∃ f fd,Gn K mg "_law_piece_words" cy ["piece"] f fd
 law_tight:∃ f fd,Gn K mg "_law_tight" gx ["words"] f fd
 law_loose:∃ f fd,Gn K mg "_law_loose" em ["words","row"] f fd
 law_word:∃ f fd,Gn K mg "_law_word" fq ["row"] f fd
 law_any_number:∃ f fd,Gn K mg "_law_any_number" cI ["row"] f fd
 law_any_value:∃ f fd,Gn K mg "_law_any_value" bg ["row","deep"] f fd
 law_any_turn:∃ f fd,Gn K mg "_law_any_turn" bt ["row","deep"] f fd
 law_any_piece:∃ f fd,Gn K mg "_law_any_piece" cZ ["row"] f fd
 law:∃ f fd,Gn K mg "law" sQ ["script"] f fd
 o_WordRow:mg "WordRow" = some (.ref ad.WordRow)
 c_WordRow:Cls K ad.WordRow
 n_WordRow_all_words:NoAttr K ad.WordRow "all_words"
 n_WordRow_place:NoAttr K ad.WordRow "place"
 m_WordRow_init:∃ f fd,Mi K ad.WordRow "__init__" "WordRow.__init__" dU ["self","text"] f fd
 m_WordRow_coming:∃ f fd,Mn K ad.WordRow "coming" "WordRow.coming" cJ ["self","ahead"] f fd
 m_WordRow_comes:∃ f fd,Mn K ad.WordRow "comes" "WordRow.comes" da ["self","mark"] f fd
 m_WordRow_take:∃ f fd,Mn K ad.WordRow "take" "WordRow.take" dW ["self","sort"] f fd
 m_WordRow_take_mark:∃ f fd,Mn K ad.WordRow "take_mark" "WordRow.take_mark" bY ["self","mark"] f fd
 x_HandError:ExC K mg "HandError" ad.HandError
 x_BadText:ExC K mg "BadText" ad.BadText
 LETTERS:∃ t,mg "LETTERS" = some (.str "abcdefghijklmnopqrstuvwxyz" t)
 LONGEST_NAME:∃ t,mg "LONGEST_NAME" = some (.int 8 t)
 PERCENT:∃ t,mg "PERCENT" = some (.int 37 t)
 FIGURES:∃ t,mg "FIGURES" = some (.str "0123456789" t)
 KIND_PARTS:mg "KIND_PARTS" = some (.ref 59)∧kN K 59 [("number",60),("text",61),("list",62),("rows",63)]∧kO K [(60,["number","number"]),(61,["number"]),(62,["number","kind"]),(63,["word","number","kind"])]
 TURN_PARTS:mg "TURN_PARTS" = some (.ref 64)∧kN K 64 [("bounds",65),("scale",66),("shrink",67),("figures",68),("number",69),("cut",70),("first",71),("one",72),("out",73),("items",74)]∧kO K [(65,["number","number"]),(66,["number"]),(67,["number"]),(68,["number"]),(69,["number","number"]),(70,["number"]),(71,["number"]),(72,["number"]),(73,[]),(74,["turn"])]
 PIECE_PARTS:mg "PIECE_PARTS" = some (.ref 75)∧kN K 75 [("put",76),("drop",77),("name",78),("sink",79),("lift",80),("turn",81),("split",82),("join",83),("part",84),("whole",85)]∧kO K [(76,["word","kind","value"]),(77,["word","value"]),(78,["word","word"]),(79,["word","word"]),(80,["word","word"]),(81,["word","turn"]),(82,["word","text","word","word"]),(83,["word","word","text","word"]),(84,["word","number","word","word"]),(85,["word","word","number","word","number","number"])]
 BLANK:∃ t,mg "BLANK" = some (.str " " t)
 QUOTE:∃ t,mg "QUOTE" = some (.str "\"" t)
 MINUS:∃ t,mg "MINUS" = some (.str "-" t)
 OPENING:∃ t,mg "OPENING" = some (.str "([{" t)
 CLOSING:∃ t,mg "CLOSING" = some (.str ")]}" t)
 MARKS:∃ t,mg "MARKS" = some (.str "()[]{},:;/" t)
 MOST_FIGURES:∃ t,mg "MOST_FIGURES" = some (.int 60 t)
 MOST_BRACKETS:∃ t,mg "MOST_BRACKETS" = some (.int 40 t)
 END:mg "END" = some (.ref 162)∧kO K [(162,["end",""])]
 PAIR_SORTS:∃ a,mg "PAIR_SORTS" = some (.ref a)∧nG K a [("field","kind"),("entry","value"),("way","word")]
 BRACKETED:mg "BRACKETED" = some (.ref 249)∧xU K 249 [246,247,248]∧kO K [(246,["[","list","value","]"]),(247,["{","record","entry","}"]),(248,["(","rows","value",")"])]
 z_all:mg "all" = none
 z_int:mg "int" = none
 z_isinstance:mg "isinstance" = none
 z_len:mg "len" = none
 z_list:mg "list" = none
 z_max:mg "max" = none
 z_min:mg "min" = none
 z_ord:mg "ord" = none
 z_range:mg "range" = none
 z_sorted:mg "sorted" = none
 z_str:mg "str" = none
 z_sum:mg "sum" = none
 z_tuple:mg "tuple" = none
 z_zip:mg "zip" = none
abbrev depth:Nat:=120
def GR (K:W.Frag):Sp:=fun vs H Q _=>∃ (a:Addr) (ns:List Int),vs=[.ref a]∧SqL K H a (ns.map V.int)∧ns.length≤63∧∀ H',Q (.bl true) H'
section
variable {P:Program} {w:World} {K:W.Frag} {mg:Str→Option Value} {ad:Ads} {base:Heap}
theorem bq {K:W.Frag} {H:Hp} {z:Str} {v:V} (h:IsP K H (.str z) v):v=.str z:=by cases h;rfl
theorem kT {K:W.Frag} {H:Hp} {i:Int} {v:V} (h:IsP K H (.int i) v):v=.int i:=by cases h;rfl
theorem bW {A B:Prop} {x:V} (h:A):if decide (x=x)=true then A else B:=by rw [if_pos (decide_eq_true rfl)];exact h
theorem bj {A B:Prop} {x y:V} (n:x≠y) (h:B):if decide (x=y)=true then A else B:=by rw [if_neg (fun c=>n (of_decide_eq_true c))];exact h
theorem xV {A B:Prop} {x y:V} (n:x≠y) (h:A):if (!decide (x=y))=true then A else B:=by rw [if_pos (by rw [decide_eq_false n];rfl)];exact h
theorem sk {A B:Prop} {x:V} (h:B):if (!decide (x=x))=true then A else B:=by rw [if_neg (by rw [decide_eq_true rfl];decide)];exact h
theorem aJ {a b:Str} (h:a≠b):V.str a≠V.str b:=fun e=>h (V.str.inj e)
theorem at0 {α:Type} (c:α) (r:List α):atI (c :: r) 0=some c:=by
 have e:atI (c :: r) ((0:Nat):Int)=some c:=eY (by rfl);exact e
theorem ak (z:Str):z.cps.toList.length=z.length:=aAU
theorem bX {n:Nat} (h:n≤100000):n≤sizeLine:=aAA h (by decide)
theorem pF {α:Type} {l:List α} {n:Nat} {c:α} (h:l[n]?=some c):atI l (n:Int)=some c:=eY h
theorem mK {α β:Type} {xs:List α} {i:Nat} {x:α} (f:α→β) (h:xs[i]?=some x):(xs.take i).map f++[f x]=(xs.take (i+1)).map f:=by
 rw [aAC,h,aAt];rfl
abbrev letters:Str:= "abcdefghijklmnopqrstuvwxyz"
def inB (c:Nat):Bool:=!(Builtin.Str.occurrences letters ⟨#[c]⟩ 0 letters.length 1).isEmpty
def eP (z:Str):Bool:=decide (1≤z.length) && decide (z.length≤8) && !decide (z= "each") && z.cps.toList.all inB
def ltS (a b:Str):Prop:=a.cps.toList < b.cps.toList
instance (a b:Str):Decidable (ltS a b):=inferInstanceAs (Decidable (a.cps.toList < b.cps.toList))
def jj (ws:List Str):Bool:=decide (1≤ws.length) && decide (ws.length≤8) && ws.all eP && decide ws.Nodup
abbrev G4:=Str×Dt×Nat×Nat
abbrev prG (g:G4):Dt:=.tup [.str g.1,g.2.1]
def jk:List Nat→Nat
 | []=>0
 | n :: r=>n+jk r
def pG:List Nat→Nat
 | []=>0
 | n :: r=>max n (pG r)
def GS (l:List Dt) (z:Str):Prop:=∃ w r,Dt.tup [.str z,.tup (.str w :: r)]∈l∧(w= "number" ∨w= "text")
inductive FK:Nat→Nat→Dt→Prop
 | text (i:Int):0≤i→i≤60→FK 1 1 (.tup [.str "text",.int i])
 | choice (ws:List Str):jj ws=true→FK 1 1 (.tup [.str "choice",.tup (ws.map Dt.str)])
 | number (i j:Int):-1000000000000000000000000000000≤i→i≤j→j≤1000000000000000000000000000000→FK 1 1 (.tup [.str "number",.int i,.int j])
 | list {a c:Nat} {k:Dt} {i:Int}:FK a c k→0≤i→i≤8→FK (a+1) (c+1) (.tup [.str "list",k,.int i])
 | rows {a c:Nat} {z:Str} {l:List Dt} {i:Int}:FK a c (.tup [.str "record",.tup l])→GS l z→0≤i→i≤8→FK (a+1) (c+1) (.tup [.str "rows",.str z,.tup [.str "record",.tup l],.int i])
 | rcd {gs:List G4}:(∀ g∈gs,FK g.2.2.1 g.2.2.2 g.2.1)→(gs.map (·.1)).Pairwise ltS→(∀ g∈gs,eP g.1=true∧g.1≠ "noneone")→gs.length≤8→FK (pG (gs.map (·.2.2.1))+1) (jk (gs.map (·.2.2.2))+1) (.tup [.str "record",.tup (gs.map prG)])
theorem FK.pos {a c:Nat} {d:Dt} (h:FK a c d):1≤a:=by cases h <;> lia
theorem vp {n:Nat}:∀ {l:List Nat},n∈l→n≤pG l
 | m :: l,h=>by
  show n≤max m (pG l);rcases aAm.mp h with rfl | h
  ·exact Nat.le_max_left _ _
  ·exact aAA (vp h) (Nat.le_max_right _ _)
theorem max_le {b:Nat}:∀ {l:List Nat},(∀ n∈l,n≤b)→pG l≤b
 | [],_=>aAD _
 | m :: l,h=>by
  show max m (pG l)≤b;exact Nat.max_le.mpr ⟨h m aAi,max_le fun n hn=>h n (aAg _ hn)⟩
theorem GT {n:Nat} (h:n≤1000):n≤sizeLine:=aBa (av h)
theorem vq {l:List Str} (h:l.Pairwise ltS):l.Nodup:=List.Pairwise.imp (fun {a b} hab e=>by
 subst e;exact absurd hab (List.lt_irrefl _)) h
def nI (_:W.Frag) (_:Ads):Sp:=fun vs H Q _=>∃ i k:Int,vs=[.int i,.int k]∧∀ c:Int,0≤c→c < 2147483647→Q (.int c) H
def iF (_:W.Frag) (_:Ads):Sp:=fun vs H Q _=>∃ (r:Addr) (n m:Int),vs=[.ref r,.int m]∧H r=some (.lst [.int n])∧0 < m∧m < 10000000000000000000000000000000000000000000000000000000000000∧Q (.int (n % m)) (upd H r (.lst [.int (n / m)]))
def kU (K:W.Frag) (_:Ads):Sp:=fun vs H Q _=>∃ (a:Addr) (ns:List Int) (k:Nat),vs=[.ref a,.int k]∧SqL K H a (ns.map V.int)∧ns.length≤63∧∀ c,Q (.int c) H
def qW (K:W.Frag) (_:Ads):Sp:=fun vs H Q _=>∃ (a:Addr) (ns:List Int) (k t:Nat),vs=[.ref a,.int k,.int t]∧SqL K H a (ns.map V.int)∧ns.length≤63∧k < 1000∧t < 5 ∧
 ∀ r n H',H r=none→Same H H'→H' r=some (.lst [.int n])→Q (.ref r) H'
theorem nJ (T:Tx K mg ad) {f:Addr} {fd:FuncData} (F:Gn K mg "_law_mixed" gu ["cell","k"] f fd):FnOk P w K mg base CX0 1 f fd ["cell","k"] (nI K ad):=by
 refine F.F.ok i5 (fun vs H Q E h=>?_) (fun cdv A outer s H vs Q E hr h=>?_)
 ·obtain ⟨i,k,rfl,_⟩:=h
  rfl
 obtain ⟨i,k,rfl,q⟩:=h;refine ⟨_,(@pss_cons _ _ _ _ _ (@ps_set _ _ 2 _ _ _ _ i5.nd rfl (Or.inl rfl) (@pe_op _ _ _ _ _ _ _ _ dD (@pe_op _ _ _ _ _ _ _ _ fI (@pe_op _ _ _ _ _ _ _ _ aS (@pe_op _ _ _ _ _ _ _ _ aS (@pe_op _ _ _ _ _ _ _ _ dD (pv 0) pe_int) (@pe_op _ _ _ _ _ _ _ _ fI pe_int (pv 1))) pe_int) pe_int) pe_int) (by rfl) (.inl rfl)) (@pss_one _ _ _ (@ps_ret _ _ _ _ (@pe_op _ _ _ _ _ _ _ _ dD (@pe_op _ _ _ _ _ _ _ _ fI (@pe_op _ _ _ _ _ _ _ _ dD (@pe_op _ _ _ _ _ _ _ _ fI (pv 2) (pv 2)) pe_int) pe_int) pe_int)))),?_⟩;refine ⟨_,rfl,_,_,rfl,rfl,(by show (0:Int) < 1000000007;decide),_,rfl,_,_,rfl,rfl,.inl ⟨by decide,by decide⟩,_,_,rfl,rfl,_,_,rfl,rfl,_,_,rfl,rfl,.inr ⟨by decide,by decide⟩,_,_,rfl,rfl,(by show (0:Int) < 2147483647;decide),?_⟩;have b0:(0:Int)≤(i % 1000000007+7919*k+1)*48271 % 2147483647:=aBT _ (by decide);have b1:(i % 1000000007+7919*k+1)*48271 % 2147483647 < 2147483647:=aBF _ (by decide);exact ⟨_,rfl,_,rfl,_,_,rfl,rfl,.inl ⟨by lia,by lia⟩,_,_,rfl,rfl,(by show (0:Int) < 2147483629;decide),_,_,rfl,rfl,.inr ⟨by decide,by decide⟩,_,_,rfl,rfl,(by show (0:Int) < 2147483647;decide),q _ (aBT _ (by decide)) (aBF _ (by decide))⟩
theorem aE (T:Tx K mg ad) {f:Addr} {fd:FuncData} (F:Gn K mg "_law_digit" gv ["row","many"] f fd):FnOk P w K mg base CX0 1 f fd ["row","many"] (iF K ad):=by
 refine F.F.ok i6 (fun vs H Q E h=>?_) (fun cdv A outer s H vs Q E hr h=>?_)
 ·obtain ⟨r,n,m,rfl,_⟩:=h
  rfl
 obtain ⟨r,n,m,rfl,hr0,h0,h1,q⟩:=h;refine ⟨_,(@pss_cons _ _ _ _ _ (@ps_set _ _ 2 _ _ _ _ i6.nd rfl (Or.inl rfl) (@pe_op _ _ _ _ _ _ _ _ dD (@pe_ix _ _ _ _ _ _ _ (aD (K:=K) rfl) (pv 0) pe_int (fun _ _=>rfl)) (pv 1)) (by rfl) (.inl rfl)) (@pss_cons _ _ _ _ _ (m5 (@pe_op _ _ _ _ _ _ _ _ kI (@pe_ix _ _ _ _ _ _ _ (aD (K:=K) rfl) (pv 0) pe_int (fun _ _=>rfl)) (pv 1)) (qq (pv 0) pe_int kB)) (@pss_one _ _ _ (@ps_ret _ _ _ _ (pv 2))))),?_⟩;have e0:atI [V.int n] 0=some (.int n):=rfl;exact ⟨_,rfl,r,_,_,_,rfl,rfl,SqL.of hr0,e0,_,rfl,_,_,rfl,rfl,h0,_,rfl,r,_,_,_,rfl,rfl,SqL.of hr0,e0,_,rfl,_,_,rfl,rfl,⟨h0,h1⟩,_,rfl,r,_,_,_,rfl,rfl,hr0,rfl,_,rfl,q⟩
theorem kW {α:Type} {xs:List α} {d:Int} (h0:0≤d) (h1:d < (xs.length:Int)):∃ v,v∈xs∧atI xs d=some v:=by
 have hk:d.toNat < xs.length:=by lia
 have ek:((d.toNat:Nat):Int)=d:=by lia
 have e:atI xs ((d.toNat:Nat):Int)=some xs[d.toNat]:=eY (by simp [hk]);rw [ek] at e;exact ⟨xs[d.toNat],aBL hk,e⟩
theorem mod_lt (n:Int) {m:Int} (h:0 < m):0≤n % m∧n % m < m:=⟨aBT _ (by lia),aBF _ h⟩
theorem kX (T:Tx K mg ad) {f:Addr} {fd:FuncData} (F:Gn K mg "_law_cell_at" eE ["script","k"] f fd):FnOk P w K mg base CX0 1 f fd ["script","k"] (kU K ad):=by
 refine F.F.ok lV (fun vs H Q E h=>?_) (fun cdv A outer s H vs Q E hr h=>?_)
 ·obtain ⟨a,ns,k,rfl,_⟩:=h
  rfl
 obtain ⟨a,ns,k,rfl,hS,h63,q⟩:=h;refine ⟨_,(@pss_cons _ _ _ _ _ (@ps_if _ _ _ _ _ _ _ _ (pt_cmpR fz (pv 1) (pe_callB (bp (K:=K) rfl) rfl T.z_len PySem.boot_len (@pa1 _ _ _ (pv 0) (by rfl))) (nomark _)) (@pss_one _ _ _ (@ps_ret _ _ _ _ (@pe_ix _ _ _ _ _ _ _ (aD (K:=K) rfl) (pv 0) (pv 1) (fun _ _=>rfl)))) pss_nil) (@pss_one _ _ _ (@ps_ret _ _ _ _ pe_int))),?_⟩;refine ⟨_,rfl,_,rfl,a,_,rfl,.inl hS,_,_,rfl,rfl,_,rfl,?_⟩;rw [aAa];refine be (fun c=>?_) (fun c=>?_)
 ·have c':(k:Int) < ns.length:=of_decide_eq_true c;obtain ⟨v,hv,e⟩:=kW (xs:=ns.map V.int) (d:=(k:Int)) (by lia) (by rw [aAa];exact c');obtain ⟨i,_,rfl⟩:=aAl.mp hv;exact ⟨_,rfl,_,rfl,a,_,_,_,rfl,rfl,hS,e,q i⟩
 ·exact q 0
theorem A3 {y:Int} (h0:0≤y) (h1:y < 2147483647 ^ 40):IntMulOk (y / 8) (10 ^ Int.toNat 60):=by
 refine IntMulOk.of_le (m:=1240) (n:=200) (intBits_le_iff.mpr ?_) (by decide +kernel) (by decide);have h2:(2147483647:Int) ^ 40≤((2 ^ 1240:Nat):Int):=by decide +kernel
 have h3:y / 8≤y:=Int.ediv_le_self _ h0;have h4:0≤y / 8:=by lia
 lia
theorem vv {y c:Int} {i:Nat} (h0:0≤y) (h1:y < 2147483647 ^ i) (c0:0≤c) (c1:c < 2147483647):0≤y*2147483647+c∧y*2147483647+c < 2147483647 ^ (i+1):=by
 have e:(2147483647:Int) ^ (i+1)=2147483647 ^ i*2147483647:=Int.pow_succ _ _;rw [e]
 generalize (2147483647:Int) ^ i=b at *
 lia
theorem qX (T:Tx K mg ad) {f:Addr} {fd:FuncData} (F:Gn K mg "_law_own" jF ["script","k","turn"] f fd):FnOk P w K mg base CX0 2 f fd ["script","k","turn"] (qW K ad):=by
 obtain ⟨_,_,Ju⟩:=T.law_cell_at;have JR:=kX (P:=P) (w:=w) (base:=base) T Ju;obtain ⟨_,_,JI⟩:=T.law_mixed;have JZ:=nJ (P:=P) (w:=w) (base:=base) T JI;refine F.F.ok dX (fun vs H Q E h=>?_) (fun cdv A outer s H vs Q E hr h=>?_)
 ·obtain ⟨a,ns,k,t,rfl,_⟩:=h
  rfl
 obtain ⟨a,ns,k,t,rfl,hS,h63,hk,ht,q⟩:=h;refine ⟨_,(@pss_cons _ _ _ _ _ (@ps_set _ _ 3 _ _ _ _ dX.nd rfl (Or.inl rfl) (pcl Ju JR (hr.mono (by lia)) rfl (@pa2 _ _ _ _ _ (pv 0) (pv 1) (by rfl) (by rfl))) (by rfl) (.inl rfl)) (@pss_cons _ _ _ _ _ (@ps_set _ _ 4 _ _ _ _ dX.nd rfl (Or.inl rfl) pe_int (by rfl) (.inl rfl)) (@pss_cons _ _ _ _ _ (ps_for PassesOwn.never rfl (bf rfl T.z_range (@pa1 _ _ _ pe_int (by rfl))) (ai (i:=5) dX.nd rfl (Or.inl rfl))
    (@pss_one _ _ _ (@ps_set _ _ 4 _ _ _ _ dX.nd rfl (Or.inl rfl) (@pe_op _ _ _ _ _ _ _ _ aS (@pe_op _ _ _ _ _ _ _ _ fI (pv 4) pe_int) (pcl JI JZ (hr.mono (by lia)) rfl (@pa2 _ _ _ _ _ (@pe_op _ _ _ _ _ _ _ _ aS (@pe_op _ _ _ _ _ _ _ _ aS (@pe_op _ _ _ _ _ _ _ _ dD (pe_callB uY rfl T.z_sum boot_sum (@pa1 _ _ _ (pv 0) (by rfl))) (@pe_op _ _ _ _ _ _ _ _ eB pe_int pe_int)) (pv 3)) (pv 1)) (@pe_op _ _ _ _ _ _ _ _ aS (@pe_op _ _ _ _ _ _ _ _ aS (@pe_op _ _ _ _ _ _ _ _ fI pe_int (pv 1)) (@pe_op _ _ _ _ _ _ _ _ fI pe_int (pv 2))) (pv 5)) (by rfl) (by rfl)))) (by rfl) (.inl rfl)))) (@pss_cons _ _ _ _ _ (@ps_if _ _ _ _ _ _ _ _ (PW.pt (@pw_and _ _ _ _ _ _ _ (pt_cmpR Go (pv 3) (@pe_op _ _ _ _ _ _ _ _ eB pe_int pe_int) (nomark _)) (@pw_and1 _ _ _ _ (pt_cmpR op_eq (pv 2) pe_int (nomark _))))) (@pss_one _ _ _ (@ps_ret _ _ _ _ (@pe_lst _ _ _ _ (@pa1 _ _ _ (@pe_op _ _ _ _ _ _ _ _ aS (@pe_op _ _ _ _ _ _ _ _ dD (pv 3) (@pe_op _ _ _ _ _ _ _ _ eB pe_int pe_int)) (@pe_op _ _ _ _ _ _ _ _ ny (@pe_op _ _ _ _ _ _ _ _ kI (pv 4) pe_int) (@pe_op _ _ _ _ _ _ _ _ eB pe_int pe_int))) (by rfl))))) pss_nil) (@pss_one _ _ _ (@ps_ret _ _ _ _ (@pe_lst _ _ _ _ (@pa1 _ _ _ (@pe_op _ _ _ _ _ _ _ _ kI (pv 4) pe_int) (by rfl))))))))),?_⟩
 refine ⟨_,rfl,_,rfl,a,ns,k,rfl,hS,h63,fun x=>?_⟩;refine ⟨40,rfl,by decide,by decide,gB (lo:=0) (n:=(40:Int).toNat) (fun i σ H1=>H1=H∧∃ y v,(0≤y∧y < 2147483647 ^ i)∧σ=[some (.ref a),some (.int k),some (.int t),some (.int x),some (.int y),v]) ⟨rfl,0,_,⟨aBB _,by decide⟩,rfl⟩ ?_ ?_⟩
 ·rintro i σ H1 hi ⟨rfl,y,v,⟨y0,y1⟩,rfl⟩;refine ⟨_,rfl,_,_,rfl,rfl,.inr ⟨by decide,by decide⟩,?_⟩;refine ⟨_,rfl,a,ns,rfl,rfl,hS,_,_,rfl,rfl,⟨by decide,by decide,by decide⟩,_,_,rfl,rfl,(by show (0:Int) < 10 ^ (60:Int).toNat;decide +kernel),?_⟩;refine ⟨_,rfl,_,_,rfl,rfl,_,rfl,_,_,rfl,rfl,?_⟩;refine ⟨_,rfl,_,_,rfl,rfl,.inl ⟨by decide,by decide⟩,_,rfl,_,_,rfl,rfl,.inl ⟨by decide,by decide⟩,?_⟩;refine ⟨_,_,rfl,rfl,_,rfl,_,_,rfl,rfl,_,_,rfl,fun m m0 m1=>?_⟩;exact ⟨_,_,rfl,rfl,rfl,_,_,vv y0 y1 m0 m1,rfl⟩
 ·rintro σ H1 ⟨rfl,y,v,⟨y0,y1⟩,rfl⟩;refine ⟨_,rfl,_,_,rfl,rfl,⟨by decide,by decide,by decide⟩,_,_,rfl,rfl,_,rfl,?_⟩;refine be (fun c1=>?_) (fun c1=>?_)
  ·refine ⟨_,rfl,rfl,_,rfl,be (fun c2=>?_) (fun c2=>?_)⟩
   ·refine ⟨_,rfl,_,_,rfl,rfl,⟨by decide,by decide,by decide⟩,_,_,rfl,rfl,(by show (0:Int) < 10 ^ (60:Int).toNat;decide +kernel),?_⟩;refine ⟨_,rfl,_,_,rfl,rfl,⟨by decide,by decide⟩,_,_,rfl,rfl,⟨by decide,by decide,by decide⟩,?_⟩;refine ⟨_,_,rfl,rfl,A3 y0 y1,_,_,rfl,rfl,sz1,fun r hr'=>q r _ _ hr' (ag hr' _) aa⟩
   ·exact ⟨_,rfl,_,_,rfl,rfl,⟨by decide,by decide⟩,sz1,fun r hr'=>q r _ _ hr' (ag hr' _) aa⟩
  ·exact ⟨_,rfl,_,_,rfl,rfl,⟨by decide,by decide⟩,sz1,fun r hr'=>q r _ _ hr' (ag hr' _) aa⟩
structure Nam (m:Nat) (ss:List Str):Prop where
 len:ss.length=m
 asc:ss.Pairwise ltS
 ok:∀ z∈ss,eP z=true∧z≠ "noneone"
theorem vx {a b:Str} (h:¬ ltS b a) (n:a≠b):ltS a b:=by
 by_cases c:ltS a b
 ·exact c
 ·refine absurd ?_ n;have e:a.cps.toList=b.cps.toList:=List.le_antisymm (List.not_lt.mp h) (List.not_lt.mp c)
  cases a
  cases b
  simp only at e;rw [Array.toList_inj.mp e]
theorem mL:∀ (l:List Str) (p:Str),risingS p l=true→(p :: l).Nodup→(p :: l).Pairwise ltS
 | [],p,_,_=>List.pairwise_singleton _ _
 | x :: l,p,h,nd=>by
  simp only [risingS,ltCps_eq,aAB,aBH,decide_eq_false_iff_not] at h;have nd':=aBd.mp nd;have ih:=mL l x h.2 nd'.2;have px:ltS p x:=vx h.1 fun e=>nd'.1 (e ▸ aAi);refine List.pairwise_cons.mpr ⟨fun y hy=>?_,ih⟩;rcases aAm.mp hy with rfl | hy
  ·exact px
  ·exact List.lt_trans px ((List.pairwise_cons.mp ih).1 y hy)
theorem tX {l:List Str} (h:sortedS l=true) (nd:l.Nodup):l.Pairwise ltS:=by
 cases l with
 | nil=>exact .nil
 | cons x l=>exact mL l x h nd
theorem kY {ss l:List Str} (hp:ss.Perm l) (hs:sortedS ss=true) (nd:l.Nodup) (ok:∀ z∈l,eP z=true∧z≠ "noneone"):Nam l.length ss :=
 ⟨hp.length_eq,tX hs (hp.nodup_iff.mpr nd),fun z hz=>ok z (hp.mem_iff.mp hz)⟩
def f1 (k:Nat):Str:=Txt.slice "abcdefgh" none (some (0+(k:Int)+1))
theorem GU:∀ m,m < 9→((List.range m).map f1).Pairwise ltS∧∀ z∈(List.range m).map f1,eP z=true∧z≠ "noneone" :=by decide +kernel
def words8:List Str:=["eac","eachx","list","lists","number","rows","text","words"]
def f2 (b k:Nat):Str:=words8.getD ((b+k) % 8) ""
theorem GV:∀ b,b < 26→((List.range 8).map (f2 b)).Nodup∧∀ z∈(List.range 8).map (f2 b),eP z=true∧z≠ "noneone" :=by decide +kernel
def tails:List Str:=["","a","zz","eachone"]
def f3 (b:Nat) (t:Str) (k:Nat):Str:=⟨#[letters.cps.toList.getD ((b+7*k) % 26) 0]⟩++t
theorem GX:∀ b,b < 26→∀ t∈tails,((List.range 8).map (f3 b t)).Nodup∧∀ z∈(List.range 8).map (f3 b t),eP z=true∧z≠ "noneone" :=by decide +kernel
theorem xW {f:Nat→Str} {m:Nat} (hm:m≤8) (h:((List.range 8).map f).Nodup∧∀ z∈(List.range 8).map f,eP z=true∧z≠ "noneone"):((List.range m).map f).Nodup∧∀ z∈(List.range m).map f,eP z=true∧z≠ "noneone" :=by
 have s:((List.range m).map f).Sublist ((List.range 8).map f):=(List.range_sublist.mpr hm).map f;exact ⟨s.nodup h.1,fun z hz=>h.2 z (s.subset hz)⟩
def nK (K:W.Frag) (_:Ads):Sp:=fun vs H Q _=>∃ (r:Addr) (c:Int) (m:Nat),vs=[.ref r,.int m]∧H r=some (.lst [.int c])∧m≤8 ∧
 ∀ p ss c' H',But r H H'→H p=none→H' r=some (.lst [.int c'])→H' p=some (.lst (ss.map V.str))→Nam m ss→Q (.ref p) H'
theorem nL {α:Type} {l:List α} {n:Nat} {e:α} (h:n < l.length):l.getD n e=l[n]:=by simp [List.getD,h]
theorem sq {α:Type} (f:α→V) (ws:List α) (d:Int) (e:α) (h0:0≤d) (h1:d < (ws.length:Int)):atI (ws.map f) d=some (f (ws.getD d.toNat e)):=by
 have hk:d.toNat < ws.length:=by lia
 have ek:((d.toNat:Nat):Int)=d:=by lia
 have e':atI (ws.map f) ((d.toNat:Nat):Int)=some (f ws[d.toNat]):=eY (by simp [hk]);rw [ek] at e';rw [e',nL hk]
theorem gY (f:Nat→Str) (i:Nat):((List.range i).map f).map V.str++[V.str (f i)]=((List.range (i+1)).map f).map V.str:=by simp [List.range_succ]
theorem jl (f:Nat→Str) {i:Nat} (h:i≤8):(((List.range i).map f).map V.str).length < sizeLine:=by rw [aAa,aAa,aBg];exact av (by lia)
theorem bJ {r l:Addr} {o:HO} {H H':Hp} (b:But r H H') (hl:H l=none):But r H (upd H' l o):=fun x u n e=>by rw [ac (ah e hl)];exact b x u n e
theorem GY {b k:Nat}:atI (words8.map V.str) (((b:Int)+(0+(k:Int))) % 8)=some (.str (f2 b k)):=by
 obtain ⟨h0,h1⟩:=mod_lt ((b:Int)+(0+(k:Int))) (m:=8) (by decide);rw [sq V.str words8 _ "" h0 h1,show (((b:Int)+(0+(k:Int))) % 8).toNat=(b+k) % 8 by lia]
 rfl
theorem GZ {b k:Nat}:atI letters.cps.toList (((b:Int)+7*(0+(k:Int))) % 26)=some (letters.cps.toList.getD ((b+7*k) % 26) 0):=by
 obtain ⟨h0,h1⟩:=mod_lt ((b:Int)+7*(0+(k:Int))) (m:=26) (by decide);have hk:(b+7*k) % 26 < letters.cps.toList.length:=by
  rw [show letters.cps.toList.length=26 by decide +kernel];lia
 have ek:(((b+7*k) % 26:Nat):Int)=((b:Int)+7*(0+(k:Int))) % 26:=by lia
 have e':atI letters.cps.toList ((((b+7*k) % 26:Nat)):Int)=some letters.cps.toList[(b+7*k) % 26]:=eY (by simp [hk]);rw [ek] at e';rw [e',nL hk]
theorem e8 (T:Tx K mg ad) {f:Addr} {fd:FuncData} (F:Gn K mg "_law_names" cT ["row","many"] f fd):FnOk P w K mg base CX0 2 f fd ["row","many"] (nK K ad):=by
 obtain ⟨_,_,HM⟩:=T.law_digit;have HN:=aE (P:=P) (w:=w) (base:=base) T HM;refine F.F.ok cz (fun vs H Q E h=>?_) (fun cdv A outer s H vs Q E hr h=>?_)
 ·obtain ⟨r,c,m,rfl,_⟩:=h
  rfl
 obtain ⟨r,c,m,rfl,hr0,hm,q⟩:=h;refine ⟨_,(@pss_cons _ _ _ _ _ (@ps_set _ _ 2 _ _ _ _ cz.nd rfl (Or.inr rfl) (pcl HM HN (hr.mono (by lia)) rfl (@pa2 _ _ _ _ _ (pv 0) pe_int (by rfl) (by rfl))) (by rfl) (.inl rfl)) (@pss_cons _ _ _ _ _ (@ps_set _ _ 3 _ _ _ _ cz.nd rfl (Or.inr rfl) (@pe_ix _ _ _ _ _ _ _ (aD (K:=K) rfl) (@pe_lst _ _ _ _ (@aq _ _ _ _ _ pe_str (@pa3 _ _ _ _ _ _ _ pe_str pe_str pe_str (by rfl) (by rfl) (by rfl)) (by rfl))) (pcl HM HN (hr.mono (by lia)) rfl (@pa2 _ _ _ _ _ (pv 0) pe_int (by rfl) (by rfl))) (fun _ _=>rfl)) (by rfl) (.inl rfl)) (@pss_cons _ _ _ _ _ (@ps_set _ _ 4 _ _ _ _ cz.nd rfl (Or.inl rfl) (pcl HM HN (hr.mono (by lia)) rfl (@pa2 _ _ _ _ _ (pv 0) pe_int (by rfl) (by rfl))) (by rfl) (.inl rfl)) (@pss_cons _ _ _ _ _ (@ps_if _ _ _ _ _ _ _ _ (pt_cmpR op_eq (pv 4) pe_int (nomark _)) (@pss_one _ _ _ (@ps_ret _ _ _ _ (pe_comp rfl (cs0 (NL:=["k"]) rfl (by decide +kernel) (by decide +kernel)) (bf rfl T.z_range (@pa1 _ _ _ (pv 1) (by rfl))) (fun _ _ _ _=>(ai (i:=0) (show List.Nodup (α:=Str) ["k"] by decide +kernel) rfl (Or.inl rfl))) (fun _ _ _ _=>(pe_slice sl_str pe_str ce (po_some (@pe_op _ _ _ _ _ _ _ _ aS (pv 0) pe_int))))))) pss_nil) (@pss_cons _ _ _ _ _ (@ps_if _ _ _ _ _ _ _ _ (pt_cmpR op_eq (pv 4) pe_int (nomark _)) (@pss_cons _ _ _ _ _ (@ps_set _ _ 5 _ _ _ _ cz.nd rfl (Or.inr rfl) (@pe_lst _ _ _ _ (@aq _ _ _ _ _ pe_str (@aq _ _ _ _ _ pe_str (@aq _ _ _ _ _ pe_str (@aq _ _ _ _ _ pe_str (@aq _ _ _ _ _ pe_str (@pa3 _ _ _ _ _ _ _ pe_str pe_str pe_str (by rfl) (by rfl) (by rfl)) (by rfl)) (by rfl)) (by rfl)) (by rfl)) (by rfl))) (by rfl) (.inl rfl)) (@pss_one _ _ _ (@ps_ret _ _ _ _ (pe_callB (jO (K:=K) rfl) rfl T.z_sorted boot_sorted (@pa1 _ _ _ (pe_comp rfl (csR (sc:=ae cT) (NL:=["k"]) (N:=["row","many","base","tail","way","words"]) (ρ:=[2,5]) (N':=["k","base","words"]) rfl rfl rfl (by decide +kernel) (by decide +kernel) (by decide +kernel) rfl (by decide +kernel)) (bf rfl T.z_range (@pa1 _ _ _ (pv 1) (by rfl))) (fun _ _ _ _=>(ai (i:=0) (show List.Nodup (α:=Str) ["k","base","words"] by decide +kernel) rfl (Or.inl rfl))) (fun _ _ _ _=>(@pe_ix _ _ _ _ _ _ _ (aD (K:=K) rfl) (pv 2) (@pe_op _ _ _ _ _ _ _ _ dD (@pe_op _ _ _ _ _ _ _ _ aS (pv 1) (pv 0)) pe_int) (fun _ _=>rfl)))) (by rfl)))))) pss_nil) (@pss_one _ _ _ (@ps_ret _ _ _ _ (pe_callB (jO (K:=K) rfl) rfl T.z_sorted boot_sorted (@pa1 _ _ _ (pe_comp rfl (csR (sc:=ae cT) (NL:=["k"]) (N:=["row","many","base","tail","way","words"]) (ρ:=[2,3]) (N':=["k","base","tail"]) rfl rfl rfl (by decide +kernel) (by decide +kernel) (by decide +kernel) rfl (by decide +kernel)) (bf rfl T.z_range (@pa1 _ _ _ (pv 1) (by rfl))) (fun _ _ _ _=>(ai (i:=0) (show List.Nodup (α:=Str) ["k","base","tail"] by decide +kernel) rfl (Or.inl rfl))) (fun _ _ _ _=>(@pe_op _ _ _ _ _ _ _ _ op_add_str (@pe_ix _ _ _ _ _ _ _ ix_str pe_str (@pe_op _ _ _ _ _ _ _ _ dD (@pe_op _ _ _ _ _ _ _ _ aS (pv 1) (@pe_op _ _ _ _ _ _ _ _ fI pe_int (pv 0))) pe_int) (fun _ _=>rfl)) (pv 2)))) (by rfl)))))))))),?_⟩;refine ⟨_,rfl,r,c,26,rfl,hr0,by decide,by decide,?_⟩;obtain ⟨b0,b1⟩:=mod_lt c (m:=26) (by decide);obtain ⟨b,hb⟩:∃ b:Nat,((b:Nat):Int)=c % 26:=⟨(c % 26).toNat,by lia⟩;have b26:b < 26:=by lia
 rw [← hb];refine ⟨(by show 4≤sizeLine;decide),fun pl hpl=>?_⟩;have hrp:r≠pl:=fun e=>by rw [← e,aa] at hpl;cases hpl
 have hplH:H pl=none:=by rw [ac hrp.symm] at hpl;exact hpl
 refine ⟨_,rfl,r,c / 26,4,rfl,by rw [ac hrp];exact aa,by decide,by decide,?_⟩;obtain ⟨t0,t1⟩:=mod_lt (c / 26) (m:=4) (by decide);refine ⟨pl,_,_,_,rfl,rfl,SqL.of (by rw [ac hrp.symm];exact aa),sq V.str tails _ "" t0 t1,?_⟩;have ht:tails.getD (c / 26 % 4).toNat "" ∈tails:=by
  rw [nL (show (c / 26 % 4).toNat < tails.length by show _ < 4;lia)];exact aBL _
 generalize tails.getD (c / 26 % 4).toNat "" = t at ht
 refine ⟨_,rfl,r,c / 26 / 4,5,rfl,aa,by decide,by decide,?_⟩;have B1:=(((But.put (H:=H) (r:=r) (o:=.lst [.int (c / 26)])).trans (But.same (ag hpl (.lst [.str "",.str "a",.str "zz",.str "eachone"])))).trans (But.put (o:=.lst [.int (c / 26 / 4)]))).trans (But.put (o:=.lst [.int (c / 26 / 4 / 5)]));have r1:(upd (upd (upd (upd H r (.lst [.int (c / 26)])) pl (.lst [.str "",.str "a",.str "zz",.str "eachone"])) r (.lst [.int (c / 26 / 4)])) r (.lst [.int (c / 26 / 4 / 5)])) r=some (.lst [.int (c / 26 / 4 / 5)]):=aa;have mN:((m:Nat):Int).toNat=m:=aBf m;have free:∀ {l:Addr} {Hx:Hp},But r H Hx→r≠l→Hx l=none→H l=none:=fun {l Hx} B n e=>by
  cases e':H l with
  | none=>rfl
  | some o=>rw [B l o n.symm e'] at e;cases e
 refine ⟨_,rfl,rfl,_,rfl,be (fun c1=>?_) (fun c1=>?_)⟩
 ·refine ⟨_,rfl,(m:Int),rfl,by lia,by lia,fun l hln=>?_⟩;rw [mN];have lr:r≠l:=ah r1 hln;have lH:H l=none:=free B1 lr hln;refine bi (fun i ys σ H'=>i≤8∧ys=((List.range i).map f1).map V.str∧But r H H'∧H' r=some (.lst [.int (c / 26 / 4 / 5)])∧H' l=some (.lst ys)∧σ.length=1) ⟨aAD _,rfl,B1.trans (But.same (ag hln _)),(by rw [ac lr];exact r1),aa,rfl⟩ ?_ ?_
  ·rintro i ys σ H' N hi ⟨h8,rfl,B2,r2,l2,hσ⟩ next
   match σ,hσ with
   | [_],_ =>
    exact ⟨_,rfl,_,_,rfl,rfl,_,rfl,_,rfl,(by decide),l2,jl f1 (by lia),next _ _ _ ⟨by lia,gY f1 i,bJ B2 lH,(by rw [ac lr];exact r2),aa,rfl⟩⟩
  ·rintro ys σ H' ⟨h8,rfl,B2,r2,l2,hσ⟩;obtain ⟨u1,u2⟩:=GU m (by lia);exact q l _ _ _ B2 lH r2 l2 ⟨by rw [aAa,aBg],u1,u2⟩
 refine ⟨_,rfl,rfl,_,rfl,be (fun c2=>?_) (fun c2=>?_)⟩
 ·refine ⟨(by show 8≤sizeLine;decide),fun pw hpw=>?_⟩;have wr:r≠pw:=ah r1 hpw;have wH:H pw=none:=free B1 wr hpw;refine ⟨_,rfl,(m:Int),rfl,by lia,by lia,fun l hln=>?_⟩;rw [mN];have r2:=(ag hpw (.lst (words8.map V.str))) _ _ r1;have lr:r≠l:=ah r2 hln;have lw:pw≠l:=ah (aa (o:=.lst (words8.map V.str))) hln;have lH:H l=none:=free (B1.trans (But.same (ag hpw _))) lr hln;refine bi (fun i ys σ H'=>i≤8∧ys=((List.range i).map (f2 b)).map V.str∧But r H H'∧H' r=some (.lst [.int (c / 26 / 4 / 5)])∧H' l=some (.lst ys)∧H' pw=some (.lst (words8.map V.str))∧∃ v,σ=[v,some (.int b),some (.ref pw)]) ⟨aAD _,rfl,(B1.trans (But.same (ag hpw _))).trans (But.same (ag hln _)),(by rw [ac lr];exact r2),aa,(by rw [ac lw];exact aa),_,rfl⟩ ?_ ?_
  ·rintro i ys σ H' N hi ⟨h8,rfl,B2,r2,l2,w2,v,rfl⟩ next;exact ⟨_,rfl,_,rfl,_,rfl,_,_,rfl,rfl,_,_,rfl,rfl,(show (0:Int) < 8 by decide),pw,_,_,_,rfl,rfl,SqL.of w2,GY,l2,jl (f2 b) (by lia),next _ _ _ ⟨by lia,gY (f2 b) i,bJ B2 lH,(by rw [ac lr];exact r2),aa,(by rw [ac lw];exact w2),_,rfl⟩⟩
  ·rintro ys σ H' ⟨h8,rfl,B2,r2,l2,w2,v,rfl⟩;obtain ⟨u1,u2⟩:=xW hm (GV b b26);refine ⟨l,_,rfl,SqL.of l2,by rw [aAa,aBg];lia,fun a ss' ha hp hs=>?_⟩;have ar:r≠a:=ah r2 ha;have n:=kY hp hs u1 u2;rw [aAa,aBg] at n;exact q a ss' _ _ (B2.trans (But.same (ag ha _))) (free B2 ar ha) (by rw [ac ar];exact r2) aa n
 ·refine ⟨_,rfl,(m:Int),rfl,by lia,by lia,fun l hln=>?_⟩;rw [mN];have lr:r≠l:=ah r1 hln;have lH:H l=none:=free B1 lr hln;refine bi (fun i ys σ H'=>i≤8∧ys=((List.range i).map (f3 b t)).map V.str∧But r H H'∧H' r=some (.lst [.int (c / 26 / 4 / 5)])∧H' l=some (.lst ys)∧∃ v,σ=[v,some (.int b),some (.str t)]) ⟨aAD _,rfl,B1.trans (But.same (ag hln _)),(by rw [ac lr];exact r1),aa,_,rfl⟩ ?_ ?_
  ·rintro i ys σ H' N hi ⟨h8,rfl,B2,r2,l2,v,rfl⟩ next;have tl:t.length≤10:=(show ∀ t∈tails,t.length≤10 by decide +kernel) t ht;exact ⟨_,rfl,_,rfl,_,_,rfl,rfl,.inl ⟨by decide,by decide⟩,_,_,rfl,rfl,_,_,rfl,rfl,(show (0:Int) < 26 by decide),_,_,_,rfl,rfl,(by decide),GZ,_,rfl,_,_,rfl,rfl,GT (by show 1+t.length≤1000;lia),l2,jl (f3 b t) (by lia),next _ _ _ ⟨by lia,gY (f3 b t) i,bJ B2 lH,(by rw [ac lr];exact r2),aa,_,rfl⟩⟩
  ·rintro ys σ H' ⟨h8,rfl,B2,r2,l2,v,rfl⟩;obtain ⟨u1,u2⟩:=xW hm (GX b b26 t ht);refine ⟨l,_,rfl,SqL.of l2,by rw [aAa,aBg];lia,fun a ss' ha hp hs=>?_⟩;have ar:r≠a:=ah r2 ha;have n:=kY hp hs u1 u2;rw [aAa,aBg] at n;exact q a ss' _ _ (B2.trans (But.same (ag ha _))) (free B2 ar ha) (by rw [ac ar];exact r2) aa n
def HG (K:W.Frag) (r:Addr) (H:Hp) (Q:VK):Prop:=∀ v (i j n':Int) H',But r H H'→H' r=some (.lst [.int n'])→IsP K H' (.tup [.str "number",.int i,.int j]) v→FK 1 1 (.tup [.str "number",.int i,.int j])→Q v H'
def gZ (K:W.Frag) (_:Ads):Sp:=fun vs H Q _=>∃ (r:Addr) (c:Int),vs=[.ref r]∧H r=some (.lst [.int c])∧HG K r H Q
theorem p30:(10:Int) ^ (30:Int).toNat=1000000000000000000000000000000:=by decide +kernel
theorem p29:(10:Int) ^ (29:Int).toNat=100000000000000000000000000000:=by decide +kernel
theorem xX {ns:List Int} {d:Int} (h0:0≤d) (h1:d < (ns.length:Int)):∃ i:Int,i∈ns∧atI (ns.map V.int) d=some (.int i):=by
 obtain ⟨v,hv,e⟩:=kW (xs:=ns.map V.int) h0 (by rw [aAa];exact h1);obtain ⟨i,hi,rfl⟩:=aAl.mp hv;exact ⟨i,hi,e⟩
theorem G0 (a b:Int) (k:Bool):∃ i:Int,(i=a∨i=b)∧atI [V.int a,V.int b] (if k=true then 1 else 0)=some (.int i):=by
 cases k with
 | true=>exact ⟨b,.inr rfl,rfl⟩
 | false=>exact ⟨a,.inl rfl,rfl⟩
theorem dG (T:Tx K mg ad) {f:Addr} {fd:FuncData} (F:Gn K mg "_law_number_kind" cx ["row"] f fd):FnOk P w K mg base CX0 2 f fd ["row"] (gZ K ad):=by
 obtain ⟨_,_,HM⟩:=T.law_digit;have HN:=aE (P:=P) (w:=w) (base:=base) T HM;refine F.F.ok cm (fun vs H Q E h=>?_) (fun cdv A outer s H vs Q E hr h=>?_)
 ·obtain ⟨r,c,rfl,_⟩:=h
  rfl
 obtain ⟨r,c,rfl,hr0,q⟩:=h;refine ⟨_,(@pss_cons _ _ _ _ _ (@ps_set _ _ 1 _ _ _ _ cm.nd rfl (Or.inl rfl) (@pe_ix _ _ _ _ _ _ _ (aD (K:=K) rfl) (@pe_lst _ _ _ _ (@pa2 _ _ _ _ _ (@pe_op _ _ _ _ _ _ _ _ bV (pcl HM HN (hr.mono (by lia)) rfl (@pa2 _ _ _ _ _ (pv 0) pe_int (by rfl) (by rfl))) pe_int) (@pe_op _ _ _ _ _ _ _ _ bV (pcl HM HN (hr.mono (by lia)) rfl (@pa2 _ _ _ _ _ (pv 0) (@pe_op _ _ _ _ _ _ _ _ aS (@pe_op _ _ _ _ _ _ _ _ ny pe_int (@pe_op _ _ _ _ _ _ _ _ eB pe_int pe_int)) pe_int) (by rfl) (by rfl))) (@pe_op _ _ _ _ _ _ _ _ eB pe_int pe_int)) (by rfl) (by rfl))) (pe_callTy mv rfl T.z_int boot_int (@pa1 _ _ _ (gC op_eq (pcl HM HN (hr.mono (by lia)) rfl (@pa2 _ _ _ _ _ (pv 0) pe_int (by rfl) (by rfl))) pe_int (nomark _)) (by rfl))) (fun _ _=>rfl)) (by rfl) (.inl rfl)) (@pss_cons _ _ _ _ _ (@ps_set _ _ 2 _ _ _ _ cm.nd rfl (Or.inl rfl) (pe_callB (ms rfl) rfl T.z_min boot_min (@pa2 _ _ _ _ _ (@pe_op _ _ _ _ _ _ _ _ eB pe_int pe_int) (@pe_op _ _ _ _ _ _ _ _ aS (pv 1) (@pe_ix _ _ _ _ _ _ _ (aD (K:=K) rfl) (@pe_lst _ _ _ _ (@pa3 _ _ _ _ _ _ _ (pcl HM HN (hr.mono (by lia)) rfl (@pa2 _ _ _ _ _ (pv 0) pe_int (by rfl) (by rfl))) (@pe_op _ _ _ _ _ _ _ _ eB pe_int pe_int) (pcl HM HN (hr.mono (by lia)) rfl (@pa2 _ _ _ _ _ (pv 0) pe_int (by rfl) (by rfl))) (by rfl) (by rfl) (by rfl))) (pcl HM HN (hr.mono (by lia)) rfl (@pa2 _ _ _ _ _ (pv 0) pe_int (by rfl) (by rfl))) (fun _ _=>rfl))) (by rfl) (by rfl))) (by rfl) (.inl rfl)) (@pss_one _ _ _ (@ps_ret _ _ _ _ (@pe_tupPK _ K _ _ _ _ rfl (@pa3 _ _ _ _ _ _ _ pe_str (pv 1) (pv 2) (by rfl) (by rfl) (by rfl))))))),?_⟩;refine ⟨_,rfl,r,c,12,rfl,hr0,by decide,by decide,_,_,rfl,rfl,?_⟩;obtain ⟨a0,a1⟩:=mod_lt c (m:=12) (by decide);refine ⟨_,rfl,_,_,rfl,rfl,⟨by decide,by decide,by decide⟩,?_⟩;have m30:(0:Int) < 2*10 ^ (30:Int).toNat+1:=by rw [p30];decide
 refine ⟨_,_,rfl,rfl,mulOk_of_bits (m:=2) (n:=100) (by decide +kernel) (by decide +kernel) (by decide),_,_,rfl,rfl,r,c / 12,2*10 ^ (30:Int).toNat+1,rfl,aa,m30,by rw [p30];decide,?_⟩;obtain ⟨d0,d1⟩:=mod_lt (c / 12) m30;refine ⟨_,_,rfl,rfl,⟨by decide,by decide,by decide⟩,_,_,rfl,rfl,sz2,fun p hp=>?_⟩;have hrp:r≠p:=fun e=>by rw [← e,aa] at hp;cases hp
 obtain ⟨low,hlow,elow⟩:=G0 (c % 12 - 6) (c / 12 % (2*10 ^ (30:Int).toNat+1) - 10 ^ (30:Int).toNat) (decide (V.int (c / 12 / (2*10 ^ (30:Int).toNat+1) % 4)=V.int 1));have l0:-1000000000000000000000000000000≤low:=by
  rw [p30] at hlow d0 d1;rcases hlow with h | h <;> lia
 have l1:low≤1000000000000000000000000000000:=by
  rw [p30] at hlow d0 d1;rcases hlow with h | h <;> lia
 refine ⟨_,rfl,r,c / 12 / (2*10 ^ (30:Int).toNat+1),4,rfl,(by rw [ac hrp];exact aa),by decide,by decide,rfl,.inr ⟨_,rfl,p,_,_,_,rfl,rfl,SqL.of (by rw [ac hrp.symm];exact aa),elow,?_⟩⟩;have B1:=(((But.put (H:=H) (r:=r) (o:=.lst [.int (c / 12)])).trans (But.put (o:=.lst [.int (c / 12 / (2*10 ^ (30:Int).toNat+1))]))).trans (But.same (ag hp (.lst [.int (c % 12 - 6),.int (c / 12 % (2*10 ^ (30:Int).toNat+1) - 10 ^ (30:Int).toNat)])))).trans (But.put (o:=.lst [.int (c / 12 / (2*10 ^ (30:Int).toNat+1) / 4)]))
 generalize hc2:c / 12 / (2*10 ^ (30:Int).toNat+1) / 4=c2 at B1
 refine ⟨_,_,rfl,rfl,⟨by decide,by decide,by decide⟩,_,rfl,_,rfl,r,c2,9,rfl,hc2 ▸ aa,by decide,by decide,_,_,rfl,rfl,⟨by decide,by decide,by decide⟩,_,rfl,r,c2 / 9,2,rfl,aa,by decide,by decide,sz3,fun p2 hp2=>?_⟩;have hrp2:r≠p2:=fun e=>by rw [← e,aa] at hp2;cases hp2
 obtain ⟨e0,e1⟩:=mod_lt (c2 / 9 / 2) (m:=3) (by decide);obtain ⟨x,hx,ex⟩:=xX (ns:=[c2 % 9,10 ^ (29:Int).toNat,c2 / 9 % 2]) e0 e1;have x0:0≤x:=by
  have h1:=(mod_lt c2 (m:=9) (by decide)).1;have h2:=(mod_lt (c2 / 9) (m:=2) (by decide)).1;simp only [p29,aAm,aAQ,or_false] at hx;lia
 refine ⟨_,rfl,r,c2 / 9 / 2,3,rfl,(by rw [ac hrp2];exact aa),by decide,by decide,p2,_,_,_,rfl,rfl,SqL.of (by rw [ac hrp2.symm];exact aa),ex,_,_,rfl,rfl,_,_,rfl,?_⟩;refine ⟨_,rfl,_,rfl,[.str "number",.int low,.int _],.cons .str (.cons .int (.cons .int .nil)),sz3,fun v H4 g4 hv=>?_⟩;refine q v low _ (c2 / 9 / 2 / 3) H4 ?_ (g4 _ _ aa) hv (.number _ _ l0 ?_ ?_)
 ·exact ((((B1.trans But.put).trans But.put).trans (But.same (ag hp2 _))).trans But.put).trans (But.same g4)
 ·rw [p30]
  split <;> lia
 ·rw [p30]
  split <;> lia
def HH (K:W.Frag) (r:Addr) (H:Hp) (Q:VK):Prop:=∀ v d (n':Int) H',But r H H'→H' r=some (.lst [.int n'])→IsP K H' d v→FK 1 1 d→Q v H'
def jm (K:W.Frag) (_:Ads):Sp:=fun vs H Q _=>∃ (r:Addr) (c:Int),vs=[.ref r]∧H r=some (.lst [.int c])∧HH K r H Q
theorem Nam.words {m:Nat} {ss:List Str} (h:Nam m ss) (h1:1≤m) (h8:m≤8):jj ss=true∧jj ss.reverse=true:=by
 have l:=h.len;have nd:=vq h.asc;have al:ss.all eP=true:=aAO.mpr fun z hz=>(h.ok z hz).1
 constructor
 ·simp only [jj,aAB,decide_eq_true_eq];exact ⟨⟨⟨by lia,by lia⟩,al⟩,nd⟩
 ·simp only [jj,aAB,decide_eq_true_eq,List.length_reverse,List.all_reverse];exact ⟨⟨⟨by lia,by lia⟩,al⟩,List.pairwise_reverse.mpr (nd.imp fun n e=>n e.symm)⟩
theorem kh {K:W.Frag} {H:Hp}:∀ ss:List Str,IsPs K H (ss.map Dt.str) (ss.map V.str)
 | []=>.nil
 | z :: ss=>.cons .str (kh ss)
theorem jn (T:Tx K mg ad) {f:Addr} {fd:FuncData} (F:Gn K mg "_law_leaf_kind" cY ["row"] f fd):FnOk P w K mg base CX0 3 f fd ["row"] (jm K ad):=by
 obtain ⟨_,_,HM⟩:=T.law_digit;have HN:=aE (P:=P) (w:=w) (base:=base) T HM;obtain ⟨_,_,Iv⟩:=T.law_number_kind;have IV:=dG (P:=P) (w:=w) (base:=base) T Iv;obtain ⟨_,_,Iz⟩:=T.law_names;have IX:=e8 (P:=P) (w:=w) (base:=base) T Iz;refine F.F.ok cK (fun vs H Q E h=>?_) (fun cdv A outer s H vs Q E hr h=>?_)
 ·obtain ⟨r,c,rfl,_⟩:=h
  rfl
 obtain ⟨r,c,rfl,hr0,q⟩:=h;refine ⟨_,(@pss_cons _ _ _ _ _ (@ps_set _ _ 1 _ _ _ _ cK.nd rfl (Or.inl rfl) (pcl HM HN (hr.mono (by lia)) rfl (@pa2 _ _ _ _ _ (pv 0) pe_int (by rfl) (by rfl))) (by rfl) (.inl rfl)) (@pss_cons _ _ _ _ _ (@ps_if _ _ _ _ _ _ _ _ (pt_cmpR op_eq (pv 1) pe_int (nomark _)) (@pss_one _ _ _ (@ps_ret _ _ _ _ (pcl Iv IV (hr.mono (by lia)) rfl (@pa1 _ _ _ (pv 0) (by rfl))))) pss_nil) (@pss_cons _ _ _ _ _ (@ps_if _ _ _ _ _ _ _ _ (pt_cmpR op_eq (pv 1) pe_int (nomark _)) (@pss_one _ _ _ (@ps_ret _ _ _ _ (@pe_tupPK _ K _ _ _ _ rfl (@pa2 _ _ _ _ _ pe_str (@pe_ix _ _ _ _ _ _ _ (aD (K:=K) rfl) (@pe_lst _ _ _ _ (@pa2 _ _ _ _ _ (pcl HM HN (hr.mono (by lia)) rfl (@pa2 _ _ _ _ _ (pv 0) pe_int (by rfl) (by rfl))) (pcl HM HN (hr.mono (by lia)) rfl (@pa2 _ _ _ _ _ (pv 0) pe_int (by rfl) (by rfl))) (by rfl) (by rfl))) (pcl HM HN (hr.mono (by lia)) rfl (@pa2 _ _ _ _ _ (pv 0) pe_int (by rfl) (by rfl))) (fun _ _=>rfl)) (by rfl) (by rfl))))) pss_nil) (@pss_cons _ _ _ _ _ (@ps_set _ _ 2 _ _ _ _ cK.nd rfl (Or.inl rfl) (pcl Iz IX (hr.mono (by lia)) rfl (@pa2 _ _ _ _ _ (pv 0) (@pe_op _ _ _ _ _ _ _ _ aS pe_int (pcl HM HN (hr.mono (by lia)) rfl (@pa2 _ _ _ _ _ (pv 0) pe_int (by rfl) (by rfl)))) (by rfl) (by rfl))) (by rfl) (.inl rfl)) (@pss_cons _ _ _ _ _ (@ps_if _ _ _ _ _ _ _ _ (pt_cmpR op_eq (pcl HM HN (hr.mono (by lia)) rfl (@pa2 _ _ _ _ _ (pv 0) pe_int (by rfl) (by rfl))) pe_int (nomark _)) (@pss_one _ _ _ (@ps_expr _ _ _ _ (AK PySem.F.plainAttrs_list PySem.F.slot_list_reverse PySem.F.type_list_reverse qC (pv 2)) (by rfl))) pss_nil) (@pss_one _ _ _ (@ps_ret _ _ _ _ (@pe_tupPK _ K _ _ _ _ rfl (@pa2 _ _ _ _ _ pe_str (pe_callTy (aZ (K:=K) rfl) rfl T.z_tuple boot_tuple (@pa1 _ _ _ (pv 2) (by rfl))) (by rfl) (by rfl)))))))))),?_⟩;refine ⟨_,rfl,r,c,3,rfl,hr0,by decide,by decide,?_⟩;have B1:=But.put (H:=H) (r:=r) (o:=.lst [.int (c / 3)]);refine ⟨_,rfl,rfl,_,rfl,be (fun c1=>?_) (fun c1=>?_)⟩
 ·exact ⟨_,rfl,r,c / 3,rfl,aa,fun v i j n' H' b e hv fk=>q v _ n' H' (B1.trans b) e hv fk⟩
 refine ⟨_,rfl,rfl,_,rfl,be (fun c2=>?_) (fun c2=>?_)⟩
 ·refine ⟨_,rfl,r,c / 3,4,rfl,aa,by decide,by decide,_,rfl,r,c / 3 / 4,61,rfl,aa,by decide,by decide,sz2,fun p hp=>?_⟩;have hrp:r≠p:=fun e=>by rw [← e,aa] at hp;cases hp
  obtain ⟨e0,e1⟩:=mod_lt (c / 3 / 4 / 61) (m:=2) (by decide);obtain ⟨x,hx,ex⟩:=xX (ns:=[c / 3 % 4,c / 3 / 4 % 61]) e0 e1;have xb:0≤x∧x≤60:=by
   have h1:=mod_lt (c / 3) (m:=4) (by decide);have h2:=mod_lt (c / 3 / 4) (m:=61) (by decide);simp only [aAm,aAQ,or_false] at hx;lia
  refine ⟨_,rfl,r,c / 3 / 4 / 61,2,rfl,(by rw [ac hrp];exact aa),by decide,by decide,p,_,_,_,rfl,rfl,SqL.of (by rw [ac hrp.symm];exact aa),ex,?_⟩;refine ⟨[.str "text",.int x],.cons .str (.cons .int .nil),sz2,fun v H4 g4 hv=>?_⟩;exact q v _ (c / 3 / 4 / 61 / 2) H4 (((((B1.trans But.put).trans But.put).trans (But.same (ag hp _))).trans But.put).trans (But.same g4)) (g4 _ _ aa) hv (.text x xb.1 xb.2)
 ·obtain ⟨m0,m1⟩:=mod_lt (c / 3) (m:=8) (by decide);obtain ⟨m,hm⟩:∃ m:Nat,((m:Nat):Int)=1+c / 3 % 8:=⟨(1+c / 3 % 8).toNat,by lia⟩;refine ⟨_,rfl,_,rfl,r,c / 3,8,rfl,aa,by decide,by decide,_,_,rfl,rfl,?_⟩;refine ⟨r,c / 3 / 8,m,(by show [V.ref r,V.int (1+c / 3 % 8)]=_;rw [hm]),aa,by lia,fun p ss c' H2 b2 hp r2 p2 nam=>?_⟩;have B2:=(B1.trans But.put).trans b2;have hpH:H p=none:=by
   cases e:H p with
   | none=>rfl
   | some o =>
    have:r≠p:=fun h=>by rw [← h,aa] at hp;cases hp
    rw [ac this.symm,ac this.symm,e] at hp
    cases hp
  have hrp:r≠p:=fun h=>by rw [← h,hr0] at hpH;cases hpH
  obtain ⟨w1,w2⟩:=nam.words (by lia) (by lia);refine ⟨_,rfl,r,c',2,rfl,r2,by decide,by decide,rfl,_,rfl,be (fun c3=>?_) (fun c3=>?_)⟩
  ·have p3:(upd H2 r (.lst [.int (c' / 2)])) p=some (.lst (ss.map V.str)):=by rw [ac hrp.symm];exact p2
   refine ⟨_,rfl,.inl ⟨rfl,_,SqL.of p3⟩,p,_,rfl,rfl,p3,?_⟩;refine ⟨_,rfl,p,_,_,rfl,SqL.of aa,(by rw [← List.map_reverse];exact kh ss.reverse),fun v H4 g4 hv=>?_⟩;refine ⟨[.str "choice",.tup (ss.reverse.map Dt.str)],.cons .str (.cons hv .nil),sz2,fun v5 H5 g5 hv5=>?_⟩;exact q v5 _ (c' / 2) H5 (((bJ (B2.trans But.put) hpH).trans (But.same g4)).trans (But.same g5)) (g5 _ _ (g4 _ _ (by rw [ac hrp];exact aa))) hv5 (.choice _ w2)
  ·refine ⟨_,rfl,p,_,_,rfl,SqL.of (by rw [ac hrp.symm];exact p2),kh ss,fun v H4 g4 hv=>?_⟩;refine ⟨[.str "choice",.tup (ss.map Dt.str)],.cons .str (.cons hv .nil),sz2,fun v5 H5 g5 hv5=>?_⟩;exact q v5 _ (c' / 2) H5 (((B2.trans But.put).trans (But.same g4)).trans (But.same g5)) (g5 _ _ (g4 _ _ aa)) hv5 (.choice ss w1)
def But2 (r p:Addr) (H H':Hp):Prop:=∀ x o,x≠r→x≠p→H x=some o→H' x=some o
theorem But2.refl (r p:Addr) (H:Hp):But2 r p H H:=fun _ _ _ _ e=>e
theorem But2.trans {r p:Addr} {H H' H'':Hp} (a:But2 r p H H') (b:But2 r p H' H''):But2 r p H H'':=fun x o h1 h2 e=>b x o h1 h2 (a x o h1 h2 e)
theorem But2.one {r p:Addr} {H H':Hp} (b:But r H H'):But2 r p H H':=fun x o h1 _ e=>b x o h1 e
theorem But2.two {r p:Addr} {H H':Hp} (b:But p H H'):But2 r p H H':=fun x o _ h2 e=>b x o h2 e
theorem But2.same {r p:Addr} {H H':Hp} (b:Same H H'):But2 r p H H':=fun x o _ _ e=>b x o e
theorem But2.upd {r p l:Addr} {o:HO} {H H':Hp} (b:But2 r p H H') (hl:H l=none):But2 r p H (upd H' l o):=fun x u h1 h2 e=>by rw [ac (ah e hl)];exact b x u h1 h2 e
theorem But2.mid {r p:Addr} {H H':Hp} (b:But2 r p H H'):∃ M:Hp,But r H M∧But p M H'∧M p=H p:=by
 refine ⟨fun x=>if x=p then H p else H' x,fun x o n e=>?_,fun x o n e=>?_,by simp⟩
 ·by_cases h:x=p
  ·subst h;simpa using e
  ·simp only [if_neg h];exact b x o n h e
 ·simpa only [if_neg n] using e
theorem pH {K:W.Frag} {r p:Addr} {H H':Hp} {d:List Dt} {v:List V} {xs ys:List V} (hr:H r=some (.lst xs)) (hp:H p=some (.lst ys)) (b:But2 r p H H') (h:IsPs K H d v):IsPs K H' d v:=by
 obtain ⟨M,b1,b2,e⟩:=b.mid;exact (h.but hr b1).but (e.trans hp) b2
def bud (x:Int):Nat:=(x / 5).toNat
theorem vy (x:Int):bud (x - 5)≤bud x:=by unfold bud;lia
theorem vz {x:Int} (h:0≤x - 5):bud x=bud (x - 5)+1:=by unfold bud;lia
def A4 (K:W.Frag) (r p:Addr) (H:Hp) (D u:Nat) (x:Int) (Q:VK):Prop:=∀ v d a c (n' x':Int) H',But2 r p H H'→H' r=some (.lst [.int n'])→H' p=some (.lst [.int x'])→IsP K H' d v→FK a c d→a≤D→c+4*bud x'≤u+4*bud x→Q v H'
def pI (K:W.Frag) (n:Nat):Sp:=fun vs H Q _=>∃ (r p:Addr) (c x:Int) (m:Nat),1≤m∧m≤n∧vs=[.ref r,.int m,.ref p]∧r≠p∧H r=some (.lst [.int c])∧H p=some (.lst [.int x])∧A4 K r p H m 1 x Q
def sr (K:W.Frag) (n:Nat):Sp:=fun vs H Q _=>∃ (r p:Addr) (c x:Int) (m:Nat),1≤m∧m≤n∧vs=[.ref r,.int (m+1:Nat),.ref p]∧r≠p∧H r=some (.lst [.int c])∧H p=some (.lst [.int x])∧A4 K r p H (m+1) 4 x Q
def xY (K:W.Frag) (n:Nat):Sp:=fun vs H Q _=>∃ (r p:Addr) (c x:Int) (m:Nat),1≤m∧m≤n∧vs=[.ref r,.int (m+2:Nat),.ref p]∧r≠p∧H r=some (.lst [.int c])∧H p=some (.lst [.int x])∧A4 K r p H (m+2) 5 x Q
theorem kZ:∀ (l:List Nat) (n:Nat),jk (l++[n])=jk l+n
 | [],n=>by show n+0=0+n;lia
 | m :: l,n=>by
  show m+jk (l++[n])=m+jk l+n;rw [kZ l n];lia
theorem vA {ss:List Str} {gs:List G4} {m D:Nat} (nam:Nam m ss) (h8:m≤8) (e:gs.map (·.1)=ss) (fk:∀ g∈gs,FK g.2.2.1 g.2.2.2 g.2.1) (hd:∀ g∈gs,g.2.2.1≤D) :
  FK (pG (gs.map (·.2.2.1))+1) (jk (gs.map (·.2.2.2))+1) (.tup [.str "record",.tup (gs.map prG)])∧pG (gs.map (·.2.2.1))+1≤D+1:=by
 refine ⟨.rcd fk (by rw [e];exact nam.asc) (fun g hg=>?_) ?_,?_⟩
 ·exact nam.ok g.1 (by rw [← e];exact aAl.mpr ⟨g,hg,rfl⟩)
 ·have:=congrArg List.length e;rw [aAa,nam.len] at this;lia
 ·exact aBO (max_le fun n hn=>by
   obtain ⟨g,hg,rfl⟩:=aAl.mp hn;exact hd g hg)
theorem hG (T:Tx K mg ad) {f fk:Addr} {fd fdk:FuncData} (n:Nat) (F:Gn K mg "_law_record_kind" bo ["row","deep","room"] f fd) (Iw:Gn K mg "_law_kind" cH ["row","deep","room"] fk fdk)
  (IR:FnOk P w K mg base CX0 (3*n+6) fk fdk ["row","deep","room"] (pI K n)):FnOk P w K mg base CX0 (3*n+6+1) f fd ["row","deep","room"] (sr K n):=by
 obtain ⟨_,_,HM⟩:=T.law_digit;have HN:=aE (P:=P) (w:=w) (base:=base) T HM;obtain ⟨_,_,Iz⟩:=T.law_names;have IX:=e8 (P:=P) (w:=w) (base:=base) T Iz;refine F.F.ok bA (fun vs H Q E h=>?_) (fun cdv A outer s H vs Q E hr h=>?_)
 ·obtain ⟨r,p,c,x,m,_,_,rfl,_⟩:=h
  rfl
 obtain ⟨r,p,c,x,m,hm1,hmn,rfl,nrp,hr0,hp0,q⟩:=h;refine ⟨_,(@pss_cons _ _ _ _ _ (@ps_set _ _ 3 _ _ _ _ bA.nd rfl (Or.inl rfl) (pcl HM HN (hr.mono (by lia)) rfl (@pa2 _ _ _ _ _ (pv 0) pe_int (by rfl) (by rfl))) (by rfl) (.inl rfl)) (@pss_cons _ _ _ _ _ (@ps_set _ _ 4 _ _ _ _ bA.nd rfl (Or.inl rfl) (@pe_lst _ _ _ _ pa_nil) (by rfl) (.inl rfl)) (@pss_cons _ _ _ _ _ (ps_for PassesOwn.never rfl (fN (K:=K) rfl (pcl Iz IX (hr.mono (by lia)) rfl (@pa2 _ _ _ _ _ (pv 0) (pv 3) (by rfl) (by rfl)))) (ai (i:=5) bA.nd rfl (Or.inl rfl))
    (@pss_one _ _ _ (@ps_expr _ _ _ _ (pe_bm PySem.F.plainAttrs_list PySem.F.slot_list_append PySem.F.type_list_append bP (pv 4) (@pa1 _ _ _ (@pe_tupPK _ K _ _ _ _ rfl (@pa2 _ _ _ _ _ (pv 5) (pcl Iw IR (hr.mono (by lia)) rfl (@pa3 _ _ _ _ _ _ _ (pv 0) (@pe_op _ _ _ _ _ _ _ _ bV (pv 1) pe_int) (pv 2) (by rfl) (by rfl) (by rfl))) (by rfl) (by rfl))) (by rfl))) (by rfl)))) (@pss_one _ _ _ (@ps_ret _ _ _ _ (@pe_tupPK _ K _ _ _ _ rfl (@pa2 _ _ _ _ _ pe_str (pe_callTy (aZ (K:=K) rfl) rfl T.z_tuple boot_tuple (@pa1 _ _ _ (pv 4) (by rfl))) (by rfl) (by rfl)))))))),?_⟩
 refine ⟨_,rfl,r,c,4,rfl,hr0,by decide,by decide,?_⟩;obtain ⟨k0,k1⟩:=mod_lt c (m:=4) (by decide);obtain ⟨k,hk⟩:∃ k:Nat,((k:Nat):Int)=c % 4:=⟨(c % 4).toNat,by lia⟩;have B1:But2 r p H (upd H r (.lst [.int (c / 4)])):=.one But.put;refine ⟨(by show 0≤sizeLine;decide),fun pf hpf=>?_⟩;have nrf:r≠pf:=fun e=>by rw [← e,aa] at hpf;cases hpf
 have hfH:H pf=none:=by rw [ac nrf.symm] at hpf;exact hpf
 have npf:p≠pf:=ah hp0 hfH;refine ⟨_,rfl,_,rfl,r,c / 4,k,(by show [V.ref r,V.int (c % 4)]=_;rw [hk]),(by rw [ac nrf];exact aa),by lia,fun pn ss c2 H2 b2 hpn r2 n2 nam=>?_⟩;have nfn:pf≠pn:=ah (aa (o:=.lst [])) hpn;have p1:(upd (upd H r (.lst [.int (c / 4)])) pf (.lst [])) p=some (.lst [.int x]):=by rw [ac npf,ac nrp.symm];exact hp0
 have npn:p≠pn:=ah p1 hpn;have nrn:r≠pn:=ah (by rw [ac nrf];exact aa) hpn;have hnH:H pn=none:=by
  have:=hpn;rw [ac nfn.symm,ac nrn.symm] at this;exact this
 have B2:But2 r p H H2:=(B1.trans (.same (ag hpf _))).trans (.one b2);have p2:H2 p=some (.lst [.int x]):=b2 _ _ nrp.symm p1;have f2:H2 pf=some (.lst []):=b2 _ _ nrf.symm aa;refine ⟨pn,rfl,⟨_,SqL.of n2⟩,kr (xs:=ss.map V.str) (fun i σ H'=>∃ (gs:List G4) (ys:List V) (c' x':Int) (v6:Option V),But2 r p H H'∧H' r=some (.lst [.int c'])∧H' p=some (.lst [.int x'])∧H' pn=some (.lst (ss.map V.str))∧H' pf=some (.lst ys)∧IsPs K H' (gs.map prG) ys∧gs.map (·.1)=ss.take i∧(∀ g∈gs,FK g.2.2.1 g.2.2.2 g.2.1)∧(∀ g∈gs,g.2.2.1≤m)∧jk (gs.map (·.2.2.2))+4*bud x'≤i+4*bud x∧σ=[some (.ref r),some (.int (m+1:Nat)),some (.ref p),some (.int (c % 4)),some (.ref pf),v6])
  ⟨[],[],c2,x,_,B2,r2,p2,n2,f2,.nil,rfl,(fun g hg=>by cases hg),(fun g hg=>by cases hg),(by show 0+4*bud x≤0+4*bud x;lia),rfl⟩ (fun i σ H' _ h=>by obtain ⟨_,_,_,_,_,_,_,_,h,_⟩:=h;exact SqL.of h) ?_ ?_⟩
 ·rintro i u σ H3 hu ⟨gs,ys,c3,x3,v6,B3,r3,p3,n3,f3,hys,nms,fk,hd,hsum,rfl⟩;rw [aAf] at hu;obtain ⟨z,hz,rfl⟩:=aAh.mp hu;have li:=(aAk.mp hz).1;have lss:=nam.len;have lgs:gs.length=i:=by
   have:=congrArg List.length nms;rw [aAa,aAE] at this;lia
  have lys:=hys.length;rw [aAa] at lys;have e1:(((m+1:Nat):Int)) - 1=((m:Nat):Int):=by lia
  refine ⟨_,rfl,.inl ⟨rfl,_,SqL.of f3⟩,_,rfl,_,rfl,_,rfl,_,_,rfl,rfl,_,rfl,r,p,c3,x3,m,hm1,hmn,(by show [V.ref r,V.int (((m+1:Nat):Int) - 1),V.ref p]=_;rw [e1]),nrp,r3,p3,fun v d a c4 n4 x4 H4 b4 r4 p4 hv fk4 ha hc4=>?_⟩;refine ⟨[.str z,d],.cons .str (.cons hv .nil),sz2,fun v5 H5 g5 hv5=>?_⟩;have f5:H5 pf=some (.lst ys):=g5 _ _ (b4 _ _ nrf.symm npf.symm f3);refine ⟨pf,ys,v5,rfl,rfl,f5,av (by lia),?_⟩;refine ⟨gs++[(z,d,a,c4)],ys++[v5],n4,x4,_,((B3.trans b4).trans (.same g5)).upd hfH,(by rw [ac nrf];exact g5 _ _ r4),(by rw [ac npf];exact g5 _ _ p4),(by rw [ac nfn.symm];exact g5 _ _ (b4 _ _ nrn.symm npn.symm n3)),aa,?_,?_,?_,?_,?_,rfl⟩
  ·rw [aAt];exact (((pH r3 p3 b4 hys).same g5).append (.cons hv5 .nil)).but f5 But.put
  ·rw [aAt,nms,aAC,hz]
   rfl
  ·intro g hg;rcases aAG.mp hg with h | h
   ·exact fk g h
   ·obtain rfl:=aAq.mp h;exact fk4
  ·intro g hg;rcases aAG.mp hg with h | h
   ·exact hd g h
   ·obtain rfl:=aAq.mp h;exact ha
  ·rw [aAt];show jk (gs.map (·.2.2.2)++[c4])+_≤_;rw [kZ];lia
 ·rintro σ H3 ⟨gs,ys,c3,x3,v6,B3,r3,p3,n3,f3,hys,nms,fk,hd,hsum,rfl⟩;have lss:=nam.len;rw [aAa,aBs] at nms;rw [aAa] at hsum;obtain ⟨F1,F2⟩:=vA (D:=m) nam (by lia) nms fk hd;refine ⟨_,rfl,pf,_,_,rfl,SqL.of f3,hys,fun v4 H4 g4 hv4=>?_⟩;refine ⟨[.str "record",.tup (gs.map prG)],.cons .str (.cons hv4 .nil),sz2,fun v5 H5 g5 hv5=>?_⟩;exact q v5 _ _ _ c3 x3 H5 ((B3.trans (.same g4)).trans (.same g5)) (g5 _ _ (g4 _ _ r3)) (g5 _ _ (g4 _ _ p3)) hv5 F1 F2 (by lia)
theorem pJ (T:Tx K mg ad) {f fr fw:Addr} {fd fdr fdw:FuncData} (n:Nat) (Iw:Gn K mg "_law_kind" cH ["row","deep","room"] f fd) (JA:Gn K mg "_law_record_kind" bo ["row","deep","room"] fr fdr) (JK:Gn K mg "_law_rows_kind" bF ["row","deep","room"] fw fdw)
  (IR:FnOk P w K mg base CX0 (3*n+6) f fd ["row","deep","room"] (pI K n)) (JC:FnOk P w K mg base CX0 (3*n+7) fr fdr ["row","deep","room"] (sr K n)) (JL:FnOk P w K mg base CX0 (3*n+7) fw fdw ["row","deep","room"] (xY K (n - 1))) :
  FnOk P w K mg base CX0 (3*n+8+1) f fd ["row","deep","room"] (pI K (n+1)):=by
 obtain ⟨_,_,HM⟩:=T.law_digit;have HN:=aE (P:=P) (w:=w) (base:=base) T HM;obtain ⟨_,_,Jo⟩:=T.law_leaf_kind;have JM:=jn (P:=P) (w:=w) (base:=base) T Jo;refine Iw.F.ok jU (fun vs H Q E h=>?_) (fun cdv A outer s H vs Q E hr h=>?_)
 ·obtain ⟨r,p,c,x,m,_,_,rfl,_⟩:=h
  rfl
 obtain ⟨r,p,c,x,m,hm1,hmn,rfl,nrp,hr0,hp0,q⟩:=h;refine ⟨_,(@pss_cons _ _ _ _ _ (@ps_set _ _ 3 _ _ _ _ jU.nd rfl (Or.inl rfl) (pcl HM HN (hr.mono (by lia)) rfl (@pa2 _ _ _ _ _ (pv 0) pe_int (by rfl) (by rfl))) (by rfl) (.inl rfl)) (@pss_cons _ _ _ _ _ (m5 (@pe_op _ _ _ _ _ _ _ _ bV (@pe_ix _ _ _ _ _ _ _ (aD (K:=K) rfl) (pv 2) pe_int (fun _ _=>rfl)) pe_int) (qq (pv 2) pe_int kB)) (@pss_cons _ _ _ _ _ (@ps_if _ _ _ _ _ _ _ _ (PW.pt (@io _ _ _ _ _ _ _ (pt_cmpR fz (pv 3) pe_int (nomark _)) (@io _ _ _ _ _ _ _ (pt_cmpR fz (pv 1) pe_int (nomark _)) (@i9 _ _ _ _ (pt_cmpR fz (@pe_ix _ _ _ _ _ _ _ (aD (K:=K) rfl) (pv 2) pe_int (fun _ _=>rfl)) pe_int (nomark _)))))) (@pss_one _ _ _ (@ps_ret _ _ _ _ (pcl Jo JM (hr.mono (by lia)) rfl (@pa1 _ _ _ (pv 0) (by rfl))))) pss_nil) (@pss_cons _ _ _ _ _ (@ps_if _ _ _ _ _ _ _ _ (pt_cmpR op_eq (pv 3) pe_int (nomark _)) (@pss_one _ _ _ (@ps_ret _ _ _ _ (@pe_tupPK _ K _ _ _ _ rfl (@pa3 _ _ _ _ _ _ _ pe_str (pcl Iw IR (hr.mono (by lia)) rfl (@pa3 _ _ _ _ _ _ _ (pv 0) (@pe_op _ _ _ _ _ _ _ _ bV (pv 1) pe_int) (pv 2) (by rfl) (by rfl) (by rfl))) (pcl HM HN (hr.mono (by lia)) rfl (@pa2 _ _ _ _ _ (pv 0) pe_int (by rfl) (by rfl))) (by rfl) (by rfl) (by rfl))))) pss_nil) (@pss_cons _ _ _ _ _ (@ps_if _ _ _ _ _ _ _ _ (PW.pt (@pw_and _ _ _ _ _ _ _ (pt_cmpR op_eq (pv 3) pe_int (nomark _)) (@pw_and1 _ _ _ _ (pt_cmpR mo (pv 1) pe_int (nomark _))))) (@pss_one _ _ _ (@ps_ret _ _ _ _ (pcl JK JL (hr.mono (by lia)) rfl (@pa3 _ _ _ _ _ _ _ (pv 0) (pv 1) (pv 2) (by rfl) (by rfl) (by rfl))))) pss_nil) (@pss_one _ _ _ (@ps_ret _ _ _ _ (pcl JA JC (hr.mono (by lia)) rfl (@pa3 _ _ _ _ _ _ _ (pv 0) (pv 1) (pv 2) (by rfl) (by rfl) (by rfl)))))))))),?_⟩;refine ⟨_,rfl,r,c,6,rfl,hr0,by decide,by decide,?_⟩;have p1:(upd H r (.lst [.int (c / 6)])) p=some (.lst [.int x]):=by rw [ac nrp.symm];exact hp0
 have e0:∀ y:Int,atI [V.int y] 0=some (.int y):=fun _=>rfl;refine ⟨_,rfl,p,_,_,_,rfl,rfl,SqL.of p1,e0 x,_,_,rfl,rfl,_,rfl,p,_,_,_,rfl,rfl,p1,rfl,_,rfl,?_⟩;have B2:But2 r p H (upd (upd H r (.lst [.int (c / 6)])) p (.lst [.int (x - 5)])):=(But2.one But.put).trans (.two But.put);have r2:(upd (upd H r (.lst [.int (c / 6)])) p (.lst [.int (x - 5)])) r=some (.lst [.int (c / 6)]):=by rw [ac nrp];exact aa
 have p2:(upd (upd H r (.lst [.int (c / 6)])) p (.lst [.int (x - 5)])) p=some (.lst [.int (x - 5)]):=aa;have bl:=vy x;refine ⟨_,_,rfl,rfl,_,rfl,be (fun c1=>dY ?leaf) (fun c1=>?_)⟩
 case leaf=>exact ⟨_,rfl,r,c / 6,rfl,r2,fun v d n' H' b e hv fk=>q v d 1 1 n' (x - 5) H' (B2.trans (.one b)) e (b _ _ nrp.symm p2) hv fk hm1 (by lia)⟩
 refine ⟨_,rfl,_,_,rfl,rfl,_,rfl,be (fun c2=>dY ?leaf) (fun c2=>?_)⟩
 case leaf=>exact ⟨_,rfl,r,c / 6,rfl,r2,fun v d n' H' b e hv fk=>q v d 1 1 n' (x - 5) H' (B2.trans (.one b)) e (b _ _ nrp.symm p2) hv fk hm1 (by lia)⟩
 refine ⟨_,rfl,p,_,_,_,rfl,rfl,SqL.of p2,e0 (x - 5),_,_,rfl,rfl,_,rfl,be (fun c3=>?leaf) (fun c3=>?_)⟩
 case leaf=>exact ⟨_,rfl,r,c / 6,rfl,r2,fun v d n' H' b e hv fk=>q v d 1 1 n' (x - 5) H' (B2.trans (.one b)) e (b _ _ nrp.symm p2) hv fk hm1 (by lia)⟩
 have m2:2≤m:=by
  have:¬ ((m:Nat):Int) < 2:=fun h=>c2 (decide_eq_true h);lia
 have x5:0≤x - 5:=by
  have:¬ x - 5 < 0:=fun h=>c3 (decide_eq_true h);lia
 have bs:=vz x5;obtain ⟨m,rfl⟩:∃ k,m=k+1:=⟨m - 1,by lia⟩;have e1:(((m+1:Nat):Int)) - 1=((m:Nat):Int):=by lia
 refine ⟨_,rfl,rfl,_,rfl,be (fun c4=>?_) (fun c4=>?_)⟩
 ·refine ⟨_,rfl,_,rfl,_,_,rfl,rfl,_,rfl,r,p,c / 6,x - 5,m,by lia,by lia,(by show [V.ref r,V.int (((m+1:Nat):Int) - 1),V.ref p]=_;rw [e1]),nrp,r2,p2,fun v d a c4 n4 x4 H4 b4 r4 p4 hv fk4 ha hc4=>?_⟩;obtain ⟨k0,k1⟩:=mod_lt n4 (m:=9) (by decide);refine ⟨_,rfl,r,n4,9,rfl,r4,by decide,by decide,[.str "list",d,.int _],.cons .str (.cons (hv.but r4 But.put) (.cons .int .nil)),sz3,fun v5 H5 g5 hv5=>?_⟩;exact q v5 _ (a+1) (c4+1) (n4 / 9) x4 H5 (((B2.trans b4).trans (.one But.put)).trans (.same g5)) (g5 _ _ aa) (g5 _ _ (by rw [ac nrp.symm];exact p4)) hv5 (.list fk4 k0 (by lia)) (by lia) (by lia)
 refine ⟨_,rfl,rfl,_,rfl,be (fun c5=>?_) (fun c5=>cg ?_)⟩
 ·refine ⟨_,rfl,_,_,rfl,rfl,_,rfl,be (fun c6=>?_) (fun c6=>?_)⟩
  ·have m3:3≤m+1:=by
    have:(2:Int) < ((m+1:Nat):Int):=of_decide_eq_true c6;lia
   obtain ⟨m,rfl⟩:∃ k,m=k+1:=⟨m - 1,by lia⟩;exact ⟨_,rfl,_,rfl,_,rfl,r,p,c / 6,x - 5,m,by lia,by lia,rfl,nrp,r2,p2,fun v d a c4 n4 x4 H4 b4 r4 p4 hv fk4 ha hc4=>q v d a c4 n4 x4 H4 (B2.trans b4) r4 p4 hv fk4 ha (by lia)⟩
  ·exact ⟨_,rfl,_,rfl,_,rfl,r,p,c / 6,x - 5,m,by lia,by lia,rfl,nrp,r2,p2,fun v d a c4 n4 x4 H4 b4 r4 p4 hv fk4 ha hc4=>q v d a c4 n4 x4 H4 (B2.trans b4) r4 p4 hv fk4 ha (by lia)⟩
 ·exact ⟨_,rfl,_,rfl,_,rfl,r,p,c / 6,x - 5,m,by lia,by lia,rfl,nrp,r2,p2,fun v d a c4 n4 x4 H4 b4 r4 p4 hv fk4 ha hc4=>q v d a c4 n4 x4 H4 (B2.trans b4) r4 p4 hv fk4 ha (by lia)⟩
def G5 (d:Dt):Prop:=∃ w r,d=.tup (.str w :: r)∧(w= "number" ∨w= "text")
structure RkI (K:W.Frag) (r p pn pf:Addr) (ss:List Str) (key:Str) (m:Nat) (x:Int) (H:Hp) (i:Nat) (gs:List G4) (ys:List V) (c' x':Int) (H':Hp):Prop where
 B:But2 r p H H'
 hr:H' r=some (.lst [.int c'])
 hp:H' p=some (.lst [.int x'])
 hn:H' pn=some (.lst (ss.map V.str))
 hf:H' pf=some (.lst ys)
 hys:IsPs K H' (gs.map prG) ys
 nms:gs.map (·.1)=ss.take i
 fk:∀ g∈gs,FK g.2.2.1 g.2.2.2 g.2.1
 hd:∀ g∈gs,g.2.2.1≤m
 ky:∀ g∈gs,g.1=key→G5 g.2.1
 sum:jk (gs.map (·.2.2.2))+4*bud x'≤i+4*bud x
theorem RkI.next {K:W.Frag} {r p pn pf:Addr} {ss:List Str} {key z:Str} {m i a c4:Nat} {x c3 x3 n4 x4:Int} {H H3 H4 H5:Hp} {gs:List G4} {ys:List V} {d:Dt} {v5:V} (I:RkI K r p pn pf ss key m x H i gs ys c3 x3 H3) (hz:ss[i]?=some z)
  (nrf:r≠pf) (npf:p≠pf) (nrn:r≠pn) (npn:p≠pn) (nfn:pf≠pn) (hfH:H pf=none) (b4:But2 r p H3 H4) (r4:H4 r=some (.lst [.int n4])) (p4:H4 p=some (.lst [.int x4])) (fk4:FK a c4 d) (ha:a≤m) (hc4:c4+4*bud x4≤1+4*bud x3) (hk:z=key→G5 d)
  (g5:Same H4 H5) (hv5:IsP K H5 (.tup [.str z,d]) v5):RkI K r p pn pf ss key m x H (i+1) (gs++[(z,d,a,c4)]) (ys++[v5]) n4 x4 (upd H5 pf (.lst (ys++[v5]))):=by
 obtain ⟨B3,r3,p3,n3,f3,hys,nms,fk,hd,ky,hsum⟩:=I;have f5:H5 pf=some (.lst ys):=g5 _ _ (b4 _ _ nrf.symm npf.symm f3);refine ⟨((B3.trans b4).trans (.same g5)).upd hfH,(by rw [ac nrf];exact g5 _ _ r4),(by rw [ac npf];exact g5 _ _ p4),(by rw [ac nfn.symm];exact g5 _ _ (b4 _ _ nrn.symm npn.symm n3)),aa,?_,?_,?_,?_,?_,?_⟩
 ·rw [aAt];exact (((pH r3 p3 b4 hys).same g5).append (.cons hv5 .nil)).but f5 But.put
 ·rw [aAt,nms,aAC,hz]
  rfl
 ·intro g hg;rcases aAG.mp hg with h | h
  ·exact fk g h
  ·obtain rfl:=aAq.mp h;exact fk4
 ·intro g hg;rcases aAG.mp hg with h | h
  ·exact hd g h
  ·obtain rfl:=aAq.mp h;exact ha
 ·intro g hg;rcases aAG.mp hg with h | h
  ·exact ky g h
  ·obtain rfl:=aAq.mp h;exact hk
 ·rw [aAt];show jk (gs.map (·.2.2.2)++[c4])+_≤_;rw [kZ];lia
theorem RkI.few {K:W.Frag} {r p pn pf:Addr} {ss:List Str} {key:Str} {m i:Nat} {x c3 x3:Int} {H H3:Hp} {gs:List G4} {ys:List V} (I:RkI K r p pn pf ss key m x H i gs ys c3 x3 H3):ys.length≤ss.length:=by
 have lys:=I.hys.length;have:=congrArg List.length I.nms;rw [aAa,aAE] at this;rw [aAa] at lys;lia
theorem jo (T:Tx K mg ad) {f fk:Addr} {fd fdk:FuncData} (n:Nat) (F:Gn K mg "_law_rows_kind" bF ["row","deep","room"] f fd) (Iw:Gn K mg "_law_kind" cH ["row","deep","room"] fk fdk)
  (IR:FnOk P w K mg base CX0 (3*n+6) fk fdk ["row","deep","room"] (pI K n)):FnOk P w K mg base CX0 (3*n+6+1) f fd ["row","deep","room"] (xY K n):=by
 obtain ⟨_,_,HM⟩:=T.law_digit;have HN:=aE (P:=P) (w:=w) (base:=base) T HM;obtain ⟨_,_,Iz⟩:=T.law_names;have IX:=e8 (P:=P) (w:=w) (base:=base) T Iz;obtain ⟨_,_,Iv⟩:=T.law_number_kind;have IV:=dG (P:=P) (w:=w) (base:=base) T Iv;refine F.F.ok aO (fun vs H Q E h=>?_) (fun cdv A outer s H vs Q E hr h=>?_)
 ·obtain ⟨r,p,c,x,m,_,_,rfl,_⟩:=h
  rfl
 obtain ⟨r,p,c,x,m,hm1,hmn,rfl,nrp,hr0,hp0,q⟩:=h;refine ⟨_,(@pss_cons _ _ _ _ _ (@ps_set _ _ 3 _ _ _ _ aO.nd rfl (Or.inl rfl) (pcl Iz IX (hr.mono (by lia)) rfl (@pa2 _ _ _ _ _ (pv 0) (@pe_op _ _ _ _ _ _ _ _ aS pe_int (pcl HM HN (hr.mono (by lia)) rfl (@pa2 _ _ _ _ _ (pv 0) pe_int (by rfl) (by rfl)))) (by rfl) (by rfl))) (by rfl) (.inl rfl)) (@pss_cons _ _ _ _ _ (@ps_set _ _ 4 _ _ _ _ aO.nd rfl (Or.inl rfl) (@pe_ix _ _ _ _ _ _ _ (aD (K:=K) rfl) (pv 3) (pcl HM HN (hr.mono (by lia)) rfl (@pa2 _ _ _ _ _ (pv 0) (pe_callB (bp (K:=K) rfl) rfl T.z_len PySem.boot_len (@pa1 _ _ _ (pv 3) (by rfl))) (by rfl) (by rfl))) (fun _ _=>rfl)) (by rfl) (.inl rfl)) (@pss_cons _ _ _ _ _ (@ps_set _ _ 5 _ _ _ _ aO.nd rfl (Or.inl rfl) (@pe_lst _ _ _ _ pa_nil) (by rfl) (.inl rfl)) (@pss_cons _ _ _ _ _ (ps_for PassesOwn.never rfl (fN (K:=K) rfl (pv 3)) (ai (i:=6) aO.nd rfl (Or.inl rfl))
    (@pss_cons _ _ _ _ _ (@ps_set _ _ 7 _ _ _ _ aO.nd rfl (Or.inl rfl) (pcl Iv IV (hr.mono (by lia)) rfl (@pa1 _ _ _ (pv 0) (by rfl))) (by rfl) (.inl rfl)) (@pss_cons _ _ _ _ _ (@ps_if _ _ _ _ _ _ _ _ (pt_cmpR op_eq (pcl HM HN (hr.mono (by lia)) rfl (@pa2 _ _ _ _ _ (pv 0) pe_int (by rfl) (by rfl))) pe_int (nomark _)) (@pss_one _ _ _ (@ps_set _ _ 7 _ _ _ _ aO.nd rfl (Or.inl rfl) (@pe_tupPK _ K _ _ _ _ rfl (@pa2 _ _ _ _ _ pe_str (pcl HM HN (hr.mono (by lia)) rfl (@pa2 _ _ _ _ _ (pv 0) pe_int (by rfl) (by rfl))) (by rfl) (by rfl))) (by rfl) (.inl rfl))) pss_nil) (@pss_cons _ _ _ _ _ (@ps_if _ _ _ _ _ _ _ _ (pt_cmpR op_ne (pv 6) (pv 4) (nomark _)) (@pss_one _ _ _ (@ps_set _ _ 7 _ _ _ _ aO.nd rfl (Or.inl rfl) (pcl Iw IR (hr.mono (by lia)) rfl (@pa3 _ _ _ _ _ _ _ (pv 0) (@pe_op _ _ _ _ _ _ _ _ bV (pv 1) pe_int) (pv 2) (by rfl) (by rfl) (by rfl))) (by rfl) (.inl rfl))) pss_nil) (@pss_one _ _ _ (@ps_expr _ _ _ _ (pe_bm PySem.F.plainAttrs_list PySem.F.slot_list_append PySem.F.type_list_append bP (pv 5) (@pa1 _ _ _ (@pe_tupPK _ K _ _ _ _ rfl (@pa2 _ _ _ _ _ (pv 6) (pv 7) (by rfl) (by rfl))) (by rfl))) (by rfl))))))) (@pss_one _ _ _ (@ps_ret _ _ _ _ (@pe_tupPK _ K _ _ _ _ rfl (@aq _ _ _ _ _ pe_str (@pa3 _ _ _ _ _ _ _ (pv 4) (@pe_tupPK _ K _ _ _ _ rfl (@pa2 _ _ _ _ _ pe_str (pe_callTy (aZ (K:=K) rfl) rfl T.z_tuple boot_tuple (@pa1 _ _ _ (pv 5) (by rfl))) (by rfl) (by rfl))) (pcl HM HN (hr.mono (by lia)) rfl (@pa2 _ _ _ _ _ (pv 0) pe_int (by rfl) (by rfl))) (by rfl) (by rfl) (by rfl)) (by rfl))))))))),?_⟩
 obtain ⟨k0,k1⟩:=mod_lt c (m:=3) (by decide);obtain ⟨k,hk⟩:∃ k:Nat,((k:Nat):Int)=1+c % 3:=⟨(1+c % 3).toNat,by lia⟩;refine ⟨_,rfl,_,rfl,r,c,3,rfl,hr0,by decide,by decide,_,_,rfl,rfl,r,c / 3,k,(by show [V.ref r,V.int (1+c % 3)]=_;rw [hk]),aa,by lia,fun pn ss c2 H2 b2 hpn r2 n2 nam=>?_⟩;have p1:(upd H r (.lst [.int (c / 3)])) p=some (.lst [.int x]):=by rw [ac nrp.symm];exact hp0
 have npn:p≠pn:=ah p1 hpn;have nrn:r≠pn:=ah aa hpn;have hnH:H pn=none:=by rw [ac nrn.symm] at hpn;exact hpn
 have B2:But2 r p H H2:=(But2.one But.put).trans (.one b2);have p2:H2 p=some (.lst [.int x]):=b2 _ _ nrp.symm p1;have lss:=nam.len;have ln:(0:Int) < (((ss.map V.str).length:Nat):Int):=by rw [aAa];lia
 obtain ⟨d0,d1⟩:=mod_lt c2 ln;obtain ⟨vk,hvk,ek⟩:=kW (xs:=ss.map V.str) d0 d1;obtain ⟨key,hkey,rfl⟩:=aAl.mp hvk;refine ⟨_,rfl,_,rfl,_,rfl,pn,_,rfl,.inl (SqL.of n2),r,c2,_,rfl,r2,ln,(by rw [aAa];lia),pn,_,_,_,rfl,rfl,SqL.of (by rw [ac nrn.symm];exact n2),ek,?_⟩
 generalize hL:(((ss.map V.str).length:Nat):Int)=L at *
 have n3:(upd H2 r (.lst [.int (c2 / L)])) pn=some (.lst (ss.map V.str)):=by rw [ac nrn.symm];exact n2
 have r3:(upd H2 r (.lst [.int (c2 / L)])) r=some (.lst [.int (c2 / L)]):=aa;have p3:(upd H2 r (.lst [.int (c2 / L)])) p=some (.lst [.int x]):=by rw [ac nrp.symm];exact p2
 have B3:But2 r p H (upd H2 r (.lst [.int (c2 / L)])):=B2.trans (.one But.put)
 generalize upd H2 r (.lst [.int (c2 / L)])=H3 at *
 refine ⟨(by show 0≤sizeLine;decide),fun pf hpf=>?_⟩;have nrf:r≠pf:=ah r3 hpf;have npf:p≠pf:=ah p3 hpf;have nfn:pf≠pn:=(ah n3 hpf).symm;have hfH:H pf=none:=by
  cases e:H pf with
  | none=>rfl
  | some o=>rw [B3 _ _ nrf.symm npf.symm e] at hpf;cases hpf
 refine ⟨_,rfl,pn,rfl,⟨_,SqL.of (by rw [ac nfn.symm];exact n3)⟩,kr (xs:=ss.map V.str) (fun i σ H'=>∃ gs ys c' x' v6 v7,RkI K r p pn pf ss key m x H i gs ys c' x' H'∧σ=[some (.ref r),some (.int (m+2:Nat)),some (.ref p),some (.ref pn),some (.str key),some (.ref pf),v6,v7])
  ⟨[],[],c2 / L,x,none,none,⟨B3.upd hfH,(by rw [ac nrf];exact r3),(by rw [ac npf];exact p3),(by rw [ac nfn.symm];exact n3),aa,.nil,rfl,(fun g hg=>by cases hg),(fun g hg=>by cases hg),(fun g hg=>by cases hg),(by show 0+4*bud x≤0+4*bud x;lia)⟩,rfl⟩ (fun i σ H' _ h=>by obtain ⟨_,_,_,_,_,_,h,_⟩:=h;exact SqL.of h.hn) ?_ ?_⟩
 ·rintro i u σ H4 hu ⟨gs,ys,c4,x4,v6,v7,I,rfl⟩;rw [aAf] at hu;obtain ⟨z,hz,rfl⟩:=aAh.mp hu;have li:=(aAk.mp hz).1;have few:=I.few;refine ⟨_,rfl,r,c4,rfl,I.hr,fun v5 lo hi n5 H5 b5 r5 hv5 fk5=>?_⟩;have p5:H5 p=some (.lst [.int x4]):=b5 _ _ nrp.symm I.hp;have e2:(((m+2:Nat):Int)) - 2=((m:Nat):Int):=by lia
  refine ⟨_,rfl,r,n5,2,rfl,r5,by decide,by decide,rfl,_,rfl,be (fun c1=>?_) (fun c1=>?_)⟩
  ·obtain ⟨k4,k5⟩:=mod_lt (n5 / 2) (m:=4) (by decide);refine ⟨_,rfl,r,n5 / 2,4,rfl,aa,by decide,by decide,[.str "text",.int _],.cons .str (.cons .int .nil),sz2,fun v6 H6 g6 hv6=>?_⟩;have B6:But2 r p H4 H6:=(((But2.one b5).trans (.one But.put)).trans (.one But.put)).trans (.same g6);have r6:H6 r=some (.lst [.int (n5 / 2 / 4)]):=g6 _ _ aa;have p6:H6 p=some (.lst [.int x4]):=g6 _ _ (by rw [ac nrp.symm,ac nrp.symm];exact p5);refine ⟨_,rfl,_,rfl,rfl,_,rfl,be (fun c2=>?_) (fun c2=>?_)⟩
   ·refine ⟨_,rfl,_,rfl,_,_,rfl,rfl,_,rfl,r,p,n5 / 2 / 4,x4,m,hm1,hmn,(by show [V.ref r,V.int (((m+2:Nat):Int) - 2),V.ref p]=_;rw [e2]),nrp,r6,p6,fun v d a c7 n7 x7 H7 b7 r7 p7 hv fk7 ha hc7=>?_⟩;refine ⟨_,rfl,.inl ⟨rfl,_,SqL.of (b7 _ _ nrf.symm npf.symm (B6 _ _ nrf.symm npf.symm I.hf))⟩,_,rfl,_,rfl,[.str z,d],.cons .str (.cons hv .nil),sz2,fun v8 H8 g8 hv8=>?_⟩;exact ⟨pf,ys,v8,rfl,rfl,g8 _ _ (b7 _ _ nrf.symm npf.symm (B6 _ _ nrf.symm npf.symm I.hf)),av (by lia),_,_,_,_,_,_,I.next hz nrf npf nrn npn nfn hfH (B6.trans b7) r7 p7 fk7 ha hc7 (fun e=>by rw [e] at c2;simp at c2) g8 hv8,rfl⟩
   ·refine ⟨_,rfl,.inl ⟨rfl,_,SqL.of (B6 _ _ nrf.symm npf.symm I.hf)⟩,_,rfl,_,rfl,[.str z,_],.cons .str (.cons hv6 .nil),sz2,fun v8 H8 g8 hv8=>?_⟩;exact ⟨pf,ys,v8,rfl,rfl,g8 _ _ (B6 _ _ nrf.symm npf.symm I.hf),av (by lia),_,_,_,_,_,_,I.next hz nrf npf nrn npn nfn hfH B6 r6 p6 (.text _ k4 (by lia)) hm1 (by lia) (fun _=>⟨_,_,rfl,.inr rfl⟩) g8 hv8,rfl⟩
  ·have B6:But2 r p H4 (upd H5 r (.lst [.int (n5 / 2)])):=(But2.one b5).trans (.one But.put);have r6:(upd H5 r (.lst [.int (n5 / 2)])) r=some (.lst [.int (n5 / 2)]):=aa;have p6:(upd H5 r (.lst [.int (n5 / 2)])) p=some (.lst [.int x4]):=by rw [ac nrp.symm];exact p5
   have hv6:=hv5.but r5 (But.put (o:=.lst [.int (n5 / 2)]));refine ⟨_,rfl,_,rfl,rfl,_,rfl,be (fun c2=>?_) (fun c2=>?_)⟩
   ·refine ⟨_,rfl,_,rfl,_,_,rfl,rfl,_,rfl,r,p,n5 / 2,x4,m,hm1,hmn,(by show [V.ref r,V.int (((m+2:Nat):Int) - 2),V.ref p]=_;rw [e2]),nrp,r6,p6,fun v d a c7 n7 x7 H7 b7 r7 p7 hv fk7 ha hc7=>?_⟩;refine ⟨_,rfl,.inl ⟨rfl,_,SqL.of (b7 _ _ nrf.symm npf.symm (B6 _ _ nrf.symm npf.symm I.hf))⟩,_,rfl,_,rfl,[.str z,d],.cons .str (.cons hv .nil),sz2,fun v8 H8 g8 hv8=>?_⟩;exact ⟨pf,ys,v8,rfl,rfl,g8 _ _ (b7 _ _ nrf.symm npf.symm (B6 _ _ nrf.symm npf.symm I.hf)),av (by lia),_,_,_,_,_,_,I.next hz nrf npf nrn npn nfn hfH (B6.trans b7) r7 p7 fk7 ha hc7 (fun e=>by rw [e] at c2;simp at c2) g8 hv8,rfl⟩
   ·refine ⟨_,rfl,.inl ⟨rfl,_,SqL.of (B6 _ _ nrf.symm npf.symm I.hf)⟩,_,rfl,_,rfl,[.str z,_],.cons .str (.cons hv6 .nil),sz2,fun v8 H8 g8 hv8=>?_⟩;exact ⟨pf,ys,v8,rfl,rfl,g8 _ _ (B6 _ _ nrf.symm npf.symm I.hf),av (by lia),_,_,_,_,_,_,I.next hz nrf npf nrn npn nfn hfH B6 r6 p6 fk5 hm1 (by lia) (fun _=>⟨_,_,rfl,.inl rfl⟩) g8 hv8,rfl⟩
 ·rintro σ H4 ⟨gs,ys,c4,x4,v6,v7,I,rfl⟩;obtain ⟨B4,r4,p4,n4,f4,hys,nms,fk,hd,ky,hsum⟩:=I;rw [aAa,aBs] at nms;rw [aAa] at hsum;obtain ⟨F1,F2⟩:=vA (D:=m) nam (by lia) nms fk hd;have hK:GS (gs.map prG) key:=by
   obtain ⟨g,hg,rfl⟩:=aAl.mp (nms ▸ hkey:key∈gs.map (·.1));obtain ⟨w,l,e,h⟩:=ky g hg rfl;exact ⟨w,l,aAl.mpr ⟨g,hg,by show Dt.tup [.str g.1,g.2.1]=_;rw [e]⟩,h⟩
  obtain ⟨k4,k5⟩:=mod_lt c4 (m:=9) (by decide);refine ⟨_,rfl,_,rfl,pf,_,_,rfl,SqL.of f4,hys,fun v5 H5 g5 hv5=>?_⟩;refine ⟨[.str "record",.tup (gs.map prG)],.cons .str (.cons hv5 .nil),sz2,fun v6 H6 g6 hv6=>?_⟩;have r6:=g6 _ _ (g5 _ _ r4);refine ⟨_,rfl,r,c4,9,rfl,r6,by decide,by decide,[.str "rows",.str key,.tup [.str "record",.tup (gs.map prG)],.int _],.cons .str (.cons .str (.cons (hv6.but r6 But.put) (.cons .int .nil))),(by show 4≤sizeLine;decide),fun v7 H7 g7 hv7=>?_⟩;exact q v7 _ _ _ (c4 / 9) x4 H7 ((((B4.trans (.same g5)).trans (.same g6)).trans (.one But.put)).trans (.same g7)) (g7 _ _ aa) (g7 _ _ (by rw [ac nrp.symm];exact g6 _ _ (g5 _ _ p4))) hv7 (.rows F1 hK k4 (by lia)) (by lia) (by lia)
theorem mM (T:Tx K mg ad) {f fr fw:Addr} {fd fdr fdw:FuncData} (D:Gn K mg "_law_kind" cH ["row","deep","room"] f fd) (Dr:Gn K mg "_law_record_kind" bo ["row","deep","room"] fr fdr) (Dw:Gn K mg "_law_rows_kind" bF ["row","deep","room"] fw fdw) :
  ∀ n,FnOk P w K mg base CX0 (3*n+6) f fd ["row","deep","room"] (pI K n)
 | 0=>fn_none fun vs H Q E z=>by obtain ⟨_,_,_,_,m,h1,h2,_⟩:=z;lia
 | n+1=>by
  have ih:=mM T D Dr Dw n;refine (pJ T n D Dr Dw ih (hG T n Dr D ih) ((jo T n Dw D ih).imp ?_)).mono (by lia);rintro vs H Q E ⟨r,p,c,x,m,h1,h2,z⟩;exact ⟨r,p,c,x,m,h1,by lia,z⟩
def aM (L:Str) (c:Nat):Bool:=decide (c∈L.cps.toList)
def bZ (L:Str) (cs:List Nat):Nat:=(cs.takeWhile (aM L)).length
theorem nM (L:Str):∀ cs:List Nat,bZ L cs≤cs.length
 | []=>aAp _
 | c :: cs=>by
  unfold bZ;rw [aAX]
  split
  ·exact aBO (nM L cs)
  ·exact aAD _
theorem vB {L:Str}:∀ {cs:List Nat} {k:Nat},k < bZ L cs→∃ c,cs[k]?=some c∧aM L c=true
 | [],k,h=>by simp [bZ] at h
 | c :: cs,k,h=>by
  unfold bZ at h;rw [aAX] at h
  split at h
  ·rename_i e
   cases k with
   | zero=>exact ⟨c,rfl,e⟩
   | succ k=>exact vB (cs:=cs) (by unfold bZ;simpa using h)
  ·simp at h
theorem run_end {L:Str}:∀ {cs:List Nat} {c:Nat},cs[bZ L cs]?=some c→aM L c=false
 | [],c,h=>by simp at h
 | d :: cs,c,h=>by
  unfold bZ at h;rw [aAX] at h
  split at h
  ·exact run_end (cs:=cs) (by unfold bZ;simpa using h)
  ·rename_i e
   simp at h;subst h
   simpa using e
def qY (_:W.Frag) (_:Ads):Sp:=fun vs H Q _=>∃ (z L:Str) (n:Nat),vs=[.str z,.int n,.str L]∧n≤z.length∧z.length≤100000∧Q (.int (n+bZ L (z.cps.toList.drop n):Nat)) H
theorem qZ (T:Tx K mg ad) {f:Addr} {fd:FuncData} (F:Gn K mg "run_end" jE ["text","at","letters"] f fd):FnOk P w K mg base CX0 1 f fd ["text","at","letters"] (qY K ad):=by
 refine F.F.ok ii (fun vs H Q E h=>?_) (fun cdv A outer s H vs Q E hr h=>?_)
 ·obtain ⟨z,L,n,rfl,_⟩:=h
  rfl
 obtain ⟨z,L,n,rfl,hn,hz,q⟩:=h;refine ⟨_,(@pss_cons _ _ _ _ _ (@ps_set _ _ 3 _ _ _ _ ii.nd rfl (Or.inl rfl) (pv 1) (by rfl) (.inl rfl)) (@pss_cons _ _ _ _ _ (kq PassesOwn.never (PW.pt (@pw_and _ _ _ _ _ _ _ (pt_cmpR fz (pv 3) (pe_callB cu rfl T.z_len PySem.boot_len (@pa1 _ _ _ (pv 0) (by rfl))) (nomark _)) (@pw_and1 _ _ _ _ (pt_cmpR op_in_str (@pe_ix _ _ _ _ _ _ _ ix_str (pv 0) (pv 3) (fun _ _=>rfl)) (pv 2) rfl))))
    (@pss_one _ _ _ (qr (i:=3) ii.nd rfl (Or.inl rfl) pe_int ip_add))) (@pss_one _ _ _ (@ps_ret _ _ _ _ (pv 3))))),?_⟩
 have rl:=nM L (z.cps.toList.drop n);rw [aAI,ak] at rl;refine ⟨_,rfl,fun m σ H'=>H'=H∧∃ k:Nat,k≤bZ L (z.cps.toList.drop n)∧m=bZ L (z.cps.toList.drop n) - k∧σ=[some (.str z),some (.int n),some (.str L),some (.int (n+k:Nat))],⟨_,rfl,0,aAD _,rfl,rfl⟩,?_⟩;rintro m σ H' ⟨rfl,k,hk,rfl,rfl⟩;refine ⟨_,rfl,_,rfl,z,rfl,bX hz,_,_,rfl,rfl,_,rfl,be (fun c=>?_) (fun c=>?_)⟩
 ·have hlt:n+k < z.length:=by have:=of_decide_eq_true c;lia
  obtain ⟨ch,hch⟩:∃ ch,z.cps.toList[n+k]?=some ch:=⟨_,aAv (by rw [ak];exact hlt)⟩;have hd:(z.cps.toList.drop n)[k]?=some ch:=by rw [List.getElem?_drop];exact hch
  refine ⟨_,rfl,_,rfl,z,_,ch,rfl,rfl,bX hz,pF hch,_,rfl,_,_,rfl,rfl,_,rfl,?_⟩;rw [PySem.StrLaws.found_one]
  by_cases hlt':k < bZ L (z.cps.toList.drop n)
  ·obtain ⟨c',h1,h2⟩:=vB hlt';rw [hd] at h1;obtain rfl:=Option.some.inj h1;rw [show decide (ch∈L.cps.toList)=true from h2];refine dY ⟨fun σ' H2=>H2=H'∧σ'=[some (.str z),some (.int n),some (.str L),some (.int (n+(k+1):Nat))],fun σ' H2 p=>⟨_,(by lia:bZ L (z.cps.toList.drop n) - (k+1) < _),p.1,k+1,hlt',rfl,p.2⟩,_,rfl,_,_,rfl,rfl,rfl,?_⟩;simp only [List.set_cons_succ,List.set_cons_zero];rw [show ((n+k:Nat):Int)+1=((n+(k+1):Nat):Int) by lia]
  ·have e:k=bZ L (z.cps.toList.drop n):=by lia
   subst e;rw [show decide (ch∈L.cps.toList)=false from run_end hd];exact cg ⟨_,rfl,q⟩
 ·have e:k=bZ L (z.cps.toList.drop n):=by
   have c':¬ (((n+k:Nat):Int) < (z.length:Int)):=fun h=>c (decide_eq_true h);lia
  subst e;exact ⟨_,rfl,q⟩
abbrev letS:Str:= "abcdefghijklmnopqrstuvwxyz"
abbrev figS:Str:= "0123456789"
def dl:List Nat→Option Nat
 | []=>none
 | c :: r=>if c=34 then (r.findIdx? (· == 34)).map (· + 2) else if aM letS c=true then some (bZ letS (c :: r)) else if c=45∨aM figS c=true then some (1+bZ figS r) else some 1
theorem iG (c d:Nat):decide (V.str ⟨#[c]⟩=V.str ⟨#[d]⟩)=decide (c=d):=by
 rw [decide_eq_decide];exact ⟨fun h=>by injection h with h;injection h with h;simpa using h,fun h=>by rw [h]⟩
theorem vC:(Str.ofString "\"")=⟨#[34]⟩:=by decide +kernel
theorem vD:(Str.ofString "-")=⟨#[45]⟩:=by decide +kernel
theorem xZ:(Str.ofString " ")=⟨#[32]⟩:=by decide +kernel
def pK (_:W.Frag) (ad:Ads):Sp:=fun vs H Q E=>∃ (z:Str) (n:Nat),vs=[.str z,.int n]∧n < z.length∧z.length≤100000 ∧
 (∀ k,dl (z.cps.toList.drop n)=some k→Q (.int (n+k:Nat)) H)∧(dl (z.cps.toList.drop n)=none→∀ H',Same H H'→E (.ref ad.BadText) none H')
theorem A5 (z:Str) (n:Nat):vm z ⟨#[34]⟩ ((n:Int)+1)=match (z.cps.toList.drop (n+1)).findIdx? (· == 34) with | some i=>((n+1+i:Nat):Int) | none=>-1:=by
 unfold vm;have e:PySem.fromIndex z.length ((n:Int)+1)=n+1:=by
  unfold PySem.fromIndex;rw [if_neg (by lia)];lia
 rw [e,PySem.StrLaws.occ_one]
 cases (z.cps.toList.drop (n+1)).findIdx? (· == 34) <;> rfl
theorem pL (T:Tx K mg ad) {f:Addr} {fd:FuncData} (F:Gn K mg "word_end" ie ["text","at"] f fd):FnOk P w K mg base (CXE P w) 2 f fd ["text","at"] (pK K ad):=by
 obtain ⟨_,_,Jy⟩:=T.run_end;have JP:=qZ (P:=P) (w:=w) (base:=base) T Jy;obtain ⟨t_QUOTE,c_QUOTE⟩:=T.QUOTE;obtain ⟨t_LETTERS,c_LETTERS⟩:=T.LETTERS;obtain ⟨t_MINUS,c_MINUS⟩:=T.MINUS;obtain ⟨t_FIGURES,c_FIGURES⟩:=T.FIGURES;refine F.F.okW jT (fun vs H Q E h=>?_) (fun cdv A outer s H vs Q E hr h=>?_)
 ·obtain ⟨z,n,rfl,_⟩:=h
  rfl
 obtain ⟨z,n,rfl,hn,hz,q1,q2⟩:=h;refine ⟨_,(@pss_cons _ _ _ _ _ (@ps_if _ _ _ _ _ _ _ _ (pt_cmpR op_eq (@pe_ix _ _ _ _ _ _ _ ix_str (pv 0) (pv 1) (fun _ _=>rfl)) (bv rfl c_QUOTE) (nomark _)) (@pss_cons _ _ _ _ _ (@ps_set _ _ 2 _ _ _ _ jT.nd rfl (Or.inl rfl) (pe_bm PySem.F.plainAttrs_str PySem.F.slot_str_find PySem.F.type_str_find vn (pv 0) (@pa2 _ _ _ _ _ (bv rfl c_QUOTE) (@pe_op _ _ _ _ _ _ _ _ aS (pv 1) pe_int) (by rfl) (by rfl))) (by rfl) (.inl rfl)) (@pss_cons _ _ _ _ _ (@ps_if _ _ _ _ _ _ _ _ (pt_cmpR fz (pv 2) pe_int (nomark _)) (@pss_one _ _ _ (ps_raiseW rfl rfl rfl rfl T.x_BadText rfl (@pa1 _ _ _ pe_str (by rfl)))) pss_nil) (@pss_one _ _ _ (@ps_ret _ _ _ _ (@pe_op _ _ _ _ _ _ _ _ aS (pv 2) pe_int))))) pss_nil) (@pss_cons _ _ _ _ _ (@ps_if _ _ _ _ _ _ _ _ (pt_cmpR op_in_str (@pe_ix _ _ _ _ _ _ _ ix_str (pv 0) (pv 1) (fun _ _=>rfl)) (bv rfl c_LETTERS) rfl) (@pss_one _ _ _ (@ps_ret _ _ _ _ (pcl Jy JP (hr.mono (by lia)) rfl (@pa3 _ _ _ _ _ _ _ (pv 0) (pv 1) (bv rfl c_LETTERS) (by rfl) (by rfl) (by rfl))))) pss_nil) (@pss_cons _ _ _ _ _ (@ps_if _ _ _ _ _ _ _ _ (PW.pt (@io _ _ _ _ _ _ _ (pt_cmpR op_eq (@pe_ix _ _ _ _ _ _ _ ix_str (pv 0) (pv 1) (fun _ _=>rfl)) (bv rfl c_MINUS) (nomark _)) (@i9 _ _ _ _ (pt_cmpR op_in_str (@pe_ix _ _ _ _ _ _ _ ix_str (pv 0) (pv 1) (fun _ _=>rfl)) (bv rfl c_FIGURES) rfl)))) (@pss_one _ _ _ (@ps_ret _ _ _ _ (pcl Jy JP (hr.mono (by lia)) rfl (@pa3 _ _ _ _ _ _ _ (pv 0) (@pe_op _ _ _ _ _ _ _ _ aS (pv 1) pe_int) (bv rfl c_FIGURES) (by rfl) (by rfl) (by rfl))))) pss_nil) (@pss_one _ _ _ (@ps_ret _ _ _ _ (@pe_op _ _ _ _ _ _ _ _ aS (pv 1) pe_int)))))),?_⟩;obtain ⟨ch,hch⟩:∃ ch,z.cps.toList[n]?=some ch:=⟨_,aAv (by rw [ak];exact hn)⟩;have hd:z.cps.toList.drop n=ch :: z.cps.toList.drop (n+1):=by
  obtain ⟨h1,h2⟩:=aAk.mp hch;rw [aA6 h1,h2]
 rw [hd] at q1 q2;simp only [dl] at q1 q2;refine ⟨_,rfl,_,rfl,z,_,ch,rfl,rfl,bX hz,pF hch,?_⟩;refine ⟨rfl,_,rfl,?_⟩;rw [vC,iG];refine be (fun c=>?_) (fun c=>?_)
 ·have c':=of_decide_eq_true c;rw [if_pos c'] at q1 q2;refine ⟨_,rfl,rfl,_,rfl,_,_,rfl,rfl,_,_,_,rfl,rfl,?_⟩;rw [A5]
  cases hf:(z.cps.toList.drop (n+1)).findIdx? (· == 34) with
  | none =>
   rw [hf] at q2;dsimp only;refine ⟨_,rfl,_,_,rfl,rfl,_,rfl,be (fun _=>?_) (fun c=>absurd (show decide ((-1:Int) < 0)=true by decide) c)⟩;exact ⟨sz1,q2 rfl H (Same.refl H)⟩
  | some i =>
   rw [hf] at q1;dsimp only;refine ⟨_,rfl,_,_,rfl,rfl,_,rfl,be (fun c=>absurd (of_decide_eq_true c) (Int.not_lt.mpr (Int.natCast_nonneg _))) (fun _=>?_)⟩;refine ⟨_,rfl,_,_,rfl,rfl,?_⟩;have:=q1 (i+2) rfl;rw [show ((n+1+i:Nat):Int)+1=((n+(i+2):Nat):Int) by lia];exact this
 have c':¬ ch=34:=fun h=>c (decide_eq_true h);rw [if_neg c'] at q1 q2;refine ⟨_,rfl,_,rfl,z,_,ch,rfl,rfl,bX hz,pF hch,_,_,rfl,rfl,_,rfl,?_⟩;rw [PySem.StrLaws.found_one];refine be (fun c=>?_) (fun c=>?_)
 ·have c2:aM letS ch=true:=c;rw [if_pos c2] at q1;have:=q1 _ rfl;rw [← hd] at this;exact ⟨_,rfl,_,rfl,z,letS,n,rfl,by lia,hz,this⟩
 have c2:¬ aM letS ch=true:=c;rw [if_neg c2] at q1 q2;refine ⟨_,rfl,_,rfl,z,_,ch,rfl,rfl,bX hz,pF hch,rfl,_,rfl,?_⟩;rw [vD,iG];have run:(ch=45∨aM figS ch=true)→Q (.int (n+(1+bZ figS (z.cps.toList.drop (n+1))):Nat)) H:=fun h=>by
  rw [if_pos h] at q1;exact q1 _ rfl
 have call:∀ {Q':Prop},((Q (.int (n+1+bZ figS (z.cps.toList.drop (n+1)):Nat)) H)→Q')→(ch=45∨aM figS ch=true)→Q':=fun f h=>f (by
  rw [show n+1+bZ figS (z.cps.toList.drop (n+1))=n+(1+bZ figS (z.cps.toList.drop (n+1))) by lia];exact run h)
 refine be (fun c3=>?_) (fun c3=>?_)
 ·refine dY ⟨_,rfl,_,rfl,_,_,rfl,rfl,z,figS,n+1,(by rw [aBU];rfl),by lia,hz,call id (.inl (of_decide_eq_true c3))⟩
 ·refine ⟨_,rfl,_,rfl,z,_,ch,rfl,rfl,bX hz,pF hch,_,_,rfl,rfl,_,rfl,?_⟩;rw [PySem.StrLaws.found_one];refine be (fun c4=>?_) (fun c4=>?_)
  ·exact ⟨_,rfl,_,rfl,_,_,rfl,rfl,z,figS,n+1,(by rw [aBU];rfl),by lia,hz,call id (.inr c4)⟩
  ·rw [if_neg (fun h=>h.elim (fun h=>c3 (decide_eq_true h)) (fun h=>c4 h))] at q1;refine ⟨_,rfl,_,_,rfl,rfl,?_⟩;exact q1 1 rfl
abbrev figs:Str:= "0123456789"
def inF (c:Nat):Bool:=!(Builtin.Str.occurrences figs ⟨#[c]⟩ 0 figs.length 1).isEmpty
def fU (c:Nat):Bool:=decide (48≤c∧c≤57)
theorem su (c:Nat):inF c=fU c:=by
 unfold inF fU;rw [PySem.StrLaws.found_one,show figs.cps.toList=[48,49,50,51,52,53,54,55,56,57] by decide +kernel,decide_eq_decide];refine ⟨fun h=>?_,fun h=>?_⟩
 ·revert c
  decide
 ·obtain ⟨k,rfl⟩:=Nat.exists_eq_add_of_le h.1;have h2:k < 10:=by lia
  clear h
  revert k
  decide
def aQ (cs:List Nat):List Nat:=if cs.head?=some 45 then cs.drop 1 else cs
def dH (cs:List Nat):Option Int :=
 if aQ cs=[] then none else if (aQ cs).all fU=false then none
 else if (aQ cs).head?=some 48∧cs≠[48] then none
 else some (if cs.head?=some 45 then -(NumText.digitsVal (aQ cs):Int) else (NumText.digitsVal (aQ cs):Int))
def HI:Option Int→V
 | none=>.non
 | some i=>.int i
def aH (m:Int):Str:=Str.ofString (toString m)
def nN (_:W.Frag) (_:Ads):Sp:=fun vs H Q _=>∃ z:Str,vs=[.str z]∧z.length≤100∧∀ H',Same H H'→Q (HI (dH z.cps.toList)) H'
theorem q8 {n:Nat} (h:n≤1000):n≤sizeLine:=aBa (av h)
theorem vE:("-" : Str)=⟨#[45]⟩:=by decide +kernel
theorem mO:("0" : Str)=⟨#[48]⟩:=by decide +kernel
theorem A6:("" : Str)=⟨#[]⟩:=by decide +kernel
theorem vF (z:Str):decide (V.str z=V.str "")=decide (z.cps.toList=[]):=by
 rw [A6,decide_eq_decide];exact ⟨fun h=>by injection h with h;rw [h],fun h=>congrArg V.str (cf h)⟩
theorem mP (z:Str):decide (V.str z=V.str "0")=decide (z.cps.toList=[48]):=by
 rw [mO,decide_eq_decide];exact ⟨fun h=>by injection h with h;rw [h],fun h=>congrArg V.str (cf h)⟩
theorem nO (z:Str):Txt.startswith z "-" = decide (z.cps.toList.head?=some 45):=by rw [vE];exact kJ z 45
theorem gP (z:Str):Txt.startswith z "0" = decide (z.cps.toList.head?=some 48):=by rw [mO];exact kJ z 48
theorem vG {z:Str} {c:Nat} (h:z.cps.toList.head?=some c):1≤z.length:=by
 rw [← ak]
 cases e:z.cps.toList with
 | nil=>rw [e] at h;cases h
 | cons a l=>simp
theorem tY {z:Str} (h:z.cps.toList.head?=some 45):(Txt.slice z (some 1) none).cps.toList=aQ z.cps.toList:=by
 rw [qP (vG h)];unfold aQ;rw [if_pos h]
theorem pM (cs:List Nat):cs.all inF=cs.all fU:=by rw [show inF=fU from funext su]
theorem sv (cs:List Nat):(aQ cs).length≤cs.length:=by
 unfold aQ
 split
 ·rw [aAI];lia
 ·exact aAp _
theorem tZ {cs:List Nat} (h:cs.all fU=true):NumText.AllDigits cs:=fun c hc=>of_decide_eq_true (aAO.mp h c hc)
theorem pN {z:Str} (hz:z.length≤100) (h1:aQ z.cps.toList≠[]) (h2:(aQ z.cps.toList).all fU=true) (h3:¬ ((aQ z.cps.toList).head?=some 48∧z.cps.toList≠[48])):∃ n,PySem.intText? z=some n∧dH z.cps.toList=some n:=by
 unfold dH;rw [if_neg h1,if_neg (by rw [h2];exact Bool.noConfusion),if_neg h3];have hd:=tZ h2
 by_cases hm:z.cps.toList.head?=some 45
 ·rw [if_pos hm];have ef:aQ z.cps.toList=z.cps.toList.drop 1:=by unfold aQ;rw [if_pos hm]
  have e:z.cps.toList=45 :: aQ z.cps.toList:=by
   rw [ef]
   cases e:z.cps.toList with
   | nil=>rw [e] at hm;cases hm
   | cons a l=>rw [e] at hm;injection hm with hm;subst hm;rfl
  exact ⟨_,PySem.intText_neg e hd h1 (by lia),rfl⟩
 ·rw [if_neg hm];have ef:aQ z.cps.toList=z.cps.toList:=by unfold aQ;rw [if_neg hm]
  rw [ef] at hd h1 ⊢;exact ⟨_,PySem.intText_digits hd h1 (by lia),rfl⟩
theorem fV (m:Int):(aH m).cps.toList=eK m:=str_int m
theorem xp (m:Int):dH (eK m)=some m:=by
 have hd:(dg m.natAbs).all fU=true:=aAO.mpr fun c hc=>decide_eq_true (eJ _ c hc)
 by_cases h:m < 0
 ·have e:eK m=45 :: dg m.natAbs:=by unfold eK;rw [if_pos h]
  have ef:aQ (eK m)=dg m.natAbs:=by rw [e];rfl
  obtain ⟨c,r,eh,hc⟩:=rX m.natAbs (by lia);unfold dH;rw [ef,if_neg (va _),if_neg (by rw [hd];exact Bool.noConfusion),if_neg (by
   rintro ⟨a,_⟩;rw [eh] at a;injection a with a
   lia),vc,e]
  show some (if (45 :: dg m.natAbs).head?=some 45 then -(m.natAbs:Int) else (m.natAbs:Int))=some m;rw [if_pos (show (45 :: dg m.natAbs).head?=some 45 from rfl)]
  congr 1
  lia
 ·have e:eK m=dg m.natAbs:=by unfold eK;rw [if_neg h]
  have hh:(dg m.natAbs).head?≠some 45:=by
   intro z;have:45∈dg m.natAbs:=List.mem_of_head? z;have:=eJ _ _ this;lia
  have ef:aQ (eK m)=dg m.natAbs:=by rw [e];unfold aQ;rw [if_neg hh]
  unfold dH;rw [ef,if_neg (va _),if_neg (by rw [hd];exact Bool.noConfusion),if_neg (by
   rintro ⟨a,b⟩
   by_cases h0:m.natAbs=0
   ·rw [e,h0] at b;exact b (fM (by decide))
   ·obtain ⟨c,r,eh,hc⟩:=rX m.natAbs (by lia);rw [eh] at a;injection a with a
    lia),vc,e,if_neg hh]
  congr 1
  lia
theorem sx {K:W.Frag} {H:Hp} {l:Addr} {z:Str} {R:Hp→Prop} {nm:L2.St} (hl:H l=none) (hz:z.length≤sizeLine) (q:∀ H',Same H H'→SqL K H' l (bls (z.cps.toList.map inF))→R H')
  (hn:nm=[none]):∃ W:Nat→Nat→List V→L2.St→Hp→Prop,(∃ m,W 0 m [] nm (upd H l (.lst [])))∧∀ i m ys σ' H',W i m ys σ' H'→((Its z).stop i H'∧R H') ∨
   ((Its z).go i H'∧∀ x H'',(Its z).yld i H' x H''→dC 0 x σ' H'' fun σ2 H2=>cEl (tOp (fun x y H Q=>∃ i j,x=.str i∧y=.str j∧Q (.bl (!(Builtin.Str.occurrences j i 0 j.length 1).isEmpty)) H) (ik 0) (tC (.str figs))) ys l σ2 H2 fun ys' σ3 H3=>∃ m',m' < m∧W (i+1) m' ys' σ3 H3):=by
 subst hn;refine pe (Q:=fun _ H'=>R H') (fun i ys σ H'=>ys=bls ((z.cps.toList.take i).map inF)∧H'=upd H l (.lst ys)∧σ.length=1) ⟨rfl,rfl,rfl⟩ ?_ ?_
 ·rintro i c ys σ H1 N hc ⟨rfl,rfl,hσ⟩ next;have hc':z.cps.toList[i]?=some c:=by rw [aB0];exact hc
  have hi:i < z.cps.toList.length:=(aAk.mp hc').1;have hlen:(bls ((z.cps.toList.take i).map inF)).length < sizeLine:=by
   have:z.length=z.cps.toList.length:=by simp [Str.length]
   simp only [bls,aAa,aAE];lia
  match σ,hσ with
  | [_],_ =>
   refine ⟨.str ⟨#[c]⟩,rfl,_,_,rfl,rfl,aa,hlen,next _ _ _ ⟨?_,wA,rfl⟩⟩;show bls ((z.cps.toList.take i).map inF)++[V.bl (inF c)]=bls ((z.cps.toList.take (i+1)).map inF);unfold bls;rw [aAP,aAP];exact mK (V.bl ∘ inF) hc'
 ·rintro ys σ H1 ⟨rfl,rfl,hσ⟩;refine q _ (ag hl _) (SqL.of ?_);rw [aa];have:z.cps.toList.take z.cps.size=z.cps.toList:=aAy (by simp);rw [this]
theorem k6 {c:Prop} [Decidable c] (h:(!decide c)=true):¬ c:=by simpa using h
theorem k7 {c:Prop} [Decidable c] (h:¬ (!decide c)=true):c:=by simpa using h
theorem nP (T:Tx K mg ad) {f:Addr} {fd:FuncData} (F:Gn K mg "number_of" gi ["text"] f fd):FnOk P w K mg base CX0 1 f fd ["text"] (nN K ad):=by
 obtain ⟨t_FIGURES,c_FIGURES⟩:=T.FIGURES;refine F.F.ok iU (fun vs H Q E h=>?_) (fun cdv A outer s H vs Q E hr h=>?_)
 ·obtain ⟨z,rfl,_⟩:=h
  rfl
 obtain ⟨z,rfl,hz,q⟩:=h;refine ⟨_,(@pss_cons _ _ _ _ _ (@ps_set _ _ 1 _ _ _ _ iU.nd rfl (Or.inl rfl) (ko (@pt_val _ _ _ (pe_bm PySem.F.plainAttrs_str PySem.F.slot_str_startswith PySem.F.type_str_startswith mt_starts (pv 0) (@pa1 _ _ _ pe_str (by rfl))) (by intro _;rfl)) (pe_slice sl_str (pv 0) (po_some pe_int) ce) (pv 0)) (by rfl) (.inl rfl)) (@pss_cons _ _ _ _ _ (@ps_if _ _ _ _ _ _ _ _ (PW.pt (@io _ _ _ _ _ _ _ (pt_cmpR op_eq (pv 1) pe_str (nomark _)) (@i9 _ _ _ _ (@qp _ _ _ _ (@pt_val _ _ _ (pe_callB (mH (K:=K) rfl rfl) rfl T.z_all boot_all (@pa1 _ _ _ (pe_comp rfl (cs0 (NL:=["figure"]) rfl (by decide +kernel) (by decide +kernel)) (uW (pv 1)) (fun _ _ _ _=>(ai (i:=0) (show List.Nodup (α:=Str) ["figure"] by decide +kernel) rfl (Or.inl rfl))) (fun _ _ _ _=>(gC op_in_str (pv 0) (bv rfl c_FIGURES) rfl))) (by rfl))) (by intro _;rfl)))))) (@pss_one _ _ _ (@ps_ret _ _ _ _ pe_non)) pss_nil) (@pss_cons _ _ _ _ _ (@ps_if _ _ _ _ _ _ _ _ (PW.pt (@pw_and _ _ _ _ _ _ _ (@pt_val _ _ _ (pe_bm PySem.F.plainAttrs_str PySem.F.slot_str_startswith PySem.F.type_str_startswith mt_starts (pv 1) (@pa1 _ _ _ pe_str (by rfl))) (by intro _;rfl)) (@pw_and1 _ _ _ _ (pt_cmpR op_ne (pv 0) pe_str (nomark _))))) (@pss_one _ _ _ (@ps_ret _ _ _ _ pe_non)) pss_nil) (@pss_one _ _ _ (@ps_ret _ _ _ _ (pe_callTy call_int_text rfl T.z_int boot_int (@pa1 _ _ _ (pv 0) (by rfl)))))))),?_⟩;refine ⟨_,rfl,rfl,_,_,rfl,rfl,_,rfl,?_⟩;rw [nO];refine be (fun c1=>?_) (fun c1=>?_)
 ·have eF:=tY (of_decide_eq_true c1);refine ⟨_,rfl,_,rfl,z,rfl,q8 (by lia),?_⟩;have lF:=ak (Txt.slice z (some 1) none);rw [eF] at lF;refine ⟨_,rfl,rfl,_,rfl,?_⟩;rw [vF];have fl:=sv z.cps.toList;rw [ak] at fl;refine be (fun c2=>?_) (fun c2=>?_)
  ·have e:dH z.cps.toList=none:=by unfold dH;rw [if_pos (eF.symm.trans (of_decide_eq_true c2))]
   refine dY ?_;rw [e] at q;exact q H (Same.refl H)
  have n2:aQ z.cps.toList≠[]:=fun y=>c2 (decide_eq_true (eF.trans y));refine ⟨_,rfl,_,rfl,fun l hl=>sx (K:=K) hl (q8 (by lia)) (fun H1 g1 s1=>⟨l,_,rfl,rfl,s1,_,rfl,?_⟩) rfl⟩;rw [aBM,show (id ∘ inF)=inF from rfl,eF,pM]
  cases hall:(aQ z.cps.toList).all fU with
  | false =>
   have e:dH z.cps.toList=none:=by unfold dH;rw [if_neg n2,if_pos hall]
   refine dY ?_;rw [e] at q;exact q H1 g1
  | true =>
  refine cg ?_;refine ⟨_,rfl,rfl,_,_,rfl,rfl,_,rfl,?_⟩;rw [gP];have due:¬ ((aQ z.cps.toList).head?=some 48∧z.cps.toList≠[48])→∃ n,PySem.intText? z=some n∧dH z.cps.toList=some n:=pN hz n2 hall;refine be (fun c3=>?_) (fun c3=>?_)
  ·have c3':=(congrArg List.head? eF).symm.trans (of_decide_eq_true c3);refine ⟨_,rfl,rfl,_,rfl,?_⟩;rw [mP];refine be (fun c4=>?_) (fun c4=>?_)
   ·have e:dH z.cps.toList=none:=by unfold dH;rw [if_neg n2,if_neg (by rw [hall];exact Bool.noConfusion),if_pos ⟨c3',k6 c4⟩]
    rw [e] at q;exact q H1 g1
   ·obtain ⟨n,e1,e2⟩:=due (fun y=>y.2 (k7 c4));rw [e2] at q;exact ⟨_,rfl,z,n,rfl,e1,by lia,q H1 g1⟩
  ·obtain ⟨n,e1,e2⟩:=due (fun y=>c3 (decide_eq_true ((congrArg List.head? eF).trans y.1)));rw [e2] at q;exact ⟨_,rfl,z,n,rfl,e1,by lia,q H1 g1⟩
 ·have eF:z.cps.toList=aQ z.cps.toList:=by
   unfold aQ;rw [if_neg (fun y=>c1 (decide_eq_true y))]
  have lF:=ak z;have lF:(aQ z.cps.toList).length=z.length:=eF ▸ lF;refine ⟨_,rfl,?_⟩;refine ⟨_,rfl,rfl,_,rfl,?_⟩;rw [vF];have fl:=sv z.cps.toList;rw [ak] at fl;refine be (fun c2=>?_) (fun c2=>?_)
  ·have e:dH z.cps.toList=none:=by unfold dH;rw [if_pos (eF.symm.trans (of_decide_eq_true c2))]
   refine dY ?_;rw [e] at q;exact q H (Same.refl H)
  have n2:aQ z.cps.toList≠[]:=fun y=>c2 (decide_eq_true (eF.trans y));refine ⟨_,rfl,_,rfl,fun l hl=>sx (K:=K) hl (q8 (by lia)) (fun H1 g1 s1=>⟨l,_,rfl,rfl,s1,_,rfl,?_⟩) rfl⟩;rw [aBM,show (id ∘ inF)=inF from rfl,eF,pM]
  cases hall:(aQ z.cps.toList).all fU with
  | false =>
   have e:dH z.cps.toList=none:=by unfold dH;rw [if_neg n2,if_pos hall]
   refine dY ?_;rw [e] at q;exact q H1 g1
  | true =>
  refine cg ?_;refine ⟨_,rfl,rfl,_,_,rfl,rfl,_,rfl,?_⟩;rw [gP];have due:¬ ((aQ z.cps.toList).head?=some 48∧z.cps.toList≠[48])→∃ n,PySem.intText? z=some n∧dH z.cps.toList=some n:=pN hz n2 hall;refine be (fun c3=>?_) (fun c3=>?_)
  ·have c3':=(congrArg List.head? eF).symm.trans (of_decide_eq_true c3);refine ⟨_,rfl,rfl,_,rfl,?_⟩;rw [mP];refine be (fun c4=>?_) (fun c4=>?_)
   ·have e:dH z.cps.toList=none:=by unfold dH;rw [if_neg n2,if_neg (by rw [hall];exact Bool.noConfusion),if_pos ⟨c3',k6 c4⟩]
    rw [e] at q;exact q H1 g1
   ·obtain ⟨n,e1,e2⟩:=due (fun y=>y.2 (k7 c4));rw [e2] at q;exact ⟨_,rfl,z,n,rfl,e1,by lia,q H1 g1⟩
  ·obtain ⟨n,e1,e2⟩:=due (fun y=>c3 (decide_eq_true ((congrArg List.head? eF).trans y.1)));rw [e2] at q;exact ⟨_,rfl,z,n,rfl,e1,by lia,q H1 g1⟩
def okC (c:Nat):Bool:=decide (32≤c) && decide (c≤126) && !decide (c=34) && !decide (c=37)
def q9 (_:W.Frag) (_:Ads):Sp:=fun vs H Q _=>∃ c:Nat,vs=[.str ⟨#[c]⟩]∧Q (.bl (okC c)) H
theorem vH (a b:Nat):decide (([a]:List Nat) < [b])=decide (a < b):=by
 rw [decide_eq_decide,List.cons_lt_cons_iff];exact ⟨fun h=>h.elim id (fun h=>absurd h.2 (List.lt_irrefl _)),.inl⟩
theorem G6:(Str.ofString "~")=⟨#[126]⟩:=by decide +kernel
theorem re (T:Tx K mg ad) {f:Addr} {fd:FuncData} (F:Gn K mg "is_sign" jD ["letter"] f fd):FnOk P w K mg base CX0 1 f fd ["letter"] (q9 K ad):=by
 obtain ⟨t_PERCENT,c_PERCENT⟩:=T.PERCENT;refine F.F.ok rD (fun vs H Q E h=>?_) (fun cdv A outer s H vs Q E hr h=>?_)
 ·obtain ⟨c,rfl,_⟩:=h
  rfl
 obtain ⟨c,rfl,q⟩:=h;refine ⟨_,(@pss_one _ _ _ (@ps_ret _ _ _ _ (uC (uF mG mG pe_str (pv 0) pe_str) (uC (gC op_ne (pv 0) pe_str (nomark _)) (Ay (gC op_ne (pe_callB uG rfl T.z_ord boot_ord (@pa1 _ _ _ (pv 0) (by rfl))) (ke rfl c_PERCENT) (nomark _))))))),?_⟩;refine ⟨_,rfl,_,_,rfl,rfl,_,rfl,?_⟩;rw [xZ,show (!decide ((⟨#[c]⟩:Str).cps.toList < (⟨#[32]⟩:Str).cps.toList))=decide (32≤c) from by
  rw [show decide ((⟨#[c]⟩:Str).cps.toList < (⟨#[32]⟩:Str).cps.toList)=decide (c < 32) from vH c 32]
  by_cases h:c < 32 <;> simp [h] <;> lia]
 unfold okC at q;refine be (fun c1=>?_) (fun c1=>?_)
 ·rw [c1] at q;refine ⟨_,_,rfl,rfl,?_⟩;rw [G6,show (!decide ((⟨#[126]⟩:Str).cps.toList < (⟨#[c]⟩:Str).cps.toList))=decide (c≤126) from by
   rw [show decide ((⟨#[126]⟩:Str).cps.toList < (⟨#[c]⟩:Str).cps.toList)=decide (126 < c) from vH 126 c]
   by_cases h:c≤126 <;> simp [h] <;> lia]
  refine ⟨_,rfl,be (fun c2=>?_) (fun c2=>?_)⟩
  ·rw [c2] at q;refine ⟨_,rfl,rfl,_,rfl,?_⟩;rw [vC,iG];refine be (fun c3=>?_) (fun c3=>?_)
   ·rw [c3] at q;refine ⟨_,rfl,_,rfl,rfl,rfl,?_⟩;rw [show decide (V.int ((⟨#[c]⟩:Str).cps.getD 0 0:Nat)=V.int 37)=decide (c=37) from by
     rw [decide_eq_decide];exact ⟨fun h=>by injection h with h;exact Int.ofNat.inj h,fun h=>by rw [h];rfl⟩]
    exact q
   ·rw [show (!decide (c=34))=false from by simpa using c3] at q;exact q
  ·rw [show decide (c≤126)=false from by simpa using c2] at q;exact q
 ·rw [show decide (32≤c)=false from by simpa using c1] at q;exact ⟨_,rfl,cg q⟩
abbrev marksS:Str:= "()[]{},:;/"
def mk2 (w:Str) (d:Dt):Dt:=.tup [.str w,d]
def cC (cs:List Nat):Str:=⟨cs.toArray⟩
theorem gG (z:Str):cC z.cps.toList=z:=by
 unfold cC;rw [Array.toArray_toList]
def mkW (cs:List Nat):Option Dt :=
 if (!(Builtin.Str.occurrences marksS (cC cs) 0 marksS.length 1).isEmpty)=true then some (mk2 "mark" (.str (cC cs)))
 else if cs.head?=some 34∧((cs.drop 1).dropLast).all okC=true then some (mk2 "text" (.str (cC ((cs.drop 1).dropLast))))
 else if (∃ c,cs.head?=some c∧aM letS c=true)∧cs.length≤8 then some (mk2 "word" (.str (cC cs)))
 else if (cs.dropWhile (· == 45)).length≤60 then (dH cs).map fun n=>mk2 "number" (.int n) else none
open PySem.Builtin.Str in
theorem pO (z:Str) (h:1≤z.length):(Txt.slice z (some 1) (some (-1))).cps.toList=(z.cps.toList.drop 1).dropLast:=by
 have hl:=ak z
 by_cases h2:z.length=1
 ·obtain ⟨⟨l⟩⟩:=z
  match l,hl,h2 with
  | [c],_,_=>rfl
  | [],a,b=>cases b
  | c :: d :: l,a,b=>simp [Str.length] at b
 ·have e:Txt.slice z (some 1) (some (-1))=Txt.slice z (some 1) (some ((z.length:Int) - 1)):=by
   have e0:strSliceIndices (some 1) (some (-1)) 1 z.length=strSliceIndices (some 1) (some ((z.length:Int) - 1)) 1 z.length:=by
    simp only [strSliceIndices];rw [if_neg (show ¬ ((z.length:Int) - 1 < 0) by lia),if_pos (show (-1:Int) < 0 by decide),show (-1:Int)+(z.length:Int)=(z.length:Int) - 1 by lia]
   unfold Txt.slice;rw [e0]
  rw [e,eq_of_beq (slice_closesL (x:=z) (i:=1) (j:=(z.length:Int) - 1) (by decide) (by lia) (by lia))];show List.take _ _=_;rw [List.dropLast_eq_take,aAI,hl]
  congr 1
  lia
theorem k8 (z:Str):(Txt.lstripChars z ⟨#[45]⟩).length=(z.cps.toList.dropWhile (· == 45)).length:=by
 unfold Txt.lstripChars;rw [PyProof.Rows.stripBy_eq];have e:(#[45]:Array Nat).contains=(fun c:Nat=>c == 45):=by
  funext c
  rw [aAY];simp
 have h:=congrArg List.length (List.takeWhile_append_dropWhile (p:=fun c:Nat=>c == 45) (l:=z.cps.toList));rw [aAc,ak] at h;show (z.cps.extract _ _).size=_;rw [Array.size_extract];unfold PySem.stripHi PySem.stripLo;simp only [if_true,aAF,if_false];have hs:z.cps.size=z.length:=rfl;show min (z.length) z.cps.size - (List.takeWhile (#[45]:Array Nat).contains z.cps.toList).length=_;rw [e,hs,aBP];lia
def nQ (K:W.Frag) (ad:Ads):Sp:=fun vs H Q E=>∃ z:Str,vs=[.str z]∧1≤z.length∧z.length≤100000∧z.length≤(z.cps.toList.dropWhile (· == 45)).length+1 ∧
 (∀ d,mkW z.cps.toList=some d→∀ v H',Same H H'→IsP K H' d v→Q v H')∧(mkW z.cps.toList=none→∀ H',Same H H'→E (.ref ad.BadText) none H')
theorem nR (z:Str) (h:1≤z.length):(Txt.slice z (some 1) (some (-1))).length≤z.length:=by
 rw [← ak,pO z h,List.length_dropLast,aAI,ak];lia
theorem nS (T:Tx K mg ad) {f:Addr} {fd:FuncData} (F:Gn K mg "made_word" gk ["text"] f fd):FnOk P w K mg base (CXE P w) 2 f fd ["text"] (nQ K ad):=by
 obtain ⟨_,_,JO⟩:=T.is_sign;have J8:=re (P:=P) (w:=w) (base:=base) T JO;obtain ⟨_,_,JF⟩:=T.number_of;have JW:=nP (P:=P) (w:=w) (base:=base) T JF;obtain ⟨t_MARKS,c_MARKS⟩:=T.MARKS;obtain ⟨t_QUOTE,c_QUOTE⟩:=T.QUOTE;obtain ⟨t_LETTERS,c_LETTERS⟩:=T.LETTERS;obtain ⟨t_LONGEST_NAME,c_LONGEST_NAME⟩:=T.LONGEST_NAME;obtain ⟨t_MOST_FIGURES,c_MOST_FIGURES⟩:=T.MOST_FIGURES;obtain ⟨t_MINUS,c_MINUS⟩:=T.MINUS;refine F.F.okW iY (fun vs H Q E h=>?_) (fun cdv A outer s H vs Q E hr h=>?_)
 ·obtain ⟨z,rfl,_⟩:=h
  rfl
 obtain ⟨z,rfl,h1,hz,hs,q1,q2⟩:=h;refine ⟨_,(@pss_cons _ _ _ _ _ (@ps_if _ _ _ _ _ _ _ _ (pt_cmpR op_in_str (pv 0) (bv rfl c_MARKS) rfl) (@pss_one _ _ _ (@ps_ret _ _ _ _ (@pe_tupPK _ K _ _ _ _ rfl (@pa2 _ _ _ _ _ pe_str (pv 0) (by rfl) (by rfl))))) pss_nil) (@pss_cons _ _ _ _ _ (@ps_if _ _ _ _ _ _ _ _ (PW.pt (@pw_and _ _ _ _ _ _ _ (pt_cmpR op_eq (@pe_ix _ _ _ _ _ _ _ ix_str (pv 0) pe_int (fun _ _=>rfl)) (bv rfl c_QUOTE) (nomark _)) (@pw_and1 _ _ _ _ (@pt_val _ _ _ (pe_callB (mH (K:=K) rfl rfl) rfl T.z_all boot_all (@pa1 _ _ _ (pe_comp rfl (cs0 (NL:=["letter"]) rfl (by decide +kernel) (by decide +kernel)) (uW (pe_slice sl_str (pv 0) (po_some pe_int) (po_some (@pe_un _ _ _ _ _ _ un_neg pe_int)))) (fun _ _ _ _=>(ai (i:=0) (show List.Nodup (α:=Str) ["letter"] by decide +kernel) rfl (Or.inl rfl))) (fun _ _ _ _=>(pcl JO J8 (hr.mono (by lia)) rfl (@pa1 _ _ _ (pv 0) (by rfl))))) (by rfl))) (by intro _;rfl))))) (@pss_one _ _ _ (@ps_ret _ _ _ _ (@pe_tupPK _ K _ _ _ _ rfl (@pa2 _ _ _ _ _ pe_str (pe_slice sl_str (pv 0) (po_some pe_int) (po_some (@pe_un _ _ _ _ _ _ un_neg pe_int))) (by rfl) (by rfl))))) pss_nil) (@pss_cons _ _ _ _ _ (@ps_if _ _ _ _ _ _ _ _ (PW.pt (@pw_and _ _ _ _ _ _ _ (pt_cmpR op_in_str (@pe_ix _ _ _ _ _ _ _ ix_str (pv 0) pe_int (fun _ _=>rfl)) (bv rfl c_LETTERS) rfl) (@pw_and1 _ _ _ _ (pt_cmpR xN (pe_callB cu rfl T.z_len PySem.boot_len (@pa1 _ _ _ (pv 0) (by rfl))) (ke rfl c_LONGEST_NAME) (nomark _))))) (@pss_one _ _ _ (@ps_ret _ _ _ _ (@pe_tupPK _ K _ _ _ _ rfl (@pa2 _ _ _ _ _ pe_str (pv 0) (by rfl) (by rfl))))) pss_nil) (@pss_cons _ _ _ _ _ (@ps_set _ _ 1 _ _ _ _ iY.nd rfl (Or.inl rfl) (ko (pt_cmpR xN (pe_callB cu rfl T.z_len PySem.boot_len (@pa1 _ _ _ (pe_bm PySem.F.plainAttrs_str PySem.F.slot_str_lstrip PySem.F.type_str_lstrip qT (pv 0) (@pa1 _ _ _ (bv rfl c_MINUS) (by rfl))) (by rfl))) (ke rfl c_MOST_FIGURES) (nomark _)) (pcl JF JW (hr.mono (by lia)) rfl (@pa1 _ _ _ (pv 0) (by rfl))) pe_non) (by rfl) (.inl rfl)) (@pss_cons _ _ _ _ _ (@ps_if _ _ _ _ _ _ _ _ (pt_cmpR uE (pv 1) pe_non (nomark _)) (@pss_one _ _ _ (ps_raiseW rfl rfl rfl rfl T.x_BadText rfl (@pa1 _ _ _ pe_str (by rfl)))) pss_nil) (@pss_one _ _ _ (@ps_ret _ _ _ _ (@pe_tupPK _ K _ _ _ _ rfl (@pa2 _ _ _ _ _ pe_str (pv 1) (by rfl) (by rfl)))))))))),?_⟩;obtain ⟨ch,hch⟩:∃ ch,z.cps.toList[0]?=some ch:=⟨_,aAv (by rw [ak];exact h1)⟩;have hh:z.cps.toList.head?=some ch:=by rw [List.head?_eq_getElem?];exact hch
 have tup:∀ {w:Str} {d:Dt} {x:V} {H1:Hp},mkW z.cps.toList=some (mk2 w d)→Same H H1→IsP K H1 d x→∃ l,IsPs K H1 l [.str w,x]∧([.str w,x]:List V).length≤sizeLine∧∀ v H',Same H1 H'→IsP K H' (.tup l) v→Q v H':=fun {w d x H1} e g hx=>⟨[.str w,d],.cons .str (.cons hx .nil),sz2,fun v H' g' hv=>q1 _ e v H' (g.trans g') hv⟩;refine ⟨_,rfl,_,_,rfl,rfl,_,rfl,be (fun c=>?_) (fun c=>?_)⟩
 ·have e:mkW z.cps.toList=some (mk2 "mark" (.str z)):=by
   unfold mkW;rw [gG,if_pos c]
  obtain ⟨l,a1,a2,a3⟩:=tup e (Same.refl H) .str;exact ⟨_,rfl,l,a1,a2,a3⟩
 have m0:mkW z.cps.toList=(if z.cps.toList.head?=some 34∧((z.cps.toList.drop 1).dropLast).all okC=true then some (mk2 "text" (.str (cC ((z.cps.toList.drop 1).dropLast))))
   else if (∃ c,z.cps.toList.head?=some c∧aM letS c=true)∧z.cps.toList.length≤8 then some (mk2 "word" (.str (cC z.cps.toList)))
   else if (z.cps.toList.dropWhile (· == 45)).length≤60 then (dH z.cps.toList).map fun n=>mk2 "number" (.int n) else none):=by
  show (if _ then _ else _)=_;rw [gG,if_neg c]
 refine ⟨_,rfl,z,_,ch,rfl,rfl,bX hz,pF hch,rfl,_,rfl,?_⟩;rw [vC,iG];have sl:=pO z h1;have sll:=nR z h1;refine be (fun c3=>?A) (fun c3=>?B)
 case' A =>
  refine ⟨_,rfl,_,rfl,_,rfl,_,rfl,z,rfl,bX hz,_,rfl,fun l hl=>?_⟩;refine tR (z:=Txt.slice z (some 1) (some (-1))) (fun i ys σ H'=>ys=bls (((Txt.slice z (some 1) (some (-1))).cps.toList.take i).map okC)∧Same H H'∧H' l=some (.lst ys)∧σ.length=1) ⟨rfl,ag hl _,aa,rfl⟩ ?_ ?_
  ·rintro i c ys σ H1 N hc ⟨rfl,g1,f1,hσ⟩ next;have hc':(Txt.slice z (some 1) (some (-1))).cps.toList[i]?=some c:=by rw [aB0];exact hc
   have hi:=(aAk.mp hc').1
   match σ,hσ with
   | [_],_ =>
    refine ⟨_,rfl,c,rfl,f1,?_,next _ _ _ ⟨?_,bM hl g1,aa,rfl⟩⟩
    ·simp only [bls,aAa,aAE];rw [ak] at hi ⊢;have:=bX hz;lia
    ·show bls _++[V.bl (okC c)]=bls _;unfold bls;rw [aAP,aAP];exact mK (V.bl ∘ okC) hc'
  rintro ys σ H1 ⟨rfl,g1,f1,hσ⟩;rw [aAy (by simp)] at f1;refine ⟨l,_,rfl,rfl,SqL.of f1,_,rfl,?_⟩;rw [aBM,show (id ∘ okC)=okC from rfl,sl];refine be (fun c4=>?_) (fun c4=>?_)
  ·have e:mkW z.cps.toList=some (mk2 "text" (.str (Txt.slice z (some 1) (some (-1))))):=by
    rw [m0,if_pos ⟨by rw [hh,of_decide_eq_true c3],c4⟩,← sl,gG]
   obtain ⟨l,a1,a2,a3⟩:=tup e g1 .str;exact ⟨_,rfl,_,rfl,_,rfl,_,rfl,z,rfl,bX hz,l,a1,a2,a3⟩
  have nq:¬ (z.cps.toList.head?=some 34∧((z.cps.toList.drop 1).dropLast).all okC=true):=fun h=>c4 h.2
 case' B =>
  have g1:=Same.refl H;have nq:¬ (z.cps.toList.head?=some 34∧((z.cps.toList.drop 1).dropLast).all okC=true):=fun h=>c3 (decide_eq_true (Option.some.inj (hh.symm.trans h.1)))
 all_goals
  rw [if_neg nq] at m0;refine ⟨_,rfl,z,_,ch,rfl,rfl,bX hz,pF hch,_,_,rfl,rfl,_,rfl,?_⟩;rw [PySem.StrLaws.found_one];have lw:(∃ c,z.cps.toList.head?=some c∧aM letS c=true)↔aM letS ch=true:=⟨fun ⟨c,e1,e2⟩=>by rw [hh] at e1;cases e1;exact e2,fun e=>⟨ch,hh,e⟩⟩;refine be (fun c5=>?_) (fun c5=>?_);refine ⟨_,rfl,z,rfl,bX hz,_,_,rfl,rfl,_,rfl,be (fun c6=>?_) (fun c6=>?_)⟩
  ·have e:mkW z.cps.toList=some (mk2 "word" (.str z)):=by
    rw [m0,if_pos ⟨lw.mpr c5,by rw [ak];have:=of_decide_eq_true c6;lia⟩,gG]
   obtain ⟨l,a1,a2,a3⟩:=tup e g1 .str;exact ⟨_,rfl,l,a1,a2,a3⟩
  have nw:¬ ((∃ c,z.cps.toList.head?=some c∧aM letS c=true)∧z.cps.toList.length≤8):=fun h=>c6 (decide_eq_true (by have:=h.2;rw [ak] at this;lia))
  rotate_left
  have nw:¬ ((∃ c,z.cps.toList.head?=some c∧aM letS c=true)∧z.cps.toList.length≤8):=fun h=>c5 (lw.mp h.1)
  all_goals
   rw [if_neg nw] at m0;refine ⟨_,rfl,rfl,z,_,rfl,rfl,bX hz,_,rfl,?_,_,_,rfl,rfl,_,rfl,?_⟩
   ·rw [vD,k8];have:=(List.dropWhile_sublist (l:=z.cps.toList) (fun c:Nat=>c == 45)).length_le;rw [ak] at this;exact bX (by lia)
   rw [vD,k8];refine be (fun c7=>?_) (fun c7=>?_)
   ·have c7':(z.cps.toList.dropWhile (· == 45)).length≤60:=by have:=of_decide_eq_true c7;lia
    rw [if_pos c7'] at m0;refine ⟨_,rfl,z,rfl,by lia,fun H2 g2=>?_⟩
    cases hn:dH z.cps.toList with
    | none =>
     rw [hn] at m0;exact ⟨_,rfl,rfl,_,rfl,bW ⟨sz1,q2 m0 H2 (g1.trans g2)⟩⟩
    | some n =>
     rw [hn] at m0;obtain ⟨l,a1,a2,a3⟩:=tup m0 (g1.trans g2) .int;exact ⟨_,rfl,rfl,_,rfl,bj (fun c=>by cases c) ⟨_,rfl,l,a1,a2,a3⟩⟩
   ·rw [if_neg (fun h=>c7 (decide_eq_true (by lia)))] at m0;exact ⟨_,rfl,rfl,_,rfl,bW ⟨sz1,q2 m0 _ g1⟩⟩
def upB (L:Str):Dt→Bool
 | .tup [.str w,.str s]=>decide (w= "mark") && !(Builtin.Str.occurrences L s 0 L.length 1).isEmpty
 | _=>false
def fW (p:Int×Int) (d:Dt):Int×Int :=
 (if p.2+(if upB "([{" d=true then 1 else 0) - (if upB ")]}" d=true then 1 else 0) > p.1 then p.2+(if upB "([{" d=true then 1 else 0) - (if upB ")]}" d=true then 1 else 0) else p.1,
  p.2+(if upB "([{" d=true then 1 else 0) - (if upB ")]}" d=true then 1 else 0))
def gQ (toks:List Dt):Int:=(toks.foldl fW (0,0)).1
def t9 (d:Dt):Prop:=∃ w x,d=mk2 w x∧((∃ s,x=.str s)∨(w≠ "mark" ∧∃ n,x=.int n))
theorem sy {cs:List Nat} {d:Dt} (h:mkW cs=some d):t9 d:=by
 unfold mkW at h
 split at h
 ·cases h;exact ⟨_,_,rfl,.inl ⟨_,rfl⟩⟩
 split at h
 ·cases h;exact ⟨_,_,rfl,.inl ⟨_,rfl⟩⟩
 split at h
 ·cases h;exact ⟨_,_,rfl,.inl ⟨_,rfl⟩⟩
 split at h
 ·obtain ⟨n,_,rfl⟩:=aAh.mp h;exact ⟨_,_,rfl,.inr ⟨by decide,n,rfl⟩⟩
 ·cases h
theorem dI {K:W.Frag} {H:Hp} {a b:Dt} {v:V} (h:IsP K H (.tup [a,b]) v):∃ p x y,v=.ref p∧SqT K H p [x,y]∧IsP K H a x∧IsP K H b y:=by
 obtain ⟨p,xs,rfl,hp,_,r⟩:=h.unref
 cases r with
 | cons h1 r =>
  cases r with
  | cons h2 r =>
   cases r
   exact ⟨p,_,_,rfl,hp,h1,h2⟩
def gL (K:W.Frag) (_:Ads):Sp:=fun vs H Q _=>∃ (l:Addr) (ws:List V) (toks:List Dt),vs=[.ref l]∧H l=some (.lst ws)∧IsPs K H toks ws∧(∀ d∈toks,t9 d)∧Q (.int (gQ toks)) H
theorem gM (T:Tx K mg ad) {f:Addr} {fd:FuncData} (F:Gn K mg "deepest_brackets" ck ["words"] f fd):FnOk P w K mg base CX0 1 f fd ["words"] (gL K ad):=by
 obtain ⟨t_OPENING,c_OPENING⟩:=T.OPENING;obtain ⟨t_CLOSING,c_CLOSING⟩:=T.CLOSING;refine F.F.ok aA (fun vs H Q E h=>?_) (fun cdv A outer s H vs Q E hr h=>?_)
 ·obtain ⟨l,ws,toks,rfl,_⟩:=h
  rfl
 obtain ⟨l,ws,toks,rfl,hl,hp,ht,q⟩:=h;refine ⟨_,(@pss_cons _ _ _ _ _ (@ps_set _ _ 1 _ _ _ _ aA.nd rfl (Or.inl rfl) pe_int (by rfl) (.inl rfl)) (@pss_cons _ _ _ _ _ (@ps_set _ _ 2 _ _ _ _ aA.nd rfl (Or.inl rfl) pe_int (by rfl) (.inl rfl)) (@pss_cons _ _ _ _ _ (ps_for PassesOwn.never rfl (fN (K:=K) rfl (pv 0)) (ja rfl (aG (ai (i:=3) aA.nd rfl (Or.inl rfl)) (aG (ai (i:=4) aA.nd rfl (Or.inl rfl)) di)))
    (@pss_cons _ _ _ _ _ (@ps_if _ _ _ _ _ _ _ _ (PW.pt (@pw_and _ _ _ _ _ _ _ (pt_cmpR op_eq (pv 3) pe_str (nomark _)) (@pw_and1 _ _ _ _ (pt_cmpR op_in_str (pv 4) (bv rfl c_OPENING) rfl)))) (@pss_one _ _ _ (qr (i:=2) aA.nd rfl (Or.inl rfl) pe_int ip_add)) pss_nil) (@pss_cons _ _ _ _ _ (@ps_if _ _ _ _ _ _ _ _ (PW.pt (@pw_and _ _ _ _ _ _ _ (pt_cmpR op_eq (pv 3) pe_str (nomark _)) (@pw_and1 _ _ _ _ (pt_cmpR op_in_str (pv 4) (bv rfl c_CLOSING) rfl)))) (@pss_one _ _ _ (qr (i:=2) aA.nd rfl (Or.inl rfl) pe_int AB)) pss_nil) (@pss_one _ _ _ (@ps_set _ _ 1 _ _ _ _ aA.nd rfl (Or.inl rfl) (pe_callB (mr rfl) rfl T.z_max boot_max (@pa2 _ _ _ _ _ (pv 1) (pv 2) (by rfl) (by rfl))) (by rfl) (.inl rfl)))))) (@pss_one _ _ _ (@ps_ret _ _ _ _ (pv 1)))))),?_⟩
 refine ⟨_,rfl,l,rfl,⟨_,SqL.of hl⟩,kr (K:=K) (xs:=ws) (fun i σ H'=>H'=H∧∃ v3 v4,σ=[some (.ref l),some (.int ((toks.take i).foldl fW (0,0)).1),some (.int ((toks.take i).foldl fW (0,0)).2),v3,v4]) ⟨rfl,_,_,rfl⟩ (fun i σ H' _ p=>p.1 ▸ SqL.of hl) ?_ ?_⟩
 ·rintro i x σ H' hx ⟨rfl,v3,v4,rfl⟩;obtain ⟨d,hd,hdx⟩:=hp.get' hx;obtain ⟨w,y,rfl,hy⟩:=ht d (aAr hd);obtain ⟨b,x1,y2,rfl,hb,h1,h2⟩:=dI hdx;obtain rfl:=bq h1;have tk:toks.take (i+1)=toks.take i++[mk2 w y]:=by rw [aAC,hd];rfl
  rw [tk,aBh]
  generalize (toks.take i).foldl fW (0,0)=p
  refine ⟨b,_,rfl,hb,rfl,_,_,rfl,_,_,rfl,rfl,?_⟩
  by_cases hw:w= "mark"
  ·subst hw;obtain ⟨s0,rfl⟩:∃ s0,y=.str s0:=by
    rcases hy with h | ⟨h,_⟩
    ·exact h
    ·exact absurd rfl h
   obtain rfl:=bq h2;have u1:upB "([{" (mk2 "mark" (.str s0))=!(Builtin.Str.occurrences "([{" s0 0 (Str.ofString "([{").length 1).isEmpty:=by simp [upB,mk2]
   have u2:upB ")]}" (mk2 "mark" (.str s0))=!(Builtin.Str.occurrences ")]}" s0 0 (Str.ofString ")]}").length 1).isEmpty:=by simp [upB,mk2]
   refine ⟨_,rfl,rfl,_,rfl,bW ⟨_,rfl,_,_,rfl,rfl,_,rfl,?_⟩⟩;rw [← u1]
   cases e1:upB "([{" (mk2 "mark" (.str s0)) with
   | true =>
    refine dY ⟨_,rfl,_,_,rfl,rfl,_,rfl,rfl,_,rfl,bW ⟨_,rfl,_,_,rfl,rfl,_,rfl,?_⟩⟩;rw [← u2]
    cases e2:upB ")]}" (mk2 "mark" (.str s0)) with
    | true=>exact dY ⟨_,rfl,_,_,rfl,rfl,_,rfl,_,rfl,_,_,rfl,rfl,some (.str "mark"),some (.str s0),by simp [fW,e1,e2]⟩
    | false=>exact cg ⟨_,rfl,_,rfl,_,_,rfl,rfl,some (.str "mark"),some (.str s0),by simp [fW,e1,e2]⟩
   | false =>
    refine cg ⟨_,rfl,rfl,_,rfl,bW ⟨_,rfl,_,_,rfl,rfl,_,rfl,?_⟩⟩;rw [← u2]
    cases e2:upB ")]}" (mk2 "mark" (.str s0)) with
    | true=>exact dY ⟨_,rfl,_,_,rfl,rfl,_,rfl,_,rfl,_,_,rfl,rfl,some (.str "mark"),some (.str s0),by simp [fW,e1,e2]⟩
    | false=>exact cg ⟨_,rfl,_,rfl,_,_,rfl,rfl,some (.str "mark"),some (.str s0),by simp [fW,e1,e2]⟩
  ·have u:∀ L,upB L (mk2 w y)=false:=fun L=>by
    cases y <;> simp [upB,mk2,hw]
   refine ⟨_,rfl,rfl,_,rfl,bj (aJ hw) (cg ⟨_,rfl,rfl,_,rfl,bj (aJ hw) (cg ⟨_,rfl,_,rfl,_,_,rfl,rfl,some (.str w),some y2,by simp [fW,u]⟩)⟩)⟩
 ·rintro σ H' ⟨rfl,v3,v4,rfl⟩;rw [aAy (by rw [hp.length];exact aAp _)];exact ⟨_,rfl,q⟩
def jZ:Nat→List Nat→Option (List Dt)
 | 0,_=>some []
 | _+1,[]=>some []
 | n+1,c :: r=>match dl (c :: r) with
  | none=>none
  | some k=>if c=32 then jZ n ((c :: r).drop k) else match mkW ((c :: r).take k) with
   | none=>none
   | some w=>(jZ n ((c :: r).drop k)).map (w :: ·)
theorem fX {cs:List Nat} {k:Nat} (h:dl cs=some k):1≤k∧k≤cs.length:=by
 cases cs with
 | nil=>cases h
 | cons c r =>
  simp only [dl] at h
  split at h
  ·obtain ⟨i,hi,rfl⟩:=aAh.mp h;have:=(List.findIdx?_eq_some_iff_getElem.mp hi).1;simp only [aAb];lia
  split at h
  ·rename_i hc
   cases h
   refine ⟨?_,nM _ _⟩;unfold bZ;rw [aAX,if_pos hc];simp
  split at h
  ·cases h
   have:=nM figS r;simp only [aAb];lia
  ·cases h
   simp
theorem uc:∀ (n m:Nat) (cs:List Nat),cs.length≤n→cs.length≤m→jZ n cs=jZ m cs:=by
 intro n
 induction n with
 | zero =>
  intro m cs h _;obtain rfl:=aA3.mp (Nat.le_zero.mp h)
  cases m <;> rfl
 | succ n ih =>
  intro m cs h1 h2
  cases cs with
  | nil=>cases m <;> rfl
  | cons c r =>
   cases m with
   | zero=>simp at h2
   | succ m =>
    simp only [jZ]
    cases hk:dl (c :: r) with
    | none=>rfl
    | some k =>
     obtain ⟨k1,k2⟩:=fX hk;have l1:((c :: r).drop k).length≤n:=by rw [aAI];lia
     have l2:((c :: r).drop k).length≤m:=by rw [aAI];lia
     have e:=ih m ((c :: r).drop k) l1 l2;simp only [e]
def e9 (cs:List Nat):Option (List Dt):=jZ cs.length cs
theorem k9 {c:Nat} {r:List Nat}:e9 (c :: r)=match dl (c :: r) with
  | none=>none
  | some k=>if c=32 then e9 ((c :: r).drop k) else match mkW ((c :: r).take k) with
   | none=>none
   | some w=>(e9 ((c :: r).drop k)).map (w :: ·):=by
 unfold e9;show jZ (r.length+1) (c :: r)=_;simp only [jZ]
 cases hk:dl (c :: r) with
 | none=>rfl
 | some k =>
  obtain ⟨k1,k2⟩:=fX hk;have e:=uc r.length ((c :: r).drop k).length ((c :: r).drop k) (by rw [aAI];simp only [aAb];lia) (aAp _);simp only [e]
theorem A7 {c:Nat} (h:aM figS c=true):c≠45:=by
 intro e;subst e
 revert h
 decide +kernel
theorem pP {L:Str}:∀ (cs:List Nat),cs.take (bZ L cs)=cs.takeWhile (aM L)
 | []=>rfl
 | c :: cs=>by
  unfold bZ;rw [aAX]
  split
  ·have:=pP (L:=L) cs;unfold bZ at this;rw [aAb,List.take_succ_cons,this]
  ·rfl
theorem vI {p:Nat→Bool}:∀ {l:List Nat} {x:Nat},x∈l.takeWhile p→p x=true
 | [],x,h=>by simp at h
 | c :: l,x,h=>by
  rw [aAX] at h
  split at h
  ·rename_i hc
   rcases aAm.mp h with rfl | h
   ·exact hc
   ·exact vI h
  ·simp at h
theorem rf {cs:List Nat} {k:Nat} (h:dl cs=some k):(cs.take k).length≤((cs.take k).dropWhile (· == 45)).length+1:=by
 obtain ⟨k1,k2⟩:=fX h
 cases cs with
 | nil=>cases h
 | cons c r =>
  obtain ⟨k,rfl⟩:∃ j,k=j+1:=⟨k - 1,by lia⟩;rw [List.take_succ_cons]
  by_cases hc:c=45
  ·subst hc;have e:r.take k=(r.takeWhile (aM figS))∨k=0:=by
    simp only [dl] at h;rw [if_neg (by decide),if_neg (by decide +kernel),if_pos (.inl trivial)] at h;have:k=bZ figS r:=by injection h;lia
    rw [this,pP];exact .inl rfl
   rw [aBk,if_pos (by rfl)];rcases e with e | e
   ·rw [e];have e2:(r.takeWhile (aM figS)).dropWhile (· == 45)=r.takeWhile (aM figS):=by
     cases hr:r.takeWhile (aM figS) with
     | nil=>rfl
     | cons d t =>
      have hd:aM figS d=true:=vI (l:=r) (by rw [hr];exact aAi);rw [aBk,if_neg (by simpa using A7 hd)]
    rw [e2,aAb];exact aAp _
   ·subst e;simp
  ·rw [aBk,if_neg (by simpa using hc)];lia
theorem ud {z:Str} {a k:Nat} (h:a+k≤z.length):Txt.slice z (some (a:Int)) (some ((a+k:Nat):Int))=cC ((z.cps.toList.drop a).take k):=by
 rw [eq_of_beq (slice_closesL (x:=z) (i:=(a:Int)) (j:=((a+k:Nat):Int)) (by lia) (by lia) (by lia))];unfold cC;rw [aBf,show (((a+k:Nat):Int) - (a:Int)).toNat=k by lia]
def pQ (K:W.Frag) (ad:Ads):Sp:=fun vs H Q E=>∃ z:Str,vs=[.str z]∧z.length≤100000 ∧
 (∀ toks,e9 z.cps.toList=some toks→gQ toks≤40→∀ l ws H',H l=none→Same H H'→H' l=some (.lst ws)→IsPs K H' toks ws→Q (.ref l) H') ∧
 ((∀ toks,e9 z.cps.toList=some toks→¬ gQ toks≤40)→∀ H',Same H H'→E (.ref ad.BadText) none H')
theorem pR (T:Tx K mg ad) {f:Addr} {fd:FuncData} (F:Gn K mg "words_of" ic ["text"] f fd):FnOk P w K mg base (CXE P w) 3 f fd ["text"] (pQ K ad):=by
 obtain ⟨_,_,Jl⟩:=T.word_end;have J6:=pL (P:=P) (w:=w) (base:=base) T Jl;obtain ⟨_,_,Jh⟩:=T.made_word;have J3:=nS (P:=P) (w:=w) (base:=base) T Jh;obtain ⟨_,_,Ji⟩:=T.deepest_brackets;have Jv:=gM (P:=P) (w:=w) (base:=base) T Ji;obtain ⟨t_BLANK,c_BLANK⟩:=T.BLANK;obtain ⟨t_MOST_BRACKETS,c_MOST_BRACKETS⟩:=T.MOST_BRACKETS;refine F.F.okW cU (fun vs H Q E h=>?_) (fun cdv A outer s H vs Q E hr h=>?_)
 ·obtain ⟨z,rfl,_⟩:=h
  rfl
 obtain ⟨z,rfl,hz,q1,q2⟩:=h;refine ⟨_,(@pss_cons _ _ _ _ _ (@ps_set _ _ 1 _ _ _ _ cU.nd rfl (Or.inl rfl) (@pe_lst _ _ _ _ pa_nil) (by rfl) (.inl rfl)) (@pss_cons _ _ _ _ _ (@ps_set _ _ 2 _ _ _ _ cU.nd rfl (Or.inl rfl) pe_int (by rfl) (.inl rfl)) (@pss_cons _ _ _ _ _ (rR fun ok=>kq (iA ok.frames rfl ok.frf) (pt_cmpR fz (pv 2) (pe_callB cu rfl T.z_len PySem.boot_len (@pa1 _ _ _ (pv 0) (by rfl))) (nomark _))
    (@pss_cons _ _ _ _ _ (@ps_set _ _ 3 _ _ _ _ cU.nd rfl (Or.inl rfl) (pe_call J6 (hr.mono (by first | decide | lia)) rfl Jl.m Jl.F.kp Jl.b .nil (wing_on rfl rfl rfl) (@pa2 _ _ _ _ _ (pv 0) (pv 2) (by rfl) (by rfl))) (by rfl) (.inl rfl)) (@pss_cons _ _ _ _ _ (@ps_if _ _ _ _ _ _ _ _ (pt_cmpR op_ne (@pe_ix _ _ _ _ _ _ _ ix_str (pv 0) (pv 2) (fun _ _=>rfl)) (bv rfl c_BLANK) (nomark _)) (@pss_one _ _ _ (@ps_expr _ _ _ _ (pe_bm PySem.F.plainAttrs_list PySem.F.slot_list_append PySem.F.type_list_append bP (pv 1) (@pa1 _ _ _ (pe_call J3 (hr.mono (by first | decide | lia)) rfl Jh.m Jh.F.kp Jh.b .nil (wing_on rfl rfl rfl) (@pa1 _ _ _ (pe_slice sl_str (pv 0) (po_some (pv 2)) (po_some (pv 3))) (by rfl))) (by rfl))) (by rfl))) pss_nil) (@pss_one _ _ _ (@ps_set _ _ 2 _ _ _ _ cU.nd rfl (Or.inl rfl) (pv 3) (by rfl) (.inl rfl)))))) (@pss_cons _ _ _ _ _ (@ps_if _ _ _ _ _ _ _ _ (pt_cmpR mo (pcl Ji Jv (hr.mono (by lia)) rfl (@pa1 _ _ _ (pv 1) (by rfl))) (ke rfl c_MOST_BRACKETS) (nomark _)) (@pss_one _ _ _ (ps_raiseW rfl rfl rfl rfl T.x_BadText rfl (@pa1 _ _ _ pe_str (by rfl)))) pss_nil) (@pss_one _ _ _ (@ps_ret _ _ _ _ (pv 1))))))),?_⟩
 refine ⟨(by show 0≤sizeLine;decide),fun l hl=>?_⟩;refine ⟨fun m σ H'=>∃ (a:Nat) (toks:List Dt) (ws:List V) (v3:Option V),a≤z.length∧m=z.length - a∧Same H H'∧H' l=some (.lst ws)∧IsPs K H' toks ws∧toks.length≤a∧(∀ d∈toks,t9 d)∧(e9 (z.cps.toList.drop a)).map (toks++·)=e9 z.cps.toList∧σ=[some (.str z),some (.ref l),some (.int a),v3],
  ⟨_,0,[],[],none,aAD _,rfl,ag hl _,aa,.nil,aAp _,(fun d hd=>nomatch hd),(by simp),rfl⟩,?_⟩
 rintro m σ H1 ⟨a,toks,ws,v3,ha,rfl,g1,f1,hp,ht,hT,hL,rfl⟩;refine ⟨_,rfl,_,rfl,z,rfl,bX hz,_,_,rfl,rfl,_,rfl,be (fun c=>?_) (fun c=>?_)⟩
 ·have hlt:a < z.length:=by have:=of_decide_eq_true c;lia
  obtain ⟨ch,hch⟩:∃ ch,z.cps.toList[a]?=some ch:=⟨_,aAv (by rw [ak];exact hlt)⟩;have hd:z.cps.toList.drop a=ch :: z.cps.toList.drop (a+1):=by
   obtain ⟨h1,h2⟩:=aAk.mp hch;rw [aA6 h1,h2]
  have hs:=k9 (c:=ch) (r:=z.cps.toList.drop (a+1));rw [← hd] at hs;refine ⟨fun σ' H'=>∃ (a':Nat) (toks:List Dt) (ws:List V) (v3:Option V),a < a'∧a'≤z.length∧Same H H'∧H' l=some (.lst ws)∧IsPs K H' toks ws∧toks.length≤a'∧(∀ d∈toks,t9 d)∧(e9 (z.cps.toList.drop a')).map (toks++·)=e9 z.cps.toList∧σ'=[some (.str z),some (.ref l),some (.int a'),v3],
   fun σ' H' ⟨a',toks',ws',v',h1,h2,r⟩=>⟨z.length - a',by lia,a',toks',ws',v',h2,rfl,r⟩,?_⟩
  cases hk:dl (z.cps.toList.drop a) with
  | none =>
   rw [hk] at hs;refine ⟨_,rfl,_,rfl,z,a,rfl,hlt,hz,(fun k e=>by rw [hk] at e;cases e),fun _ H2 g2=>q2 (fun t h=>?_) H2 (g1.trans g2)⟩;rw [← hL,hs] at h
   cases h
  | some k =>
   rw [hk] at hs;obtain ⟨k1,k2⟩:=fX hk;rw [aAI,ak] at k2;refine ⟨_,rfl,_,rfl,z,a,rfl,hlt,hz,(fun k' e=>?_),fun e=>by rw [hk] at e;cases e⟩;rw [hk] at e
   cases e
   refine ⟨_,rfl,_,rfl,z,_,ch,rfl,rfl,bX hz,pF hch,rfl,_,rfl,?_⟩;rw [xZ,iG];dsimp only at hs;rw [List.drop_drop] at hs
   by_cases h32:ch=32
   ·rw [if_pos h32] at hs;rw [decide_eq_true h32];refine cg ⟨_,rfl,a+k,toks,ws,_,by lia,by lia,g1,f1,hp,by lia,hT,?_,rfl⟩;rw [← hs];exact hL
   ·rw [if_neg h32] at hs;rw [decide_eq_false h32];have es:=ud (z:=z) (a:=a) (k:=k) (by lia);have ec:(cC ((z.cps.toList.drop a).take k)).cps.toList=(z.cps.toList.drop a).take k:=rfl;have el:(cC ((z.cps.toList.drop a).take k)).length=k:=by
     rw [← ak,ec,aAE,aAI,ak];lia
    refine dY ⟨_,rfl,.inl ⟨rfl,_,SqL.of f1⟩,_,rfl,_,rfl,_,rfl,_,rfl,_,rfl,z,rfl,bX hz,?_⟩;rw [es];refine ⟨_,rfl,by lia,by lia,(by
     have:=rf hk;rw [← ec] at this;rw [ak] at this;exact this),fun d e v H2 g2 hv=>?_,fun e H2 g2=>q2 (fun t h=>?_) H2 (g1.trans g2)⟩
    ·rw [ec] at e;rw [e] at hs;dsimp only at hs;have lw:=hp.length;refine ⟨l,ws,_,rfl,rfl,g2 _ _ f1,aAj (show ws.length < 100000 by lia) (by decide),?_⟩;refine ⟨_,rfl,a+k,toks++[d],ws++[v],_,by lia,by lia,?_,aa,?_,by rw [aAc];simp only [aAb,aAn];lia,fun d' hd'=>?_,?_,rfl⟩
     ·intro b o eb;rw [ac (ah eb hl)];exact g2 _ _ (g1 _ _ eb)
     ·exact ((hp.same g2).but (g2 _ _ f1) But.put).append (.cons (hv.but (g2 _ _ f1) But.put) .nil)
     ·rcases aAG.mp hd' with h | h
      ·exact hT d' h
      ·obtain rfl:=aAq.mp h;exact sy e
     ·rw [← hL,hs,Option.map_map]
      congr 1
      funext x
      simp
    ·rw [ec] at e;rw [← hL,hs,e] at h
     cases h
 ·have e:a=z.length:=by
   have c':¬ ((a:Int) < (z.length:Int)):=fun h=>c (decide_eq_true h);lia
  have hN:e9 z.cps.toList=some toks:=by
   rw [← hL,aAS (by rw [ak];lia)];show some (toks++[])=_;rw [aAZ]
  refine ⟨_,rfl,l,ws,toks,rfl,f1,hp,hT,_,_,rfl,rfl,_,rfl,be (fun c2=>?_) (fun c2=>?_)⟩
  ·refine ⟨sz1,q2 (fun t h=>?_) _ g1⟩;rw [hN] at h
   cases h
   have:=of_decide_eq_true c2;lia
  ·refine ⟨_,rfl,q1 toks hN ?_ l ws _ hl g1 f1 hp⟩;have c':¬ (40 < gQ toks):=fun h=>c2 (decide_eq_true h);lia
abbrev Tk:=Str×Key
def tkD (t:Tk):Dt:=mk2 t.1 (kDt t.2)
def toTk:Dt→Tk
 | .tup [.str w,.str s]=>(w,.inr s)
 | .tup [.str w,.int n]=>(w,.inl n)
 | _=>("",.inl 0)
theorem pS:∀ {toks:List Dt},(∀ d∈toks,t9 d)→(toks.map toTk).map tkD=toks
 | [],_=>rfl
 | d :: toks,h=>by
  have:=pS (toks:=toks) fun d hd=>h d (aAg _ hd);rw [aAo,aAo,this];obtain ⟨w,x,rfl,hx⟩:=h d aAi;rcases hx with ⟨s,rfl⟩ | ⟨_,n,rfl⟩ <;> rfl
abbrev lX:Tk:=(("end" : Str),.inr "")
abbrev aU (m:Str):Tk:=(("mark" : Str),.inr m)
def am (ts:List Tk) (p:Nat):Tk:=ts[p]?.getD lX
abbrev lY (l:Addr) (p:Nat):List (Str×V):=[("all_words",.ref l),("place",.int p)]
theorem x6:¬ (("all_words" : Str)= "place"):=by decide +kernel
theorem pT (l:Addr) (p:Nat) (y:Int):eX "place" (.int y) (lY l p)=([("all_words",V.ref l),("place",V.int y)]:List (Str×V)):=by
 show (if ("all_words" : Str)= "place" then _ else (("all_words" : Str),V.ref l) :: (if ("place" : Str)= "place" then [(("place" : Str),V.int y)] else _))=_;rw [if_neg x6,if_pos rfl]
theorem la (l:Addr) (p:Nat):(lY l p).lookup ("all_words" : Str)=some (.ref l):=by
 rw [aAN];simp
theorem hV (l:Addr) (p:Nat):(lY l p).lookup ("place" : Str)=some (.int p):=by
 have:(("place" : Str) == "all_words")=false:=by decide +kernel
 rw [aAN,this,aAN];simp
theorem aC (l:Addr) (p:Nat) {m:Str} (h1:(m == "all_words")=false) (h2:(m == "place")=false):(lY l p).lookup m=none:=by
 rw [aAN,h1,aAN,h2]
 rfl
def RowAt (K:W.Frag) (C:Addr) (H:Hp) (x l:Addr) (ts:List Tk) (p:Nat):Prop:=∃ dx ws,H x=some (.ins C dx (lY l p))∧H l=some (.lst ws)∧IsPs K H (ts.map tkD) ws∧l≠x∧ts.length≤100000∧∀ t∈ts,t.1= "word" →∃ s,t.2=Sum.inr s
theorem RowAt.same {K:W.Frag} {C:Addr} {H H':Hp} {x l:Addr} {ts:List Tk} {p:Nat} (h:RowAt K C H x l ts p) (g:Same H H'):RowAt K C H' x l ts p:=by
 obtain ⟨dx,ws,h1,h2,h3,h4⟩:=h;exact ⟨dx,ws,g _ _ h1,g _ _ h2,h3.same g,h4⟩
def j0 (K:W.Frag) (ad:Ads):Sp:=fun vs H Q E=>∃ (x dx:Addr) (z:Str),vs=[.ref x,.str z]∧H x=some (.ins ad.WordRow dx [])∧z.length≤100000 ∧
 (∀ toks,e9 z.cps.toList=some toks→gQ toks≤40→∀ l H',H l=none→But x H H'→RowAt K ad.WordRow H' x l (toks.map toTk) 0→Q .non H') ∧
 ((∀ toks,e9 z.cps.toList=some toks→¬ gQ toks≤40)→∀ H',Same H H'→E (.ref ad.BadText) none H')
theorem xr:∀ (n:Nat) (cs:List Nat) (toks:List Dt),jZ n cs=some toks→(∀ d∈toks,t9 d)∧toks.length≤cs.length:=by
 intro n
 induction n with
 | zero=>intro cs toks h;cases h;exact ⟨fun d hd=>(by simp at hd),aAD _⟩
 | succ n ih =>
  intro cs toks h
  cases cs with
  | nil=>cases h;exact ⟨fun d hd=>(by simp at hd),aAD _⟩
  | cons c r =>
   simp only [jZ] at h
   cases hk:dl (c :: r) with
   | none=>rw [hk] at h;cases h
   | some k =>
    rw [hk] at h;obtain ⟨k1,k2⟩:=fX hk;have ld:((c :: r).drop k).length=(c :: r).length - k:=aAI;dsimp only at h
    split at h
    ·obtain ⟨a,b⟩:=ih _ _ h;exact ⟨a,by lia⟩
    ·cases hm:mkW ((c :: r).take k) with
     | none=>rw [hm] at h;cases h
     | some w =>
      rw [hm] at h;obtain ⟨t,ht,rfl⟩:=aAh.mp h;obtain ⟨a,b⟩:=ih _ _ ht;refine ⟨fun d hd=>?_,by rw [aAb];lia⟩;rcases aAm.mp hd with rfl | hd
      ·exact sy hm
      ·exact a d hd
theorem vJ {cs:List Nat} {d:Dt} (h:mkW cs=some d) (hw:(toTk d).1= "word"):∃ s,(toTk d).2=Sum.inr s:=by
 unfold mkW at h
 split at h
 ·cases h;exact ⟨_,rfl⟩
 split at h
 ·cases h;exact ⟨_,rfl⟩
 split at h
 ·cases h;exact ⟨_,rfl⟩
 split at h
 ·obtain ⟨n,_,rfl⟩:=aAh.mp h;exact absurd (show (Str.ofString "number")=Str.ofString "word" from hw) (by decide +kernel)
 ·cases h
theorem ue:∀ (n:Nat) (cs:List Nat) (toks:List Dt),jZ n cs=some toks→∀ d∈toks,(toTk d).1= "word" →∃ s,(toTk d).2=Sum.inr s:=by
 intro n
 induction n with
 | zero=>intro cs toks h;cases h;exact fun d hd=>(by simp at hd)
 | succ n ih =>
  intro cs toks h
  cases cs with
  | nil=>cases h;exact fun d hd=>(by simp at hd)
  | cons c r =>
   simp only [jZ] at h
   cases hk:dl (c :: r) with
   | none=>rw [hk] at h;cases h
   | some k =>
    rw [hk] at h;dsimp only at h
    split at h
    ·exact ih _ _ h
    ·cases hm:mkW ((c :: r).take k) with
     | none=>rw [hm] at h;cases h
     | some w =>
      rw [hm] at h;obtain ⟨t,ht,rfl⟩:=aAh.mp h;intro d hd hw;rcases aAm.mp hd with rfl | hd
      ·exact vJ hm hw
      ·exact ih _ _ ht d hd hw
theorem j3 (T:Tx K mg ad) {f:Addr} {fd:FuncData} (F:Mi K ad.WordRow "__init__" "WordRow.__init__" dU ["self","text"] f fd):FnOk P w K mg base (CXE P w) 4 f fd ["self","text"] (j0 K ad):=by
 obtain ⟨_,_,Jm⟩:=T.words_of;have J5:=pR (P:=P) (w:=w) (base:=base) T Jm;refine F.F.okW j7 (fun vs H Q E h=>?_) (fun cdv A outer s H vs Q E hr h=>?_)
 ·obtain ⟨x,dx,z,rfl,_⟩:=h
  rfl
 obtain ⟨x,dx,z,rfl,hx,hz,q1,q2⟩:=h;refine ⟨_,(@pss_cons _ _ _ _ _ (uJ (pv 0) (pe_call J5 (hr.mono (by first | decide | lia)) rfl Jm.m Jm.F.kp Jm.b .nil (wing_on rfl rfl rfl) (@pa1 _ _ _ (pv 1) (by rfl))) rfl) (@pss_one _ _ _ (uJ (pv 0) pe_int rfl))),?_⟩;refine ⟨_,rfl,z,rfl,hz,fun toks hL hB l ws H1 hl g1 f1 hp=>?_,fun h H1 g1=>q2 h H1 g1⟩;have hlx:l≠x:=fun c=>by subst c;rw [hx] at hl;cases hl
 refine ⟨_,rfl,x,ad.WordRow,dx,[],rfl,g1 _ _ hx,T.c_WordRow,T.n_WordRow_all_words,(by show 0 < 1000;decide),_,rfl,x,ad.WordRow,dx,_,rfl,aa,T.c_WordRow,T.n_WordRow_place,(by show 1 < 1000;decide),?_⟩;obtain ⟨t1,t2⟩:=xr _ _ _ hL;refine q1 toks hL hB l _ hl (fun b o nb eb=>by rw [ac nb,ac nb];exact g1 _ _ eb) ⟨dx,ws,?_,?_,?_,hlx,by rw [aAa];rw [ak] at t2;lia,fun t ht hw=>?_⟩
 ·rw [aa];show some (HO.ins _ _ (if ("all_words" : Str)= "place" then _ else (("all_words" : Str),V.ref l) :: eX "place" (V.int 0) []))=_;rw [if_neg x6]
  rfl
 ·rw [ac hlx,ac hlx];exact f1
 ·rw [pS t1];exact bC (p:=x) (by rw [g1 _ _ hx];exact True.intro) (fun b o nb eb=>by rw [ac nb,ac nb];exact eb) hp
 ·obtain ⟨d,hd,rfl⟩:=aAl.mp ht;exact ue _ _ _ hL d hd hw
def iH (K:W.Frag) (ad:Ads):Sp:=fun vs H Q _=>∃ (x l:Addr) (ts:List Tk) (p k:Nat),vs=[.ref x,.int k]∧RowAt K ad.WordRow H x l ts p∧∀ v,IsD K H (tkD (am ts (p+k))) v→Q v H
theorem bK (T:Tx K mg ad) {f:Addr} {fd:FuncData} (F:Mn K ad.WordRow "coming" "WordRow.coming" cJ ["self","ahead"] f fd):FnOk P w K mg base CX0 1 f fd ["self","ahead"] (iH K ad):=by
 obtain ⟨c_END,s_END⟩:=T.END;refine F.F.ok eo (fun vs H Q E h=>?_) (fun cdv A outer s H vs Q E hr h=>?_)
 ·obtain ⟨x,l,ts,p,k,rfl,_⟩:=h
  rfl
 obtain ⟨x,l,ts,p,k,rfl,⟨dx,ws,hx,hl,hp,hlx,h5⟩,q⟩:=h;refine ⟨_,(@pss_cons _ _ _ _ _ (@ps_set _ _ 2 _ _ _ _ eo.nd rfl (Or.inl rfl) (@pe_op _ _ _ _ _ _ _ _ aS (qw (pv 0) rfl) (pv 1)) (by rfl) (.inl rfl)) (@pss_one _ _ _ (@ps_ret _ _ _ _ (ko (pt_cmpR fz (pv 2) (pe_callB (bp (K:=K) rfl) rfl T.z_len PySem.boot_len (@pa1 _ _ _ (qw (pv 0) rfl) (by rfl))) (nomark _)) (@pe_ix _ _ _ _ _ _ _ (aD (K:=K) rfl) (qw (pv 0) rfl) (pv 2) (fun _ _=>rfl)) (iy rfl c_END))))),?_⟩;have lw:=hp.length;rw [aAa] at lw;refine ⟨_,rfl,x,ad.WordRow,dx,_,_,rfl,hx,T.c_WordRow,T.n_WordRow_place,hV l p,_,rfl,_,_,rfl,rfl,?_⟩;refine ⟨_,rfl,_,rfl,x,ad.WordRow,dx,_,_,rfl,hx,T.c_WordRow,T.n_WordRow_all_words,la l p,l,_,rfl,.inl (SqL.of hl),_,_,rfl,rfl,_,rfl,be (fun c=>?_) (fun c=>?_)⟩
 ·have hlt:p+k < ts.length:=by have:=of_decide_eq_true c;lia
  obtain ⟨v,hv,hd⟩:=hp.get (i:=p+k) (d:=tkD ts[p+k]) (by rw [aAf,aAv hlt];rfl);refine ⟨_,rfl,x,ad.WordRow,dx,_,_,rfl,hx,T.c_WordRow,T.n_WordRow_all_words,la l p,_,rfl,l,_,_,_,rfl,rfl,SqL.of hl,(by rw [← aBU];exact eY hv),?_⟩;refine q v ?_;unfold am;rw [aAv hlt];exact hd.d
 ·have hge:ts.length≤p+k:=by
   have c':¬ ((p:Int)+(k:Int) < (ws.length:Int)):=fun h=>c (decide_eq_true h);lia
  refine q _ ?_;unfold am;rw [aBv hge];exact .tup (s_END _ aAi H) (.cons .str (.cons .str .nil))
def jp (K:W.Frag) (ad:Ads):Sp:=fun vs H Q _=>∃ (x l:Addr) (ts:List Tk) (p:Nat) (m:Str),vs=[.ref x,.str m]∧RowAt K ad.WordRow H x l ts p∧∀ H',Same H H'→Q (.bl (decide (am ts p=aU m))) H'
theorem vK (t:Tk) (w:Str) (k:Key):eqD (tkD t) (mk2 w (kDt k))=decide (t=(w,k)):=by
 obtain ⟨w',k'⟩:=t;rw [aAY]
 cases k <;> cases k' <;> simp [tkD,mk2,kDt,eqD,iz]
theorem vL (t:Tk):(tkD t).dep≤60:=by
 obtain ⟨w,k⟩:=t
 cases k <;> simp [tkD,mk2,kDt,Dt.dep,cA]
theorem cD (T:Tx K mg ad) {f:Addr} {fd:FuncData} (F:Mn K ad.WordRow "comes" "WordRow.comes" da ["self","mark"] f fd):FnOk P w K mg base CX0 2 f fd ["self","mark"] (jp K ad):=by
 obtain ⟨_,_,HU⟩:=T.m_WordRow_coming;have Io:=bK (P:=P) (w:=w) (base:=base) T HU;refine F.F.ok jG (fun vs H Q E h=>?_) (fun cdv A outer s H vs Q E hr h=>?_)
 ·obtain ⟨x,l,ts,p,m,rfl,_⟩:=h
  rfl
 obtain ⟨x,l,ts,p,m,rfl,hR,q⟩:=h;refine ⟨_,(@pss_one _ _ _ (@ps_ret _ _ _ _ (gC (xh (K:=K) rfl hr.units) (pe_meth (pv 0) T.c_WordRow HU.meth Io (hr.mono (by first | decide | lia)) HU.b .nil jL (@pa1 _ _ _ pe_int (by rfl))) (@pe_tupPK _ K _ _ _ _ rfl (@pa2 _ _ _ _ _ pe_str (pv 1) (by rfl) (by rfl))) (nomark _)))),?_⟩;obtain ⟨dx,ws,hx,_⟩:=id hR;refine ⟨_,rfl,x,dx,_,rfl,hx,aC l p (by decide +kernel) (by decide +kernel),x,l,ts,p,0,rfl,hR,fun v hv=>?_⟩;refine ⟨_,rfl,[.str "mark",.str m],.cons .str (.cons .str .nil),sz2,fun v2 H1 g1 hv2=>?_⟩;refine ⟨_,_,hv.same g1,hv2.d,vL _,?_⟩;have:=q H1 g1;rw [← vK] at this;exact this
def j4 (K:W.Frag) (ad:Ads):Sp:=fun vs H Q E=>∃ (x l:Addr) (ts:List Tk) (p:Nat) (s:Str),vs=[.ref x,.str s]∧RowAt K ad.WordRow H x l ts p ∧
 ((am ts p).1=s→∀ H',But x H H'→RowAt K ad.WordRow H' x l ts (p+1)→Q (kV (am ts p).2) H')∧(¬ (am ts p).1=s→E (.ref ad.BadText) none H)
theorem RowAt.next {K:W.Frag} {C:Addr} {H:Hp} {x dx l:Addr} {ws:List V} {ts:List Tk} {p q:Nat} (hx:H x=some (.ins C dx (lY l p))) (hl:H l=some (.lst ws)) (hp:IsPs K H (ts.map tkD) ws) (hlx:l≠x) (h5:ts.length≤100000∧∀ t∈ts,t.1= "word" →∃ s,t.2=Sum.inr s) :
  RowAt K C (upd H x (.ins C dx (lY l q))) x l ts q :=
 ⟨dx,ws,aa,by rw [ac hlx];exact hl,bC (p:=x) (by rw [hx];exact True.intro) But.put hp,hlx,h5⟩
theorem A8 {K:W.Frag} {H:Hp} {t:Tk} {v:V} (h:IsD K H (tkD t) v):∃ a,v=.ref a∧SqT K H a [.str t.1,kV t.2]:=by
 obtain ⟨a,xs,rfl,ha,r⟩:=IsD.unref h
 cases r with
 | cons h1 r =>
  cases r with
  | cons h2 r =>
   cases r
   cases h1
   refine ⟨a,rfl,?_⟩;obtain ⟨w,k⟩:=t
   cases k <;> (cases h2;exact ha)
theorem bD (T:Tx K mg ad) {f:Addr} {fd:FuncData} (F:Mn K ad.WordRow "take" "WordRow.take" dW ["self","sort"] f fd):FnOk P w K mg base (CXE P w) 2 f fd ["self","sort"] (j4 K ad):=by
 obtain ⟨_,_,HU⟩:=T.m_WordRow_coming;have Io:=bK (P:=P) (w:=w) (base:=base) T HU;refine F.F.okW fH (fun vs H Q E h=>?_) (fun cdv A outer s H vs Q E hr h=>?_)
 ·obtain ⟨x,l,ts,p,s,rfl,_⟩:=h
  rfl
 obtain ⟨x,l,ts,p,s,rfl,hR,q1,q2⟩:=h;refine ⟨_,(@pss_cons _ _ _ _ _ (@ps_set _ _ 2 _ _ _ _ fH.nd rfl (Or.inl rfl) (pe_meth (pv 0) T.c_WordRow HU.meth Io (hr.mono (by first | decide | lia)) HU.b .nil jL (@pa1 _ _ _ pe_int (by rfl))) (by rfl) (.inl rfl)) (@pss_cons _ _ _ _ _ (@ps_if _ _ _ _ _ _ _ _ (pt_cmpR op_ne (@pe_ix _ _ _ _ _ _ _ (ix_tupDN (K:=K) rfl) (pv 2) pe_int (fun _ _=>rfl)) (pv 1) (nomark _)) (@pss_one _ _ _ (ps_raiseW rfl rfl rfl rfl T.x_BadText rfl (@pa1 _ _ _ pe_str (by rfl)))) pss_nil) (@pss_cons _ _ _ _ _ (ps_fldaug (pv 0) pe_int ip_add) (@pss_one _ _ _ (@ps_ret _ _ _ _ (@pe_ix _ _ _ _ _ _ _ (ix_tupDN (K:=K) rfl) (pv 2) pe_int (fun _ _=>rfl))))))),?_⟩;obtain ⟨dx,ws,hx,hl,hp,hlx,h5⟩:=id hR;refine ⟨_,rfl,x,dx,_,rfl,hx,aC l p (by decide +kernel) (by decide +kernel),x,l,ts,p,0,rfl,hR,fun v hv=>?_⟩;rw [aB2] at hv;have hv':IsD K H (.tup [.str (am ts p).1,kDt (am ts p).2]) v:=hv;refine ⟨_,rfl,_,_,_,hv',rfl,at0 _ _,fun v1 hv1=>?_⟩;obtain rfl:v1=.str (am ts p).1:=by cases hv1;rfl
 refine ⟨_,rfl,rfl,_,rfl,?_⟩
 by_cases hs:(am ts p).1=s
 ·rw [hs];refine sk ⟨_,rfl,x,ad.WordRow,dx,_,_,rfl,hx,T.c_WordRow,T.n_WordRow_place,hV l p,_,_,rfl,rfl,dx,_,hx,(by show 2 < 1000;decide),?_⟩;rw [pT,show (fun i j:Int=>i+j) (p:Int) 1=((p+1:Nat):Int) from (by show (p:Int)+1=_;lia)];have hn:RowAt K ad.WordRow (upd H x (.ins ad.WordRow dx (lY l (p+1)))) x l ts (p+1):=.next hx hl hp hlx h5;obtain ⟨a,rfl,ha⟩:=A8 hv;have ha':SqT K (upd H x (.ins ad.WordRow dx (lY l (p+1)))) a [.str (am ts p).1,kV (am ts p).2]:=by
   rcases ha with (ha | ⟨o,ha⟩) | ha
   ·exact .inl (.inl (by rw [ac (mn ha hx (by intro z;cases z))];exact ha))
   ·exact .inl (.inr ⟨o,by rw [ac (mn ha hx (by intro z;cases z))];exact ha⟩)
   ·exact .inr ha
  have hk:IsD K (upd H x (.ins ad.WordRow dx (lY l (p+1)))) (.tup [.str (am ts p).1,kDt (am ts p).2]) (.ref a):=.tup ha' (.cons .str (.cons (by cases (am ts p).2 <;> constructor) .nil));refine ⟨_,rfl,_,_,_,hk,rfl,rfl,fun v2 hv2=>?_⟩;have e2:v2=kV (am ts p).2:=by
   revert hv2
   generalize (am ts p).2=k
   intro hv2
   cases k <;> (cases hv2;rfl)
  rw [e2];exact q1 hs _ But.put hn
 ·exact xV (aJ hs) ⟨sz1,q2 hs⟩
def fY (K:W.Frag) (ad:Ads):Sp:=fun vs H Q E=>∃ (x l:Addr) (ts:List Tk) (p:Nat) (m:Str),vs=[.ref x,.str m]∧RowAt K ad.WordRow H x l ts p ∧
 (am ts p=aU m→∀ H',But x H H'→RowAt K ad.WordRow H' x l ts (p+1)→Q .non H')∧(¬ am ts p=aU m→∀ H',Same H H'→E (.ref ad.BadText) none H')
theorem aN (T:Tx K mg ad) {f:Addr} {fd:FuncData} (F:Mn K ad.WordRow "take_mark" "WordRow.take_mark" bY ["self","mark"] f fd):FnOk P w K mg base (CXE P w) 3 f fd ["self","mark"] (fY K ad):=by
 obtain ⟨_,_,HY⟩:=T.m_WordRow_comes;have IH:=cD (P:=P) (w:=w) (base:=base) T HY;refine F.F.okW gy (fun vs H Q E h=>?_) (fun cdv A outer s H vs Q E hr h=>?_)
 ·obtain ⟨x,l,ts,p,m,rfl,_⟩:=h
  rfl
 obtain ⟨x,l,ts,p,m,rfl,hR,q1,q2⟩:=h;refine ⟨_,(@pss_cons _ _ _ _ _ (@ps_if _ _ _ _ _ _ _ _ (@qp _ _ _ _ (@pt_val _ _ _ (pe_meth (pv 0) T.c_WordRow HY.meth IH (hr.mono (by first | decide | lia)) HY.b .nil jL (@pa1 _ _ _ (pv 1) (by rfl))) (by intro _;rfl))) (@pss_one _ _ _ (ps_raiseW rfl rfl rfl rfl T.x_BadText rfl (@pa1 _ _ _ pe_str (by rfl)))) pss_nil) (@pss_one _ _ _ (ps_fldaug (pv 0) pe_int ip_add))),?_⟩;obtain ⟨dx,ws,hx,hl,hp,hlx,h5⟩:=id hR;refine ⟨_,rfl,x,dx,_,rfl,hx,aC l p (by decide +kernel) (by decide +kernel),_,rfl,x,l,ts,p,m,rfl,hR,fun H1 g1=>?_⟩
 by_cases hs:am ts p=aU m
 ·rw [decide_eq_true hs];refine ⟨_,rfl,cg ⟨_,rfl,x,ad.WordRow,dx,_,_,rfl,g1 _ _ hx,T.c_WordRow,T.n_WordRow_place,hV l p,_,_,rfl,rfl,dx,_,g1 _ _ hx,(by show 2 < 1000;decide),?_⟩⟩;rw [pT,show (fun i j:Int=>i+j) (p:Int) 1=((p+1:Nat):Int) from (by show (p:Int)+1=_;lia)];exact q1 hs _ (fun b o nb eb=>by rw [ac nb];exact g1 _ _ eb) (.next (g1 _ _ hx) (g1 _ _ hl) (hp.same g1) hlx h5)
 ·rw [decide_eq_false hs];exact ⟨_,rfl,dY ⟨sz1,q2 hs H1 g1⟩⟩
inductive PR where
 | ok (v:Dt) (p:Nat)
 | err
 | out
def PR.bind (r:PR) (f:Dt→Nat→PR):PR:=match r with
 | .ok v p=>f v p
 | .err=>.err
 | .out=>.out
section
variable (ts:List Tk)
def df (s:Str) (p:Nat):PR:=if (am ts p).1=s then .ok (kDt (am ts p).2) (p+1) else .err
def dZ (m:Str) (p:Nat) (f:Nat→PR):PR:=if am ts p=aU m then f (p+1) else .err
def cM (rd:Nat→PR) (cl:Str):Nat→Nat→List Dt→PR
 | 0,_,_=>.out
 | n+1,p,fs=>if am ts p=aU cl then .ok (.tup fs) (p+1) else if 0 < fs.length then dZ ts "," p fun p1=>(rd p1).bind fun v q=>cM rd cl n q (fs++[v]) else (rd p).bind fun v q=>cM rd cl n q (fs++[v])
def fD (rd:Nat→PR) (cl:Str) (p:Nat):PR:=cM ts rd cl (ts.length+1) p []
def cN (rd:Str→Nat→PR):List Str→Nat→List Dt→PR
 | [],p,fs=>dZ ts ")" p fun q=>.ok (.tup fs) q
 | s :: r,p,fs=>if 1 < fs.length then dZ ts "," p fun p1=>(rd s p1).bind fun v q=>cN rd r q (fs++[v]) else (rd s p).bind fun v q=>cN rd r q (fs++[v])
end
abbrev vM:List (Str×List Str):=[("number",["number","number"]),("text",["number"]),("list",["number","kind"]),("rows",["word","number","kind"])]
abbrev vN:List (Str×List Str):=[("bounds",["number","number"]),("scale",["number"]),("shrink",["number"]),("figures",["number"]),("number",["number","number"]),("cut",["number"]),("first",["number"]),("one",["number"]),("out",[]),("items",["turn"])]
abbrev pieceF:List (Str×List Str):=[("put",["word","kind","value"]),("drop",["word","value"]),("name",["word","word"]),("sink",["word","word"]),("lift",["word","word"]),("turn",["word","turn"]),("split",["word","text","word","word"]),("join",["word","word","text","word"]),("part",["word","number","word","word"]),("whole",["word","word","number","word","number","number"])]
def dh (k:Str):List (Str×List Str)→Option (List Str)
 | []=>none
 | (x,b) :: D=>if k=x then some b else dh k D
def aK (s w:Str):Option (List Str):=if s= "kind" then dh w vM else if s= "turn" then dh w vN else dh w pieceF
theorem pU {k:Str}:∀ {D:List (Str×Addr)} {F:List (Str×List Str)},D.map (·.1)=F.map (·.1)→(fQ k D=none∧dh k F=none)∨∃ b fs,fQ k D=some b∧dh k F=some fs∧(b,fs)∈(D.map (·.2)).zip (F.map (·.2))
 | [],[],_=>.inl ⟨rfl,rfl⟩
 | (x,b) :: D,(y,fs) :: F,h=>by
  have h':x=y∧D.map (·.1)=F.map (·.1):=by simpa using h
  obtain ⟨rfl,h'⟩:=h'
  by_cases e:k=x
  ·exact .inr ⟨b,fs,by simp [fQ,e],by simp [dh,e],by simp⟩
  ·rcases pU (k:=k) h' with ⟨h1,h2⟩ | ⟨b',fs',h1,h2,h3⟩
   ·exact .inl ⟨by simp [fQ,e,h1],by simp [dh,e,h2]⟩
   ·exact .inr ⟨b',fs',by simp [fQ,e,h1],by simp [dh,e,h2],by
     rw [aAo,aAo,aBc];exact aAg _ h3⟩
def j5 (K:W.Frag) (_:Ads):Sp:=fun vs H Q _=>∃ s w:Str,vs=[.str s,.str w]∧(match aK s w with
 | none=>Q .non H
 | some fs=>∀ b,(∀ H',SqT K H' b (fs.map V.str))→Q (.ref b) H)
theorem nU {D:List (Str×Addr)} {F:List (Str×List Str)} {S:List (Addr×List Str)} {w:Str} {H:Hp} {Q:VK} (hS:kO K S) (e1:D.map (·.1)=F.map (·.1)) (e2:(D.map (·.2)).zip (F.map (·.2))=S)
  (q:match dh w F with
   | none=>Q .non H
   | some fs=>∀ b,(∀ H',SqT K H' b (fs.map V.str))→Q (.ref b) H):Q (match fQ w D with | some b=>.ref b | none=>.non) H:=by
 rcases pU (k:=w) e1 with ⟨h1,h2⟩ | ⟨b,fs,h1,h2,h3⟩
 ·rw [h2] at q;rw [h1];exact q
 ·rw [h2] at q;rw [h1];rw [e2] at h3;exact q b fun H'=>hS _ h3 H'
theorem fE (T:Tx K mg ad) {f:Addr} {fd:FuncData} (F:Gn K mg "parts_behind" dR ["sort","word"] f fd):FnOk P w K mg base CX0 1 f fd ["sort","word"] (j5 K ad):=by
 obtain ⟨c_KIND_PARTS,d_KIND_PARTS,s_KIND_PARTS⟩:=T.KIND_PARTS;obtain ⟨c_TURN_PARTS,d_TURN_PARTS,s_TURN_PARTS⟩:=T.TURN_PARTS;obtain ⟨c_PIECE_PARTS,d_PIECE_PARTS,s_PIECE_PARTS⟩:=T.PIECE_PARTS;refine F.F.ok j8 (fun vs H Q E h=>?_) (fun cdv A outer s H vs Q E hr h=>?_)
 ·obtain ⟨s,w,rfl,_⟩:=h
  rfl
 obtain ⟨s,w,rfl,q⟩:=h;refine ⟨_,(@pss_cons _ _ _ _ _ (@ps_if _ _ _ _ _ _ _ _ (pt_cmpR op_eq (pv 0) pe_str (nomark _)) (@pss_one _ _ _ (@ps_ret _ _ _ _ (kR d_KIND_PARTS rfl c_KIND_PARTS (@pa1 _ _ _ (pv 1) (by rfl))))) pss_nil) (@pss_cons _ _ _ _ _ (@ps_if _ _ _ _ _ _ _ _ (pt_cmpR op_eq (pv 0) pe_str (nomark _)) (@pss_one _ _ _ (@ps_ret _ _ _ _ (kR d_TURN_PARTS rfl c_TURN_PARTS (@pa1 _ _ _ (pv 1) (by rfl))))) pss_nil) (@pss_one _ _ _ (@ps_ret _ _ _ _ (kR d_PIECE_PARTS rfl c_PIECE_PARTS (@pa1 _ _ _ (pv 1) (by rfl))))))),?_⟩;unfold aK at q;refine ⟨_,rfl,rfl,_,rfl,?_⟩
 by_cases h1:s= "kind"
 ·rw [if_pos h1] at q;subst h1;exact bW ⟨_,rfl,w,rfl,nU s_KIND_PARTS rfl rfl q⟩
 rw [if_neg h1] at q;refine bj (aJ h1) ⟨_,rfl,rfl,_,rfl,?_⟩
 by_cases h2:s= "turn"
 ·rw [if_pos h2] at q;subst h2;exact bW ⟨_,rfl,w,rfl,nU s_TURN_PARTS rfl rfl q⟩
 rw [if_neg h2] at q;exact bj (aJ h2) ⟨_,rfl,w,rfl,nU s_PIECE_PARTS rfl rfl q⟩
def Rdd (K:W.Frag) (ad:Ads) (x l:Addr) (ts:List Tk) (H:Hp) (Q:VK) (E:XK) (r:PR):Prop:=match r with
 | .ok v q=>∀ y H',But x H H'→RowAt K ad.WordRow H' x l ts q→IsP K H' v y→Q y H'
 | .err=>∀ H',But x H H'→E (.ref ad.BadText) none H'
 | .out=>False
theorem Rdd.but {K:W.Frag} {ad:Ads} {x l:Addr} {ts:List Tk} {H H1:Hp} {Q:VK} {E:XK} {r:PR} (h:Rdd K ad x l ts H Q E r) (g:But x H H1):Rdd K ad x l ts H1 Q E r:=by
 cases r with
 | ok v q=>exact fun y H' g'=>h y H' (g.trans g')
 | err=>exact fun H' g'=>h H' (g.trans g')
 | out=>exact h
def j6 (K:W.Frag) (ad:Ads):Sp:=fun vs H Q E=>∃ (l:List Dt) (y:V),vs=[y]∧IsP K H (.tup l) y∧l.length≤100000∧(l≠[]→Q y H)∧(l=[]→E (.ref ad.BadText) none H)
theorem fF (T:Tx K mg ad) {f:Addr} {fd:FuncData} (F:Gn K mg "at_least_one" dS ["parts"] f fd):FnOk P w K mg base (CXE P w) 1 f fd ["parts"] (j6 K ad):=by
 refine F.F.okW j9 (fun vs H Q E h=>?_) (fun cdv A outer s H vs Q E hr h=>?_)
 ·obtain ⟨l,y,rfl,_⟩:=h
  rfl
 obtain ⟨l,y,rfl,hy,hl,q1,q2⟩:=h;refine ⟨_,(@pss_cons _ _ _ _ _ (@ps_if _ _ _ _ _ _ _ _ (pt_cmpR op_eq (pe_callB (kM (K:=K) rfl) rfl T.z_len PySem.boot_len (@pa1 _ _ _ (pv 0) (by rfl))) pe_int (nomark _)) (@pss_one _ _ _ (ps_raiseW rfl rfl rfl rfl T.x_BadText rfl (@pa1 _ _ _ pe_str (by rfl)))) pss_nil) (@pss_one _ _ _ (@ps_ret _ _ _ _ (pv 0)))),?_⟩;refine ⟨_,rfl,_,_,rfl,hy.d,rfl,_,rfl,?_⟩
 cases l with
 | nil=>exact bW ⟨sz1,q2 rfl⟩
 | cons a l=>exact bj (fun c=>by injection c with c;simp at c;lia) ⟨_,rfl,q1 (by simp)⟩
def okT (z:Str):Prop:=∀ c∈z.cps.toList,okC c=true
theorem sA (a b:Str):(a++b).cps.toList=a.cps.toList++b.cps.toList:=aBx
theorem le {c:Nat}:∀ {zs:List Str},c∈(Str.join (Str.ofString "") zs).cps.toList→∃ z∈zs,c∈z.cps.toList
 | [],h=>by
  have h':c∈([]:List Nat):=h
  cases h'
 | [x],h=>⟨x,aAi,h⟩
 | x :: y :: r,h=>by
  have h':c∈(x++Str.ofString "" ++Str.join (Str.ofString "") (y :: r)).cps.toList:=h;rw [sA,sA] at h';rcases aAG.mp h' with h1 | h1
  ·rcases aAG.mp h1 with h2 | h2
   ·exact ⟨x,aAi,h2⟩
   ·have h3:c∈([]:List Nat):=h2
    cases h3
  ·obtain ⟨z,hz,hc⟩:=le h1;exact ⟨z,aAg _ hz,hc⟩
theorem vO {zs:List Str} (h:∀ z∈zs,okT z):okT (Txt.join (Str.ofString "") zs):=by
 intro c hc;have hc':c∈(Builtin.Str.glued (Str.ofString "") zs).cps.toList:=hc;rw [StrLaws.glued_eq_join] at hc';obtain ⟨z,hz,h1⟩:=le hc';exact h z hz c h1
abbrev signsL:Str:= "ab Z09-,.:;/()[]{}'!~"
theorem vP:∀ c∈signsL.cps.toList,okC c=true:=by decide +kernel
theorem jq:signsL.length=21:=by decide +kernel
theorem x8 {z:Str} {d:Int} (h0:0≤d) (h1:d < (z.length:Int)):∃ c,c∈z.cps.toList∧atI z.cps.toList d=some c:=kW (xs:=z.cps.toList) (d:=d) h0 (by simpa [Str.length] using h1)
inductive I_sp_law_text    (vs:List V) (H:Hp) (Q:VK):Prop
 | mk (r:Addr) (c i:Int):(vs=[.ref r,.int i])→(H r=some (.lst [.int c]))→(0≤i)→(i≤60)→(∀ z c' H',But r H H'→H' r=some (.lst [.int c'])→(z.length:Int)≤i→okT z→Q (.str z) H')→I_sp_law_text  vs H Q
def jP (_:W.Frag) (_:Ads)  : Sp:=fun vs H Q _=>I_sp_law_text  vs H Q
theorem jQ (T:Tx K mg ad) {f:Addr} {fd:FuncData} (F:Gn K mg "_law_text" fm ["row","most"] f fd):FnOk P w K mg base CX0 2 f fd ["row","most"] (jP K ad):=by
 obtain ⟨_,_,HM⟩:=T.law_digit;have HN:=aE (P:=P) (w:=w) (base:=base) T HM;refine F.F.ok jV (fun vs H Q E h=>?_) (fun cdv A outer s H vs Q E hr h=>?_)
 ·obtain ⟨r,c,i,rfl,_⟩:=h
  rfl
 obtain ⟨r,c,i,rfl,hr0,h1,h2,q⟩:=h;refine ⟨_,(@pss_cons _ _ _ _ _ (@ps_set _ _ 2 _ _ _ _ jV.nd rfl (Or.inr rfl) pe_str (by rfl) (.inl rfl)) (@pss_one _ _ _ (@ps_ret _ _ _ _ (pe_bm PySem.F.plainAttrs_str PySem.F.slot_str_join PySem.F.type_str_join fR pe_str (@pa1 _ _ _ (pe_comp rfl (csR (sc:=ae fm) (NL:=["k"]) (N:=["row","most","signs"]) (ρ:=[0,2]) (N':=["k","row","signs"]) rfl rfl rfl (by decide +kernel) (by decide +kernel) (by decide +kernel) rfl (by decide +kernel)) (bf rfl T.z_range (@pa1 _ _ _ (pcl HM HN (hr.mono (by lia)) rfl (@pa2 _ _ _ _ _ (pv 0) (@pe_op _ _ _ _ _ _ _ _ aS (pv 1) pe_int) (by rfl) (by rfl))) (by rfl))) (fun _ _ _ _=>(ai (i:=0) (show List.Nodup (α:=Str) ["k","row","signs"] by decide +kernel) rfl (Or.inl rfl))) (fun _ _ _ _=>(@pe_ix _ _ _ _ _ _ _ ix_str (pv 2) (pcl HM HN (hr.mono (by lia)) rfl (@pa2 _ _ _ _ _ (pv 1) (pe_callB cu rfl T.z_len PySem.boot_len (@pa1 _ _ _ (pv 2) (by rfl))) (by rfl) (by rfl))) (fun _ _=>rfl)))) (by rfl)))))),?_⟩;obtain ⟨d0,d1⟩:=mod_lt c (m:=i+1) (by lia);refine ⟨rfl,_,rfl,_,rfl,_,_,rfl,rfl,r,c,_,rfl,hr0,by lia,by lia,_,rfl,by lia,by lia,fun l hln=>?_⟩;have b0:But r H (upd H r (.lst [.int (c / (i+1))])):=But.put;have nlr:r≠l:=ah aa hln;have lH:H l=none:=by rw [ac nlr.symm] at hln;exact hln
 refine bi (lo:=0) (n:=(c % (i+1)).toNat) (fun j ys σ H'=>∃ (zs:List Str) (c':Int),But r H H'∧H' r=some (.lst [.int c'])∧H' l=some (.lst ys)∧ys=zs.map V.str∧(∀ z∈zs,z.length=1∧okT z)∧zs.length=j∧∃ v1,σ=[v1,some (.ref r),some (.str signsL)])
  ⟨[],_,b0.trans (But.same (ag hln _)),(by rw [ac nlr];exact aa),aa,rfl,(by intro z hz;cases hz),rfl,none,rfl⟩ ?_ ?_
 ·rintro j ys σ H1 N hj ⟨zs,c',b1,e1,e2,rfl,hz,hle,v1,rfl⟩ next;obtain ⟨g0,g1⟩:=mod_lt c' (m:=((signsL.length:Nat):Int)) (by rw [jq];decide);obtain ⟨ch,hm,hc⟩:=x8 (z:=signsL) g0 g1;refine ⟨_,rfl,_,rfl,_,rfl,_,rfl,(by decide +kernel),r,c',_,rfl,e1,by rw [jq];decide,by rw [jq];decide,_,_,_,rfl,rfl,(by decide +kernel),hc,?_⟩;have e3:(upd H1 r (.lst [.int (c' / ((signsL.length:Nat):Int))])) l=some (.lst (zs.map V.str)):=by rw [ac nlr.symm];exact e2
  refine ⟨e3,(by rw [aAa];exact av (by lia)),next _ _ _ ⟨zs++[⟨#[ch]⟩],_,fun x o nx ex=>?_,(by rw [ac nlr];exact aa),aa,(by rw [aAt];rfl),fun z hz'=>?_,(by rw [aAc,hle];rfl),_,rfl⟩⟩
  ·rw [ac (ah ex lH),ac nx];exact b1 x o nx ex
  ·rcases aAG.mp hz' with h3 | h3
   ·exact hz z h3
   ·obtain rfl:=aAq.mp h3;refine ⟨rfl,fun c hc'=>?_⟩;obtain rfl:c=ch:=by simpa using hc'
    exact vP c hm
 ·intro ys σ H1 hI9;obtain ⟨zs,c',b1,e1,e2,rfl,hz,hle,v1,rfl⟩:=hI9;have s1:∀ l:List Str,(∀ z∈l,z.length=1)→(l.map (·.length)).sum=l.length:=by
   intro l
   induction l with
   | nil=>intro _;rfl
   | cons z l ih =>
    intro h;rw [aAo,aAW,ih fun x hx=>h x (aAg _ hx),h z aAi,aAb];lia
  have s2:=s1 zs fun z h=>(hz z h).1;refine ⟨_,l,zs,rfl,rfl,.inl (SqL.of e2),(by rw [show (Str.ofString "").length=0 from rfl];lia),?_⟩;refine q _ c' H1 b1 e1 ?_ (vO fun z h=>(hz z h).2);rw [W.KT.join_ones zs fun z h=>(hz z h).1];lia
section
variable (ts:List Tk)
def gR (p:Nat) (f:Str→Nat→PR):PR:=match am ts p with
 | (w,.inr s)=>if w= "word" then f s (p+1) else .err
 | (_,.inl _)=>.err
def gS (rd:Str→Nat→PR) (s w:Str) (p:Nat):PR:=match aK s w with
 | none=>.err
 | some fs=>dZ ts "(" p fun q=>cN ts rd fs q [.str w]
def cV (rd:Str→Nat→PR) (p:Nat):PR :=
 if am ts p=aU "[" then (fD ts (rd "value") "]" (p+1)).bind fun v q=>.ok (mk2 "list" v) q
 else if am ts p=aU "{" then (fD ts (rd "entry") "}" (p+1)).bind fun v q=>.ok (mk2 "record" v) q
 else if am ts p=aU "(" then (fD ts (rd "value") ")" (p+1)).bind fun v q=>.ok (mk2 "rows" v) q
 else if (am ts p).1= "number" then df ts "number" p else df ts "text" p
def jR (rd:Str→Nat→PR) (s:Str) (p:Nat):PR:=gR ts p fun w q=>dZ ts ":" q fun q=>(rd s q).bind fun v r=>.ok (.tup [.str w,v]) r
def ex2:List Dt→List Dt
 | [a,b]=>[b,a]
 | [a,b,c]=>[a,c,b]
 | l=>l
def exL (w:Str) (ds:List Dt):List Dt:=if w= "list" ∨w= "rows" then ex2 ds else ds
def exD:Dt→Dt
 | .tup (.str w :: ds)=>.tup (.str w :: exL w ds)
 | d=>d
def mQ (rd:Str→Nat→PR) (p:Nat):PR:=gR ts p fun w q =>
 if w= "choice" then dZ ts "(" q fun q=>(fD ts (rd "word") ")" q).bind fun v r=>(match v with
  | .tup []=>.err
  | v=>.ok (.tup [.str w,v]) r)
 else if w= "record" then dZ ts "(" q fun q=>(fD ts (rd "field") ")" q).bind fun v r=>.ok (.tup [.str w,v]) r
 else (gS ts rd "kind" w q).bind fun v r=>.ok (exD v) r
def mR (rd:Str→Nat→PR) (p:Nat):PR:=gR ts p fun w q=>if w= "words" then dZ ts "(" q fun q=>(fD ts (rd "word") ";" q).bind fun v r=>(match v with
  | .tup []=>.err
  | v=>(fD ts (rd "way") ")" r).bind fun v2 r2=>(match v2 with
   | .tup []=>.err
   | v2=>.ok (.tup [.str w,v,v2]) r2))
 else gS ts rd "turn" w q
abbrev sC:List (Str×Str):=[("field","kind"),("entry","value"),("way","word")]
def prs:Nat→Str→Nat→PR
 | n+3,s,p=>if s= "value" then cV ts (prs n) p else if s= "kind" then mQ ts (prs n) p else if s= "turn" then mR ts (prs n) p
  else if s= "piece" then gR ts p fun w q=>gS ts (prs n) "piece" w q else if s= "path" then .out else if s= "change" then .out
  else match fS s sC with
   | some s'=>jR ts (prs (n+1)) s' p
   | none=>df ts s p
 | _,_,_=>.out
end
def lh (K:W.Frag) (ad:Ads) (n:Nat):Sp:=fun vs H Q E=>∃ (x lw:Addr) (ts:List Tk) (p:Nat) (s:Str),vs=[.ref x,.str s]∧RowAt K ad.WordRow H x lw ts p∧Rdd K ad x lw ts H Q E (prs ts n s p)
def sD (K:W.Frag) (ad:Ads) (n:Nat):Sp:=fun vs H Q E=>∃ (x lw:Addr) (ts:List Tk) (p:Nat) (s c:Str),vs=[.ref x,.str s,.str c]∧RowAt K ad.WordRow H x lw ts p∧Rdd K ad x lw ts H Q E (fD ts (prs ts n s) c p)
theorem Rdd.step {K:W.Frag} {ad:Ads} {x lw:Addr} {ts:List Tk} {H H3:Hp} {Q Q':VK} {E:XK} {r:PR} {f:Dt→Nat→PR} (q:Rdd K ad x lw ts H Q E (r.bind f)) (b:But x H H3)
  (k:∀ v p y H4,But x H3 H4→RowAt K ad.WordRow H4 x lw ts p→IsP K H4 v y→Rdd K ad x lw ts H Q E (f v p)→Q' y H4):Rdd K ad x lw ts H3 Q' E r:=by
 cases r with
 | ok v p=>exact fun y H4 b4 hR hv=>k v p y H4 b4 hR hv q
 | err=>exact fun H4 b4=>q H4 (b.trans b4)
 | out=>exact q
theorem aF {ts:List Tk} {m:Str} {p:Nat} {f:Nat→PR} (h:am ts p=aU m):dZ ts m p f=f (p+1):=if_pos h
theorem cO {ts:List Tk} {m:Str} {p:Nat} {f:Nat→PR} (h:¬ am ts p=aU m):dZ ts m p f=.err:=if_neg h
theorem RowAt.mut {K:W.Frag} {C:Addr} {H:Hp} {x lw:Addr} {ts:List Tk} {p:Nat} (h:RowAt K C H x lw ts p):Mut (H x):=by
 obtain ⟨dx,ws,hx,_⟩:=h;rw [hx];exact True.intro
theorem RowAt.put {K:W.Frag} {C:Addr} {H:Hp} {x lw l:Addr} {ts:List Tk} {p:Nat} {zs:List V} (h:RowAt K C H x lw ts p) (hl:H l=some (.lst zs)) (ys:List V) (no:lw≠l):RowAt K C (upd H l (.lst ys)) x lw ts p:=by
 obtain ⟨dx,ws,hx,h0,hp,hlx,h5⟩:=h;have nx:x≠l:=mn hx hl (by intro c;cases c);exact ⟨dx,ws,by rw [ac nx];exact hx,by rw [ac no];exact h0,hp.but hl But.put,hlx,h5⟩
theorem nV (T:Tx K mg ad) (n:Nat) {f fp:Addr} {fd fdp:FuncData} (F:Gn K mg "list_read" cr ["row","sort","closing"] f fd) (HS:Gn K mg "part_read" bO ["row","sort"] fp fdp)
  (Ij:FnOk P w K mg base (CXE P w) (n+4) fp fdp ["row","sort"] (lh K ad n)):FnOk P w K mg base (CXE P w) (n+4+1) f fd ["row","sort","closing"] (sD K ad n):=by
 obtain ⟨f1,d1,HY⟩:=T.m_WordRow_comes;have IH:=cD (P:=P) (w:=w) (base:=base) T HY;obtain ⟨f2,d2,HP⟩:=T.m_WordRow_take_mark;have HR:=aN (P:=P) (w:=w) (base:=base) T HP;refine F.F.okW i4 (fun vs H Q E h=>?_) (fun cdv A outer s H vs Q E hr h=>?_)
 ·obtain ⟨x,lw,ts,p,s,c,rfl,_⟩:=h
  rfl
 obtain ⟨x,lw,ts,p,s,c,rfl,hR,q⟩:=h;refine ⟨_,(@pss_cons _ _ _ _ _ (@ps_set _ _ 3 _ _ _ _ i4.nd rfl (Or.inl rfl) (@pe_lst _ _ _ _ pa_nil) (by rfl) (.inl rfl)) (@pss_cons _ _ _ _ _ (rR fun ok=>kq (iA ok.frames rfl ok.frf) (@qp _ _ _ _ (@pt_val _ _ _ (pe_meth (pv 0) T.c_WordRow HY.meth IH (hr.mono (by first | decide | lia)) HY.b .nil jL (@pa1 _ _ _ (pv 2) (by rfl))) (by intro _;rfl)))
    (@pss_cons _ _ _ _ _ (@ps_if _ _ _ _ _ _ _ _ (pt_cmpR mo (pe_callB (bp (K:=K) rfl) rfl T.z_len PySem.boot_len (@pa1 _ _ _ (pv 3) (by rfl))) pe_int (nomark _)) (@pss_one _ _ _ (@ps_expr _ _ _ _ (pe_meth (pv 0) T.c_WordRow HP.meth HR (hr.mono (by first | decide | lia)) HP.b .nil (wing_on rfl rfl rfl) (@pa1 _ _ _ pe_str (by rfl))) (by rfl))) pss_nil) (@pss_one _ _ _ (@ps_expr _ _ _ _ (pe_bm PySem.F.plainAttrs_list PySem.F.slot_list_append PySem.F.type_list_append bP (pv 3) (@pa1 _ _ _ (pe_call Ij (hr.mono (by first | decide | lia)) rfl HS.m HS.F.kp HS.b .nil (wing_on rfl rfl rfl) (@pa2 _ _ _ _ _ (pv 0) (pv 1) (by rfl) (by rfl))) (by rfl))) (by rfl))))) (@pss_cons _ _ _ _ _ (@ps_expr _ _ _ _ (pe_meth (pv 0) T.c_WordRow HP.meth HR (hr.mono (by first | decide | lia)) HP.b .nil (wing_on rfl rfl rfl) (@pa1 _ _ _ (pv 2) (by rfl))) (by rfl)) (@pss_one _ _ _ (@ps_ret _ _ _ _ (pe_callTy (aZ (K:=K) rfl) rfl T.z_tuple boot_tuple (@pa1 _ _ _ (pv 3) (by rfl)))))))),?_⟩
 refine ⟨(by show 0≤sizeLine;decide),fun l hl=>?_⟩;have hxl:l≠x:=by
  obtain ⟨dx,_,hx,_⟩:=hR;exact fun c=>by rw [c,hx] at hl;cases hl
 have hwl:lw≠l:=by
  obtain ⟨dx,_,_,h0,_⟩:=hR;exact ah h0 hl
 refine ⟨fun m σ H'=>∃ (p':Nat) (fs:List Dt) (ys:List V),But x H H'∧RowAt K ad.WordRow H' x lw ts p'∧H' l=some (.lst ys)∧IsPs K H' fs ys∧fs.length+m≤ts.length+1∧Rdd K ad x lw ts H Q E (cM ts (prs ts n s) c m p' fs)∧σ=[some (.ref x),some (.str s),some (.str c),some (.ref l)],
  ⟨ts.length+1,p,[],[],But.same (ag hl _),hR.same (ag hl _),aa,.nil,aBK (Nat.zero_add _),q,rfl⟩,?_⟩
 rintro m σ H1 ⟨p',fs,ys,b1,hR1,f1',hp,hm,q1,rfl⟩
 cases m with
 | zero=>exact q1.elim
 | succ m =>
 obtain ⟨dx,ws,hx,hl0,hp0,hlx0,h5⟩:=id hR1;have ly:=hp.length;refine ⟨_,rfl,x,dx,_,rfl,hx,aC lw p' (by decide +kernel) (by decide +kernel),_,rfl,x,lw,ts,p',c,rfl,hR1,fun H2 g2=>?_⟩;have R2:=hR1.same g2;have f2':=g2 _ _ f1';have hp2:=hp.same g2
 by_cases hc:am ts p'=aU c
 ·rw [decide_eq_true hc];simp only [cM] at q1;rw [if_pos hc] at q1;refine ⟨_,rfl,cg ⟨_,rfl,x,dx,_,rfl,g2 _ _ hx,aC lw p' (by decide +kernel) (by decide +kernel),_,rfl,x,lw,ts,p',c,rfl,R2,fun _ H3 b3 hR3=>?_,fun h=>absurd hc h⟩⟩;refine ⟨_,rfl,l,ys,_,rfl,SqL.of (b3 _ _ hxl f2'),bC R2.mut b3 hp2,fun v H4 g4 hv=>?_⟩;exact q1 v H4 (((b1.trans (But.same g2)).trans b3).trans (But.same g4)) (hR3.same g4) hv
 ·rw [decide_eq_false hc];simp only [cM] at q1;rw [if_neg hc] at q1;refine ⟨_,rfl,dY ⟨fun σ' H'=>∃ (p':Nat) (fs:List Dt) (ys:List V),But x H H'∧RowAt K ad.WordRow H' x lw ts p'∧H' l=some (.lst ys)∧IsPs K H' fs ys∧fs.length+m≤ts.length+1∧Rdd K ad x lw ts H Q E (cM ts (prs ts n s) c m p' fs)∧σ'=[some (.ref x),some (.str s),some (.str c),some (.ref l)],fun σ' H' r=>⟨m,by lia,r⟩,?_⟩⟩;refine ⟨_,rfl,l,_,rfl,.inl (SqL.of f2'),_,_,rfl,rfl,_,rfl,?_⟩;have b2:But x H H2:=b1.trans (But.same g2);refine be (fun c0=>?_) (fun c0=>?_)
  ·have pos:0 < fs.length:=by have:=of_decide_eq_true c0;lia
   rw [if_pos pos] at q1;refine ⟨_,rfl,x,dx,_,rfl,g2 _ _ hx,aC lw p' (by decide +kernel) (by decide +kernel),x,lw,ts,p',",",rfl,R2,fun hcm H3 b3 R3=>?_,fun hcm H3 g3=>?_⟩
   ·rw [aF hcm] at q1;refine ⟨_,rfl,.inl ⟨rfl,_,SqL.of (b3 _ _ hxl f2')⟩,_,rfl,_,rfl,x,lw,ts,p' + 1,s,rfl,R3,q1.step (b2.trans b3) fun v p4 y H4 b4 R4 hv q4=>?_⟩;have f4:=b4 _ _ hxl (b3 _ _ hxl f2');refine ⟨l,ys,y,rfl,rfl,f4,aAj (show ys.length < 100001 by have:=h5.1;lia) (by decide),p4,fs++[v],ys++[y],fun b o nb eb=>?_,R4.put f4 _ hwl,aa,((bC R3.mut b4 (bC R2.mut b3 hp2)).but f4 But.put).append (.cons (hv.but f4 But.put) .nil),by rw [aAc];simp only [aAb,aAn];lia,q4,rfl⟩;rw [ac (ah eb hl)];exact b4 _ _ nb ((b2.trans b3) _ _ nb eb)
   ·rw [cO hcm] at q1;exact q1 H3 (b2.trans (But.same g3))
  ·have pos:¬ 0 < fs.length:=fun h=>c0 (decide_eq_true (by lia));rw [if_neg pos] at q1;refine ⟨_,rfl,.inl ⟨rfl,_,SqL.of f2'⟩,_,rfl,_,rfl,x,lw,ts,p',s,rfl,R2,q1.step b2 fun v p4 y H4 b4 R4 hv q4=>?_⟩;have f4:=b4 _ _ hxl f2';refine ⟨l,ys,y,rfl,rfl,f4,aAj (show ys.length < 100001 by have:=h5.1;lia) (by decide),p4,fs++[v],ys++[y],fun b o nb eb=>?_,R4.put f4 _ hwl,aa,((bC R2.mut b4 hp2).but f4 But.put).append (.cons (hv.but f4 But.put) .nil),by rw [aAc];simp only [aAb,aAn];lia,q4,rfl⟩;rw [ac (ah eb hl)];exact b4 _ _ nb (b2 _ _ nb eb)
def vQ (K:W.Frag) (ad:Ads) (n:Nat):Sp:=fun vs H Q E=>∃ (x lw:Addr) (ts:List Tk) (p:Nat) (s w:Str),vs=[.ref x,.str s,.str w]∧RowAt K ad.WordRow H x lw ts p∧Rdd K ad x lw ts H Q E (gS ts (prs ts n) s w p)
theorem nW (T:Tx K mg ad) (n:Nat) {f fp:Addr} {fd fdp:FuncData} (F:Gn K mg "form_read" cS ["row","sort","word"] f fd) (HS:Gn K mg "part_read" bO ["row","sort"] fp fdp)
  (Ij:FnOk P w K mg base (CXE P w) (n+4) fp fdp ["row","sort"] (lh K ad n)):FnOk P w K mg base (CXE P w) (n+4+1) f fd ["row","sort","word"] (vQ K ad n):=by
 obtain ⟨f1,d1,IP⟩:=T.parts_behind;have Ja:=fE (P:=P) (w:=w) (base:=base) T IP;obtain ⟨f2,d2,HP⟩:=T.m_WordRow_take_mark;have HR:=aN (P:=P) (w:=w) (base:=base) T HP;refine F.F.okW dr (fun vs H Q E h=>?_) (fun cdv A outer s H vs Q E hr h=>?_)
 ·obtain ⟨x,lw,ts,p,s,w,rfl,_⟩:=h
  rfl
 obtain ⟨x,lw,ts,p,s,wd,rfl,hR,q⟩:=h;refine ⟨_,(@pss_cons _ _ _ _ _ (@ps_set _ _ 3 _ _ _ _ dr.nd rfl (Or.inl rfl) (pcl IP Ja (hr.mono (by lia)) rfl (@pa2 _ _ _ _ _ (pv 1) (pv 2) (by rfl) (by rfl))) (by rfl) (.inl rfl)) (@pss_cons _ _ _ _ _ (@ps_if _ _ _ _ _ _ _ _ (pt_cmpR uE (pv 3) pe_non (nomark _)) (@pss_one _ _ _ (ps_raiseW rfl rfl rfl rfl T.x_BadText rfl (@pa1 _ _ _ pe_str (by rfl)))) pss_nil) (@pss_cons _ _ _ _ _ (@ps_expr _ _ _ _ (pe_meth (pv 0) T.c_WordRow HP.meth HR (hr.mono (by first | decide | lia)) HP.b .nil (wing_on rfl rfl rfl) (@pa1 _ _ _ pe_str (by rfl))) (by rfl)) (@pss_cons _ _ _ _ _ (@ps_set _ _ 4 _ _ _ _ dr.nd rfl (Or.inl rfl) (@pe_lst _ _ _ _ (@pa1 _ _ _ (pv 2) (by rfl))) (by rfl) (.inl rfl)) (@pss_cons _ _ _ _ _ (rR fun ok=>ps_for (iA ok.frames rfl ok.frf) rfl (pi_tupN (K:=K) rfl (pv 3)) (ai (i:=5) dr.nd rfl (Or.inl rfl))
    (@pss_cons _ _ _ _ _ (@ps_if _ _ _ _ _ _ _ _ (pt_cmpR mo (pe_callB (bp (K:=K) rfl) rfl T.z_len PySem.boot_len (@pa1 _ _ _ (pv 4) (by rfl))) pe_int (nomark _)) (@pss_one _ _ _ (@ps_expr _ _ _ _ (pe_meth (pv 0) T.c_WordRow HP.meth HR (hr.mono (by first | decide | lia)) HP.b .nil (wing_on rfl rfl rfl) (@pa1 _ _ _ pe_str (by rfl))) (by rfl))) pss_nil) (@pss_one _ _ _ (@ps_expr _ _ _ _ (pe_bm PySem.F.plainAttrs_list PySem.F.slot_list_append PySem.F.type_list_append bP (pv 4) (@pa1 _ _ _ (pe_call Ij (hr.mono (by first | decide | lia)) rfl HS.m HS.F.kp HS.b .nil (wing_on rfl rfl rfl) (@pa2 _ _ _ _ _ (pv 0) (pv 5) (by rfl) (by rfl))) (by rfl))) (by rfl))))) (@pss_cons _ _ _ _ _ (@ps_expr _ _ _ _ (pe_meth (pv 0) T.c_WordRow HP.meth HR (hr.mono (by first | decide | lia)) HP.b .nil (wing_on rfl rfl rfl) (@pa1 _ _ _ pe_str (by rfl))) (by rfl)) (@pss_one _ _ _ (@ps_ret _ _ _ _ (pe_callTy (aZ (K:=K) rfl) rfl T.z_tuple boot_tuple (@pa1 _ _ _ (pv 4) (by rfl))))))))))),?_⟩
 obtain ⟨dx,ws,hx,hl0,hp0,hlx0,h5⟩:=id hR;refine ⟨_,rfl,_,rfl,s,wd,rfl,?_⟩;unfold gS at q
 cases hf:aK s wd with
 | none =>
  rw [hf] at q;exact ⟨_,rfl,rfl,_,rfl,bW ⟨sz1,q H (But.refl _ _)⟩⟩
 | some fs =>
  rw [hf] at q;intro b hb;refine ⟨_,rfl,rfl,_,rfl,bj (fun c=>by cases c) ?_⟩;dsimp only at q;refine ⟨_,rfl,x,dx,_,rfl,hx,aC lw p (by decide +kernel) (by decide +kernel),x,lw,ts,p,"(",rfl,hR,fun hcm H1 b1 R1=>?_,fun hcm H1 g1=>?_⟩
  rotate_left
  ·rw [cO hcm] at q;exact q H1 (But.same g1)
  rw [aF hcm] at q;refine ⟨_,rfl,sz1,fun l hl=>?_⟩;have hlH:H l=none:=by
   cases c:H l with
   | none=>rfl
   | some o =>
    by_cases e:l=x
    ·subst e;obtain ⟨dx1,_,hx1,_⟩:=R1;rw [hx1] at hl
     cases hl
    ·rw [b1 _ _ e c] at hl
     cases hl
  have hxl:l≠x:=fun c=>by rw [c,hx] at hlH;cases hlH
  have hwl:lw≠l:=ah hl0 hlH;refine ⟨_,rfl,b,rfl,⟨_,hb _⟩,dj (K:=K) (xs:=fs.map V.str) (fun i σ H'=>∃ (p':Nat) (gs:List Dt) (ys:List V) (v5:Option V),But x H H'∧RowAt K ad.WordRow H' x lw ts p'∧H' l=some (.lst ys)∧IsPs K H' gs ys∧gs.length=i+1∧Rdd K ad x lw ts H Q E (cN ts (prs ts n) (fs.drop i) p' gs)∧σ=[some (.ref x),some (.str s),some (.str wd),some (.ref b),some (.ref l),v5])
   ⟨p+1,[.str wd],[.str wd],_,b1.trans (But.same (ag hl _)),R1.same (ag hl _),aa,.cons .str .nil,rfl,q,rfl⟩ (fun i σ H' _ _=>hb H') ?_ ?_⟩
  ·rintro i y σ H2 hy ⟨p',gs,ys,v5,b2,R2,f2',hp2,hg,q2,rfl⟩;rw [aAf] at hy;obtain ⟨s',hs',rfl⟩:=aAh.mp hy;have hd:fs.drop i=s' :: fs.drop (i+1):=by
    obtain ⟨h1,h2⟩:=aAk.mp hs';rw [aA6 h1,h2]
   rw [hd] at q2;simp only [cN] at q2;have ly:=hp2.length;obtain ⟨dx2,ws2,hx2,_⟩:=id R2;have il:i < fs.length:=(aAk.mp hs').1;have fl:fs.length≤6:=by
    unfold aK at hf;have key:∀ (F:List (Str×List Str)) (w:Str) (l:List Str),(∀ q∈F,q.2.length≤6)→dh w F=some l→l.length≤6:=by
     intro F
     induction F with
     | nil=>intro w l _ h;cases h
     | cons a F ih =>
      intro w l h1 h2;simp only [dh] at h2
      split at h2
      ·cases h2;exact h1 a aAi
      ·exact ih w l (fun q hq=>h1 q (aAg _ hq)) h2
    split at hf
    ·exact key vM _ _ (by decide +kernel) hf
    split at hf
    ·exact key vN _ _ (by decide +kernel) hf
    ·exact key pieceF _ _ (by decide +kernel) hf
   refine ⟨_,rfl,l,_,rfl,.inl (SqL.of f2'),_,_,rfl,rfl,_,rfl,be (fun c0=>?_) (fun c0=>?_)⟩
   ·have pos:1 < gs.length:=by have:=of_decide_eq_true c0;lia
    rw [if_pos pos] at q2;refine ⟨_,rfl,x,dx2,_,rfl,hx2,aC lw p' (by decide +kernel) (by decide +kernel),x,lw,ts,p',",",rfl,R2,fun hcm H3 b3 R3=>?_,fun hcm H3 g3=>?_⟩
    ·rw [aF hcm] at q2;refine ⟨_,rfl,.inl ⟨rfl,_,SqL.of (b3 _ _ hxl f2')⟩,_,rfl,_,rfl,x,lw,ts,p' + 1,s',rfl,R3,q2.step (b2.trans b3) fun v p4 y H4 b4 R4 hv q4=>?_⟩;have f4:=b4 _ _ hxl (b3 _ _ hxl f2');refine ⟨l,ys,y,rfl,rfl,f4,av (by lia),p4,gs++[v],ys++[y],_,fun b o nb eb=>?_,R4.put f4 _ hwl,aa,((bC R3.mut b4 (bC R2.mut b3 hp2)).but f4 But.put).append (.cons (hv.but f4 But.put) .nil),by rw [aAc];simp only [aAb,aAn];lia,q4,rfl⟩;rw [ac (ah eb hlH)];exact b4 _ _ nb ((b2.trans b3) _ _ nb eb)
    ·rw [cO hcm] at q2;exact q2 H3 (b2.trans (But.same g3))
   ·have pos:¬ 1 < gs.length:=fun h=>c0 (decide_eq_true (by lia));rw [if_neg pos] at q2;refine ⟨_,rfl,.inl ⟨rfl,_,SqL.of f2'⟩,_,rfl,_,rfl,x,lw,ts,p',s',rfl,R2,q2.step b2 fun v p4 y H4 b4 R4 hv q4=>?_⟩;have f4:=b4 _ _ hxl f2';refine ⟨l,ys,y,rfl,rfl,f4,av (by lia),p4,gs++[v],ys++[y],_,fun b o nb eb=>?_,R4.put f4 _ hwl,aa,((bC R2.mut b4 hp2).but f4 But.put).append (.cons (hv.but f4 But.put) .nil),by rw [aAc];simp only [aAb,aAn];lia,q4,rfl⟩;rw [ac (ah eb hlH)];exact b4 _ _ nb (b2 _ _ nb eb)
  ·rintro σ H2 ⟨p',gs,ys,v5,b2,R2,f2',hp2,hg,q2,rfl⟩;rw [aAa,List.drop_length] at q2;simp only [cN] at q2;obtain ⟨dx2,ws2,hx2,_⟩:=id R2;refine ⟨_,rfl,x,dx2,_,rfl,hx2,aC lw p' (by decide +kernel) (by decide +kernel),x,lw,ts,p',")",rfl,R2,fun hcm H3 b3 R3=>?_,fun hcm H3 g3=>?_⟩
   ·rw [aF hcm] at q2;refine ⟨_,rfl,l,ys,_,rfl,SqL.of (b3 _ _ hxl f2'),bC R2.mut b3 hp2,fun v H4 g4 hv=>?_⟩;exact q2 v H4 ((b2.trans b3).trans (But.same g4)) (R3.same g4) hv
   ·rw [cO hcm] at q2;exact q2 H3 (b2.trans (But.same g3))
def HJ (K:W.Frag) (ad:Ads) (n:Nat):Sp:=fun vs H Q E=>∃ (x lw:Addr) (ts:List Tk) (p:Nat),vs=[.ref x]∧RowAt K ad.WordRow H x lw ts p∧Rdd K ad x lw ts H Q E (cV ts (prs ts n) p)
def brL:List (Str×Str×Str×Str):=[("[","list","value","]"),("{","record","entry","}"),("(","rows","value",")")]
theorem vR {ts:List Tk} {rd:Str→Nat→PR} {p i:Nat} {b:Str×Str×Str×Str} (hb:brL[i]?=some b) (no:∀ j a,j < i→brL[j]?=some a→¬ am ts p=aU a.1) (h:am ts p=aU b.1) :
  cV ts rd p=(fD ts (rd b.2.2.1) b.2.2.2 (p+1)).bind fun v q=>.ok (mk2 b.2.1 v) q:=by
 unfold cV
 match i,hb with
 | 0,hb=>cases hb;rw [if_pos h]
 | 1,hb=>cases hb;rw [if_neg (no 0 _ (by lia) rfl),if_pos h]
 | 2,hb=>cases hb;rw [if_neg (no 0 _ (by lia) rfl),if_neg (no 1 _ (by lia) rfl),if_pos h]
 | n+3,hb=>simp [brL] at hb
theorem vS {ts:List Tk} {rd:Str→Nat→PR} {p:Nat} (no:∀ j a,j < 3→brL[j]?=some a→¬ am ts p=aU a.1):cV ts rd p=if (am ts p).1= "number" then df ts "number" p else df ts "text" p:=by
 unfold cV;rw [if_neg (no 0 _ (by lia) rfl),if_neg (no 1 _ (by lia) rfl),if_neg (no 2 _ (by lia) rfl)]
theorem vT {K:W.Frag} {H:Hp} (k:Key):IsP K H (kDt k) (kV k):=by
 cases k with
 | inl i=>exact .int
 | inr z=>exact .str
theorem lZ (T:Tx K mg ad) (n:Nat) {f fl:Addr} {fd fdl:FuncData} (F:Gn K mg "value_read" fj ["row"] f fd) (HV:Gn K mg "list_read" cr ["row","sort","closing"] fl fdl)
  (Ik:FnOk P w K mg base (CXE P w) (n+4+1) fl fdl ["row","sort","closing"] (sD K ad n)):FnOk P w K mg base (CXE P w) (n+4+2) f fd ["row"] (HJ K ad n):=by
 obtain ⟨f1,d1,HY⟩:=T.m_WordRow_comes;have IH:=cD (P:=P) (w:=w) (base:=base) T HY;obtain ⟨f2,d2,HP⟩:=T.m_WordRow_take_mark;have HR:=aN (P:=P) (w:=w) (base:=base) T HP;obtain ⟨f3,d3,HQ⟩:=T.m_WordRow_take;have HZ:=bD (P:=P) (w:=w) (base:=base) T HQ;obtain ⟨f4,d4,HU⟩:=T.m_WordRow_coming;have Io:=bK (P:=P) (w:=w) (base:=base) T HU;obtain ⟨c_BRACKETED,tr,tt⟩:=T.BRACKETED;refine F.F.okW ca (fun vs H Q E h=>?_) (fun cdv A outer s H vs Q E hr h=>?_)
 ·obtain ⟨x,lw,ts,p,rfl,_⟩:=h
  rfl
 obtain ⟨x,lw,ts,p,rfl,hR,q⟩:=h;refine ⟨_,(@pss_cons _ _ _ _ _ (rR fun ok=>ps_for (iA ok.frames rfl ok.frf) rfl (pi_tupN (K:=K) rfl (iy rfl c_BRACKETED)) (ja rfl (aG (ai (i:=1) ca.nd rfl (Or.inl rfl)) (aG (ai (i:=2) ca.nd rfl (Or.inl rfl)) (aG (ai (i:=3) ca.nd rfl (Or.inl rfl)) (aG (ai (i:=4) ca.nd rfl (Or.inl rfl)) di)))))
    (@pss_one _ _ _ (@ps_if _ _ _ _ _ _ _ _ (@pt_val _ _ _ (pe_meth (pv 0) T.c_WordRow HY.meth IH (hr.mono (by first | decide | lia)) HY.b .nil jL (@pa1 _ _ _ (pv 1) (by rfl))) (by intro _;rfl)) (@pss_cons _ _ _ _ _ (@ps_expr _ _ _ _ (pe_meth (pv 0) T.c_WordRow HP.meth HR (hr.mono (by first | decide | lia)) HP.b .nil (wing_on rfl rfl rfl) (@pa1 _ _ _ (pv 1) (by rfl))) (by rfl)) (@pss_one _ _ _ (@ps_ret _ _ _ _ (@pe_tupPK _ K _ _ _ _ rfl (@pa2 _ _ _ _ _ (pv 2) (pe_call Ik (hr.mono (by first | decide | lia)) rfl HV.m HV.F.kp HV.b .nil (wing_on rfl rfl rfl) (@pa3 _ _ _ _ _ _ _ (pv 0) (pv 3) (pv 4) (by rfl) (by rfl) (by rfl))) (by rfl) (by rfl)))))) pss_nil))) (@pss_cons _ _ _ _ _ (@ps_if _ _ _ _ _ _ _ _ (pt_cmpR op_eq (@pe_ix _ _ _ _ _ _ _ (ix_tupDN (K:=K) rfl) (pe_meth (pv 0) T.c_WordRow HU.meth Io (hr.mono (by first | decide | lia)) HU.b .nil jL (@pa1 _ _ _ pe_int (by rfl))) pe_int (fun _ _=>rfl)) pe_str (nomark _)) (@pss_one _ _ _ (@ps_ret _ _ _ _ (pe_meth (pv 0) T.c_WordRow HQ.meth HZ (hr.mono (by first | decide | lia)) HQ.b .nil (wing_on rfl rfl rfl) (@pa1 _ _ _ pe_str (by rfl))))) pss_nil) (@pss_one _ _ _ (@ps_ret _ _ _ _ (pe_meth (pv 0) T.c_WordRow HQ.meth HZ (hr.mono (by first | decide | lia)) HQ.b .nil (wing_on rfl rfl rfl) (@pa1 _ _ _ pe_str (by rfl))))))),?_⟩
 obtain ⟨dx,ws,hx,hl0,hp0,hlx0,h5⟩:=id hR;have tt':∀ (i:Nat) (b:Str×Str×Str×Str),brL[i]?=some b→∀ H',SqT K H' (246+i) [.str b.1,.str b.2.1,.str b.2.2.1,.str b.2.2.2]:=by
  intro i b hb H'
  match i,hb with
  | 0,hb=>cases hb;exact tt (246,["[","list","value","]"]) (by simp) H'
  | 1,hb=>cases hb;exact tt (247,["{","record","entry","}"]) (by simp) H'
  | 2,hb=>cases hb;exact tt (248,["(","rows","value",")"]) (by simp) H'
  | n+3,hb=>simp [brL] at hb
 refine ⟨249,rfl,⟨_,tr _⟩,dj (K:=K) (xs:=([246,247,248]:List Addr).map V.ref) (fun i σ H'=>Same H H'∧(∀ j a,j < i→brL[j]?=some a→¬ am ts p=aU a.1)∧∃ v1 v2 v3 v4,σ=[some (.ref x),v1,v2,v3,v4]) ⟨Same.refl H,fun j a h=>absurd h (aBV _),_,_,_,_,rfl⟩ (fun i σ H' _ _=>tr H') ?_ ?_⟩
 ·rintro i y σ H1 hy ⟨g1,no,v1,v2,v3,v4,rfl⟩;obtain ⟨b,hb,rfl⟩:∃ b,brL[i]?=some b∧y=.ref (246+i):=by
   match i,hy with
   | 0,hy=>cases hy;exact ⟨_,rfl,rfl⟩
   | 1,hy=>cases hy;exact ⟨_,rfl,rfl⟩
   | 2,hy=>cases hy;exact ⟨_,rfl,rfl⟩
   | n+3,hy=>simp at hy
  refine ⟨_,_,rfl,tt' i b hb H1,rfl,_,_,rfl,_,_,rfl,_,_,rfl,_,_,rfl,rfl,?_⟩;refine ⟨_,rfl,x,dx,_,rfl,g1 _ _ hx,aC lw p (by decide +kernel) (by decide +kernel),_,rfl,x,lw,ts,p,b.1,rfl,hR.same g1,fun H2 g2=>?_⟩;have g12:=g1.trans g2
  by_cases hc:am ts p=aU b.1
  ·rw [decide_eq_true hc];rw [vR hb no hc] at q;refine ⟨_,rfl,dY ⟨_,rfl,x,dx,_,rfl,g12 _ _ hx,aC lw p (by decide +kernel) (by decide +kernel),_,rfl,x,lw,ts,p,b.1,rfl,hR.same g12,fun _ H3 b3 R3=>?_,fun h=>absurd hc h⟩⟩;refine ⟨_,rfl,_,rfl,_,rfl,_,rfl,x,lw,ts,p+1,b.2.2.1,b.2.2.2,rfl,R3,q.step ((But.same g12).trans b3) fun v p4 y H4 b4 R4 hv q4=>?_⟩;exact ⟨[.str b.2.1,v],.cons .str (.cons hv .nil),sz2,fun y5 H5 g5 hv5=>q4 y5 H5 ((((But.same g12).trans b3).trans b4).trans (But.same g5)) (R4.same g5) hv5⟩
  ·rw [decide_eq_false hc];refine ⟨_,rfl,cg ⟨g12,fun j a hj ha=>?_,_,_,_,_,rfl⟩⟩;rcases Nat.lt_succ_iff_lt_or_eq.mp hj with h | h
   ·exact no j a h ha
   ·subst h;rw [hb] at ha
    cases ha
    exact hc
 ·rintro σ H1 ⟨g1,no,v1,v2,v3,v4,rfl⟩;rw [vS no] at q;refine ⟨_,rfl,x,dx,_,rfl,g1 _ _ hx,aC lw p (by decide +kernel) (by decide +kernel),x,lw,ts,p,0,rfl,hR.same g1,fun v hv=>?_⟩;rw [aB2] at hv;have hv':IsD K H1 (.tup [.str (am ts p).1,kDt (am ts p).2]) v:=hv;refine ⟨_,_,_,hv',rfl,at0 _ _,fun v1 hv1=>?_⟩;obtain rfl:v1=.str (am ts p).1:=by cases hv1;rfl
  have tk:∀ {s0:Str} {Q':VK},Rdd K ad x lw ts H Q E (df ts s0 p)→(∀ y H',Q y H'→Q' y H')→((am ts p).1=s0→∀ H',But x H1 H'→RowAt K ad.WordRow H' x lw ts (p+1)→Q' (kV (am ts p).2) H')∧(¬ (am ts p).1=s0→E (.ref ad.BadText) none H1):=fun {s0 Q'} q hQ=>by
   unfold df at q;refine ⟨fun e H' b' R'=>?_,fun e=>?_⟩
   ·rw [if_pos e] at q;exact hQ _ _ (q _ H' ((But.same g1).trans b') R' (vT _))
   ·rw [if_neg e] at q;exact q H1 (But.same g1)
  refine ⟨rfl,_,rfl,?_⟩
  by_cases hn:(am ts p).1= "number"
  ·rw [if_pos hn] at q;rw [hn];obtain ⟨a1,a2⟩:=tk (Q':=Q) q (fun _ _ h=>h);exact bW ⟨_,rfl,x,dx,_,rfl,g1 _ _ hx,aC lw p (by decide +kernel) (by decide +kernel),x,lw,ts,p,"number",rfl,hR.same g1,a1,a2⟩
  ·rw [if_neg hn] at q;obtain ⟨a1,a2⟩:=tk (Q':=Q) q (fun _ _ h=>h);exact bj (aJ hn) ⟨_,rfl,x,dx,_,rfl,g1 _ _ hx,aC lw p (by decide +kernel) (by decide +kernel),x,lw,ts,p,"text",rfl,hR.same g1,a1,a2⟩
theorem vU {ts:List Tk} {p:Nat} (h:∀ t∈ts,t.1= "word" →∃ s,t.2=Sum.inr s) (e:(am ts p).1= "word"):∃ s:Str,(am ts p).2=Sum.inr s:=by
 unfold am at e ⊢
 cases hp:ts[p]? with
 | none =>
  rw [hp] at e;exact absurd (show (Str.ofString "end")=Str.ofString "word" from e) (by decide +kernel)
 | some t =>
  rw [hp] at e;exact h t (aAr hp) e
theorem Rdd.word {K:W.Frag} {ad:Ads} {x lw:Addr} {ts:List Tk} {H H1:Hp} {Q:VK} {E:XK} {p:Nat} {f:Str→Nat→PR} (q:Rdd K ad x lw ts H Q E (gR ts p f)) (b:But x H H1) (h:∀ t∈ts,t.1= "word" →∃ s,t.2=Sum.inr s) :
  (∃ s,(am ts p).1= "word" ∧kV (am ts p).2=.str s∧Rdd K ad x lw ts H Q E (f s (p+1)))∨(¬ (am ts p).1= "word" ∧E (.ref ad.BadText) none H1):=by
 by_cases e:(am ts p).1= "word"
 ·obtain ⟨s,hs⟩:=vU h e;refine .inl ⟨s,e,by rw [hs];rfl,?_⟩;unfold gR at q
  generalize am ts p=t at q e hs
  obtain ⟨w,kk⟩:=t;obtain rfl:kk=Sum.inr s:=hs;obtain rfl:w= "word" :=e;dsimp only at q;rw [if_pos rfl] at q;exact q
 ·refine .inr ⟨e,?_⟩;unfold gR at q
  generalize am ts p=t at q e
  obtain ⟨w,kk⟩:=t
  cases kk with
  | inl i=>exact q H1 b
  | inr s =>
   dsimp only at q;rw [if_neg e] at q;exact q H1 b
def G7 (K:W.Frag) (ad:Ads) (n:Nat):Sp:=fun vs H Q E=>∃ (x lw:Addr) (ts:List Tk) (p:Nat) (s:Str),vs=[.ref x,.str s]∧RowAt K ad.WordRow H x lw ts p∧Rdd K ad x lw ts H Q E (jR ts (prs ts n) s p)
theorem nX (T:Tx K mg ad) (n:Nat) {f fp:Addr} {fd fdp:FuncData} (F:Gn K mg "pair_read" gp ["row","sort"] f fd) (HS:Gn K mg "part_read" bO ["row","sort"] fp fdp)
  (Ij:FnOk P w K mg base (CXE P w) (n+4) fp fdp ["row","sort"] (lh K ad n)):FnOk P w K mg base (CXE P w) (n+4+1) f fd ["row","sort"] (G7 K ad n):=by
 obtain ⟨f2,d2,HP⟩:=T.m_WordRow_take_mark;have HR:=aN (P:=P) (w:=w) (base:=base) T HP;obtain ⟨f3,d3,HQ⟩:=T.m_WordRow_take;have HZ:=bD (P:=P) (w:=w) (base:=base) T HQ;refine F.F.okW i0 (fun vs H Q E h=>?_) (fun cdv A outer s H vs Q E hr h=>?_)
 ·obtain ⟨x,lw,ts,p,s,rfl,_⟩:=h
  rfl
 obtain ⟨x,lw,ts,p,s,rfl,hR,q⟩:=h;refine ⟨_,(@pss_cons _ _ _ _ _ (@ps_set _ _ 2 _ _ _ _ i0.nd rfl (Or.inl rfl) (pe_meth (pv 0) T.c_WordRow HQ.meth HZ (hr.mono (by first | decide | lia)) HQ.b .nil (wing_on rfl rfl rfl) (@pa1 _ _ _ pe_str (by rfl))) (by rfl) (.inl rfl)) (@pss_cons _ _ _ _ _ (@ps_expr _ _ _ _ (pe_meth (pv 0) T.c_WordRow HP.meth HR (hr.mono (by first | decide | lia)) HP.b .nil (wing_on rfl rfl rfl) (@pa1 _ _ _ pe_str (by rfl))) (by rfl)) (@pss_one _ _ _ (@ps_ret _ _ _ _ (@pe_tupPK _ K _ _ _ _ rfl (@pa2 _ _ _ _ _ (pv 2) (pe_call Ij (hr.mono (by first | decide | lia)) rfl HS.m HS.F.kp HS.b .nil (wing_on rfl rfl rfl) (@pa2 _ _ _ _ _ (pv 0) (pv 1) (by rfl) (by rfl))) (by rfl) (by rfl))))))),?_⟩;obtain ⟨dx,ws,hx,hl0,hp0,hlx0,h5⟩:=id hR;rcases q.word (But.refl _ _) h5.2 with ⟨wd,ht,e2,q1⟩ | ⟨hn,he⟩
 rotate_left
 ·exact ⟨_,rfl,x,dx,_,rfl,hx,aC lw p (by decide +kernel) (by decide +kernel),x,lw,ts,p,"word",rfl,hR,fun h=>absurd h hn,fun _=>he⟩
 refine ⟨_,rfl,x,dx,_,rfl,hx,aC lw p (by decide +kernel) (by decide +kernel),x,lw,ts,p,"word",rfl,hR,fun _ H1 b1 R1=>?_,fun h=>absurd ht h⟩;rw [e2];obtain ⟨dx1,ws1,hx1,_⟩:=id R1;refine ⟨_,rfl,x,dx1,_,rfl,hx1,aC lw _ (by decide +kernel) (by decide +kernel),x,lw,ts,p+1,":",rfl,R1,fun hcm H2 b2 R2=>?_,fun hcm H2 g2=>?_⟩
 ·rw [aF hcm] at q1;refine ⟨_,rfl,_,rfl,_,rfl,x,lw,ts,p+1+1,s,rfl,R2,q1.step (b1.trans b2) fun v p4 y H4 b4 R4 hv q4=>?_⟩;exact ⟨[.str wd,v],.cons .str (.cons hv .nil),sz2,fun y5 H5 g5 hv5=>q4 y5 H5 (((b1.trans b2).trans b4).trans (But.same g5)) (R4.same g5) hv5⟩
 ·rw [cO hcm] at q1;exact q1 H2 (b1.trans (But.same g2))
theorem cE {K:W.Frag} {H:Hp}:∀ {ws:List Str} {xs:List V},IsPs K H (ws.map Dt.str) xs→xs=ws.map V.str
 | [],xs,h=>by cases h;rfl
 | w :: ws,xs,h=>by
  cases h with
  | cons h1 h2=>rw [bq h1,cE h2];rfl
theorem jr {s w:Str} {fs:List Str} (hf:aK s w=some fs):fs.length≤6:=by
 unfold aK at hf;have key:∀ (F:List (Str×List Str)) (w:Str) (l:List Str),(∀ q∈F,q.2.length≤6)→dh w F=some l→l.length≤6:=by
  intro F
  induction F with
  | nil=>intro w l _ h;cases h
  | cons a F ih =>
   intro w l h1 h2;simp only [dh] at h2
   split at h2
   ·cases h2;exact h1 a aAi
   ·exact ih w l (fun q hq=>h1 q (aAg _ hq)) h2
 split at hf
 ·exact key vM _ _ (by decide +kernel) hf
 split at hf
 ·exact key vN _ _ (by decide +kernel) hf
 ·exact key pieceF _ _ (by decide +kernel) hf
theorem vV (a:Dt) (l:List Dt):L2.tL (a :: l) (some 1) none=l:=by
 unfold L2.tL HT.sIx;simp
theorem Rdd.steq {K:W.Frag} {ad:Ads} {x lw:Addr} {ts:List Tk} {H H3:Hp} {Q Q':VK} {E:XK} {r:PR} {f:Dt→Nat→PR} (q:Rdd K ad x lw ts H Q E (r.bind f)) (b:But x H H3)
  (k:∀ v p y H4,r=.ok v p→But x H3 H4→RowAt K ad.WordRow H4 x lw ts p→IsP K H4 v y→Rdd K ad x lw ts H Q E (f v p)→Q' y H4):Rdd K ad x lw ts H3 Q' E r:=by
 cases r with
 | ok v p=>exact fun y H4 b4 hR hv=>k v p y H4 rfl b4 hR hv q
 | err=>exact fun H4 b4=>q H4 (b.trans b4)
 | out=>exact q
theorem gH {ts:List Tk} {rd:Nat→PR} {cl:Str}:∀ (m p:Nat) (fs:List Dt) {v:Dt} {q:Nat},cM ts rd cl m p fs=.ok v q→∃ l,v=.tup l∧l.length+1≤fs.length+m
 | 0,_,_,_,_,h=>by cases h
 | m+1,p,fs,v,q,h=>by
  simp only [cM] at h
  split at h
  ·cases h
   exact ⟨fs,rfl,by lia⟩
  have key:∀ (r:PR),(r.bind fun v q=>cM ts rd cl m q (fs++[v]))=.ok v q→∃ l,v=.tup l∧l.length+1≤fs.length+(m+1):=by
   intro r hr
   cases r with
   | ok v' p' =>
    obtain ⟨l,e,hl⟩:=gH m p' (fs++[v']) hr;rw [aAc,aA1] at hl;exact ⟨l,e,by lia⟩
   | err=>cases hr
   | out=>cases hr
  split at h
  ·unfold dZ at h
   split at h
   ·exact key _ h
   ·cases h
  ·exact key _ h
theorem mS {ts:List Tk} {rd:Str→Nat→PR}:∀ (fs:List Str) (p:Nat) (gs:List Dt) {v:Dt} {q:Nat},cN ts rd fs p gs=.ok v q→∃ l,v=.tup (gs++l)∧l.length=fs.length
 | [],p,gs,v,q,h=>by
  simp only [cN,dZ] at h
  split at h
  ·cases h
   exact ⟨[],by rw [aAZ],rfl⟩
  ·cases h
 | s :: fs,p,gs,v,q,h=>by
  simp only [cN] at h;have key:∀ (r:PR),(r.bind fun v q=>cN ts rd fs q (gs++[v]))=.ok v q→∃ l,v=.tup (gs++l)∧l.length=fs.length+1:=by
   intro r hr
   cases r with
   | ok v' p' =>
    obtain ⟨l,e,hl⟩:=mS fs p' (gs++[v']) hr;exact ⟨v' :: l,by rw [e,aAJ];rfl,by rw [aAb,hl]⟩
   | err=>cases hr
   | out=>cases hr
  split at h
  ·unfold dZ at h
   split at h
   ·exact key _ h
   ·cases h
  ·exact key _ h
theorem uf {ts:List Tk} {rd:Str→Nat→PR} {s w:Str} {p:Nat} {v:Dt} {q:Nat} (h:gS ts rd s w p=.ok v q):∃ fs l,aK s w=some fs∧v=.tup (.str w :: l)∧l.length=fs.length:=by
 unfold gS at h
 cases hf:aK s w with
 | none=>rw [hf] at h;cases h
 | some fs =>
  rw [hf] at h;dsimp only at h;unfold dZ at h
  split at h
  ·obtain ⟨l,e,hl⟩:=mS _ _ _ h;exact ⟨fs,l,rfl,e,hl⟩
  ·cases h
theorem rg:∀ w fs,aK "kind" w=some fs→(w= "list" →fs.length=2)∧(w= "rows" →fs.length=3):=by
 intro w fs h
 constructor
 ·rintro rfl;rw [show aK "kind" "list" = some [("number" : Str),"kind"] by decide +kernel] at h
  cases h
  rfl
 ·rintro rfl;rw [show aK "kind" "rows" = some [("word" : Str),"number","kind"] by decide +kernel] at h
  cases h
  rfl
theorem rh (z:Str):∀ ws:List Str,inV (V.str z) (ws.map V.str)=decide (z∈ws)
 | []=>by simp [inV]
 | w :: ws=>by
  have ih:=rh z ws;have e:inV (V.str z) ((w :: ws).map V.str)=(eqV (V.str w) (V.str z) || inV (V.str z) (ws.map V.str)):=rfl;have e2:eqV (V.str w) (V.str z)=decide (w=z):=rfl;rw [e,ih,e2,aAY];simp only [Bool.or_eq_true,decide_eq_true_eq,aAm];exact ⟨fun h=>h.imp Eq.symm id,fun h=>h.imp Eq.symm id⟩
def iI (K:W.Frag) (_:Ads):Sp:=fun vs H Q _=>∃ (w:Str) (ds:List Dt) (x:V),vs=[.str w,x]∧IsP K H (.tup ds) x∧(w= "list" →ds.length=2)∧(w= "rows" →ds.length=3)∧∀ v H',Same H H'→IsP K H' (.tup (exL w ds)) v→Q v H'
theorem ee (T:Tx K mg ad) {f:Addr} {fd:FuncData} (F:Gn K mg "most_exchanged" cG ["word","parts"] f fd):FnOk P w K mg base CX0 1 f fd ["word","parts"] (iI K ad):=by
 refine F.F.ok iW (fun vs H Q E h=>?_) (fun cdv A outer s H vs Q E hr h=>?_)
 ·obtain ⟨w,ds,x,rfl,_⟩:=h
  rfl
 obtain ⟨w,ds,x,rfl,hx,h2,h3,q⟩:=h;refine ⟨_,(@pss_cons _ _ _ _ _ (@ps_if _ _ _ _ _ _ _ _ (pt_cmpR (e7 (K:=K) rfl) (pv 0) (@pe_tupPK _ K _ _ _ _ rfl (@pa2 _ _ _ _ _ pe_str pe_str (by rfl) (by rfl))) rfl) (@pss_one _ _ _ (@ps_ret _ _ _ _ (@pe_op _ _ _ _ _ _ _ _ (kL (K:=K) rfl) (pe_slice (eM (K:=K) rfl) (pv 1) ce (po_some (@pe_un _ _ _ _ _ _ un_neg pe_int))) (@pe_tupPK _ K _ _ _ _ rfl (@pa2 _ _ _ _ _ (@pe_ix _ _ _ _ _ _ _ (iC (K:=K) rfl) (pv 1) (@pe_un _ _ _ _ _ _ un_neg pe_int) (fun _ _=>rfl)) (@pe_ix _ _ _ _ _ _ _ (iC (K:=K) rfl) (pv 1) (@pe_un _ _ _ _ _ _ un_neg pe_int) (fun _ _=>rfl)) (by rfl) (by rfl)))))) pss_nil) (@pss_one _ _ _ (@ps_ret _ _ _ _ (pv 1)))),?_⟩;refine ⟨_,rfl,[.str "list",.str "rows"],.cons .str (.cons .str .nil),sz2,fun y H1 g1 hy=>?_⟩;obtain ⟨a,xs,rfl,ha,_,ra⟩:=hy.unref;obtain rfl:=cE (ws:=["list","rows"]) ra;refine ⟨a,_,rfl,.inr ha,rfl,rfl,_,rfl,?_⟩;show if (inV (V.str w) (([("list" : Str),"rows"]).map V.str))=true then _ else _
 rw [rh];have hx1:=hx.same g1
 by_cases hw:w= "list" ∨w= "rows"
 rotate_left
 ·rw [decide_eq_false (by simpa using hw)];unfold exL at q;rw [if_neg hw] at q;exact cg ⟨_,rfl,q x H1 g1 hx1⟩
 rw [decide_eq_true (by simpa using hw)];unfold exL at q;rw [if_pos hw] at q;refine dY ⟨_,rfl,_,rfl,_,rfl,ds,hx1,fun v2 H2 g2 hv2=>?_⟩;have hx2:=hx1.same g2;obtain ⟨pre,y,z,e1,e2,e3,e4,e5⟩:∃ pre y z,atI ds (-1)=some z∧atI ds (-2)=some y∧L2.tL ds none (some (-2))=pre∧pre.length≤1∧ex2 ds=pre++[z,y]:=by
  rcases hw with e | e
  ·match ds,h2 e with
   | [a,b],_=>exact ⟨[],a,b,rfl,rfl,rfl,by decide,rfl⟩
  ·match ds,h3 e with
   | [a,b,c],_=>exact ⟨[a],b,c,rfl,rfl,rfl,aAp _,rfl⟩
 rw [e5] at q;rw [e3] at hv2;exact ⟨_,rfl,_,rfl,ds,_,z,hx2,rfl,e1,fun v3 hv3=>⟨_,rfl,_,rfl,ds,_,y,hx2,rfl,e2,fun v4 hv4=>⟨[z,y],.cons hv3 (.cons hv4 .nil),sz2,fun v5 H3 g3 hv5=>⟨pre,[z,y],hv2.same g3,hv5,bX (by simp only [aAb,aAn];lia),fun v6 H4 g4 hv6=>q v6 H4 (((g1.trans g2).trans g3).trans g4) hv6⟩⟩⟩⟩
def G8 (K:W.Frag) (ad:Ads) (n:Nat):Sp:=fun vs H Q E=>∃ (x lw:Addr) (ts:List Tk) (p:Nat),vs=[.ref x]∧RowAt K ad.WordRow H x lw ts p∧Rdd K ad x lw ts H Q E (mQ ts (prs ts n) p)
theorem nY (T:Tx K mg ad) (n:Nat) {f ff fl:Addr} {fd fdf fdl:FuncData} (F:Gn K mg "kind_read" gq ["row"] f fd) (Ia:Gn K mg "form_read" cS ["row","sort","word"] ff fdf) (HV:Gn K mg "list_read" cr ["row","sort","closing"] fl fdl)
  (IK:FnOk P w K mg base (CXE P w) (n+4+1) ff fdf ["row","sort","word"] (vQ K ad n)) (Ik:FnOk P w K mg base (CXE P w) (n+4+1) fl fdl ["row","sort","closing"] (sD K ad n)):FnOk P w K mg base (CXE P w) (n+4+2) f fd ["row"] (G8 K ad n):=by
 obtain ⟨f2,d2,HP⟩:=T.m_WordRow_take_mark;have HR:=aN (P:=P) (w:=w) (base:=base) T HP;obtain ⟨f3,d3,HQ⟩:=T.m_WordRow_take;have HZ:=bD (P:=P) (w:=w) (base:=base) T HQ;obtain ⟨f4,d4,HX⟩:=T.at_least_one;have IU:=fF (P:=P) (w:=w) (base:=base) T HX;obtain ⟨f5,d5,ID⟩:=T.most_exchanged;have I8:=ee (P:=P) (w:=w) (base:=base) T ID;refine F.F.okW fu (fun vs H Q E h=>?_) (fun cdv A outer s H vs Q E hr h=>?_)
 ·obtain ⟨x,lw,ts,p,rfl,_⟩:=h
  rfl
 obtain ⟨x,lw,ts,p,rfl,hR,q⟩:=h;refine ⟨_,(@pss_cons _ _ _ _ _ (@ps_set _ _ 1 _ _ _ _ fu.nd rfl (Or.inl rfl) (pe_meth (pv 0) T.c_WordRow HQ.meth HZ (hr.mono (by first | decide | lia)) HQ.b .nil (wing_on rfl rfl rfl) (@pa1 _ _ _ pe_str (by rfl))) (by rfl) (.inl rfl)) (@pss_cons _ _ _ _ _ (@ps_if _ _ _ _ _ _ _ _ (pt_cmpR op_eq (pv 1) pe_str (nomark _)) (@pss_cons _ _ _ _ _ (@ps_expr _ _ _ _ (pe_meth (pv 0) T.c_WordRow HP.meth HR (hr.mono (by first | decide | lia)) HP.b .nil (wing_on rfl rfl rfl) (@pa1 _ _ _ pe_str (by rfl))) (by rfl)) (@pss_one _ _ _ (@ps_ret _ _ _ _ (@pe_tupPK _ K _ _ _ _ rfl (@pa2 _ _ _ _ _ (pv 1) (pe_call IU (hr.mono (by first | decide | lia)) rfl HX.m HX.F.kp HX.b .nil (wing_on rfl rfl rfl) (@pa1 _ _ _ (pe_call Ik (hr.mono (by first | decide | lia)) rfl HV.m HV.F.kp HV.b .nil (wing_on rfl rfl rfl) (@pa3 _ _ _ _ _ _ _ (pv 0) pe_str pe_str (by rfl) (by rfl) (by rfl))) (by rfl))) (by rfl) (by rfl)))))) pss_nil) (@pss_cons _ _ _ _ _ (@ps_if _ _ _ _ _ _ _ _ (pt_cmpR op_eq (pv 1) pe_str (nomark _)) (@pss_cons _ _ _ _ _ (@ps_expr _ _ _ _ (pe_meth (pv 0) T.c_WordRow HP.meth HR (hr.mono (by first | decide | lia)) HP.b .nil (wing_on rfl rfl rfl) (@pa1 _ _ _ pe_str (by rfl))) (by rfl)) (@pss_one _ _ _ (@ps_ret _ _ _ _ (@pe_tupPK _ K _ _ _ _ rfl (@pa2 _ _ _ _ _ (pv 1) (pe_call Ik (hr.mono (by first | decide | lia)) rfl HV.m HV.F.kp HV.b .nil (wing_on rfl rfl rfl) (@pa3 _ _ _ _ _ _ _ (pv 0) pe_str pe_str (by rfl) (by rfl) (by rfl))) (by rfl) (by rfl)))))) pss_nil) (@pss_cons _ _ _ _ _ (@ps_set _ _ 2 _ _ _ _ fu.nd rfl (Or.inl rfl) (pe_call IK (hr.mono (by first | decide | lia)) rfl Ia.m Ia.F.kp Ia.b .nil (wing_on rfl rfl rfl) (@pa3 _ _ _ _ _ _ _ (pv 0) pe_str (pv 1) (by rfl) (by rfl) (by rfl))) (by rfl) (.inl rfl)) (@pss_one _ _ _ (@ps_ret _ _ _ _ (@pe_op _ _ _ _ _ _ _ _ (kL (K:=K) rfl) (@pe_tupPK _ K _ _ _ _ rfl (@pa1 _ _ _ (pv 1) (by rfl))) (pcl ID I8 (hr.mono (by lia)) rfl (@pa2 _ _ _ _ _ (pv 1) (pe_slice (eM (K:=K) rfl) (pv 2) (po_some pe_int) ce) (by rfl) (by rfl)))))))))),?_⟩;obtain ⟨dx,ws,hx,hl0,hp0,hlx0,h5⟩:=id hR;rcases q.word (But.refl _ _) h5.2 with ⟨wd,ht,e2,q1⟩ | ⟨hn,he⟩
 rotate_left
 ·exact ⟨_,rfl,x,dx,_,rfl,hx,aC lw p (by decide +kernel) (by decide +kernel),x,lw,ts,p,"word",rfl,hR,fun h=>absurd h hn,fun _=>he⟩
 refine ⟨_,rfl,x,dx,_,rfl,hx,aC lw p (by decide +kernel) (by decide +kernel),x,lw,ts,p,"word",rfl,hR,fun _ H1 b1 R1=>?_,fun h=>absurd ht h⟩;rw [e2];obtain ⟨dx1,ws1,hx1,_⟩:=id R1;refine ⟨_,rfl,rfl,_,rfl,?_⟩
 by_cases h1:wd= "choice"
 ·rw [if_pos h1] at q1;subst h1;refine bW ⟨_,rfl,x,dx1,_,rfl,hx1,aC lw _ (by decide +kernel) (by decide +kernel),x,lw,ts,p+1,"(",rfl,R1,fun hcm H2 b2 R2=>?_,fun hcm H2 g2=>?_⟩
  rotate_left
  ·rw [cO hcm] at q1;exact q1 H2 (b1.trans (But.same g2))
  rw [aF hcm] at q1;refine ⟨_,rfl,_,rfl,x,lw,ts,p+1+1,"word",")",rfl,R2,q1.steq (b1.trans b2) fun v p4 y H4 er b4 R4 hv q4=>?_⟩;obtain ⟨l,rfl,hl⟩:=gH _ _ _ er;refine ⟨l,y,rfl,hv,by have:=h5.1;simp only [aAn] at hl;lia,fun hne=>?_,fun he=>?_⟩
  ·cases l with
   | nil=>exact absurd rfl hne
   | cons d0 l=>exact ⟨[.str "choice",.tup (d0 :: l)],.cons .str (.cons hv .nil),sz2,fun y5 H5 g5 hv5=>q4 y5 H5 (((b1.trans b2).trans b4).trans (But.same g5)) (R4.same g5) hv5⟩
  ·subst he;exact q4 H4 ((b1.trans b2).trans b4)
 rw [if_neg h1] at q1;refine bj (aJ h1) ⟨_,rfl,rfl,_,rfl,?_⟩
 by_cases h2:wd= "record"
 ·rw [if_pos h2] at q1;subst h2;refine bW ⟨_,rfl,x,dx1,_,rfl,hx1,aC lw _ (by decide +kernel) (by decide +kernel),x,lw,ts,p+1,"(",rfl,R1,fun hcm H2 b2 R2=>?_,fun hcm H2 g2=>?_⟩
  rotate_left
  ·rw [cO hcm] at q1;exact q1 H2 (b1.trans (But.same g2))
  rw [aF hcm] at q1;refine ⟨_,rfl,_,rfl,x,lw,ts,p+1+1,"field",")",rfl,R2,q1.step (b1.trans b2) fun v p4 y H4 b4 R4 hv q4=>?_⟩;exact ⟨[.str "record",v],.cons .str (.cons hv .nil),sz2,fun y5 H5 g5 hv5=>q4 y5 H5 (((b1.trans b2).trans b4).trans (But.same g5)) (R4.same g5) hv5⟩
 rw [if_neg h2] at q1;refine bj (aJ h2) ⟨_,rfl,_,rfl,x,lw,ts,p+1,"kind",wd,rfl,R1,q1.steq b1 fun v p4 y H4 er b4 R4 hv q4=>?_⟩;obtain ⟨fs,l,hf,rfl,hl⟩:=uf er;have fl:=jr hf;obtain ⟨k2,k3⟩:=rg _ _ hf;refine ⟨_,rfl,[.str wd],.cons .str .nil,sz1,fun y5 H5 g5 hv5=>?_⟩;refine ⟨_,rfl,_,rfl,_,rfl,_,hv.same g5,fun y6 H6 g6 hv6=>?_⟩;rw [vV] at hv6;refine ⟨wd,l,y6,rfl,hv6,(fun e=>by rw [hl,k2 e]),(fun e=>by rw [hl,k3 e]),fun y7 H7 g7 hv7=>?_⟩;have el:(exL wd l).length=l.length:=by
  unfold exL
  split
  ·unfold ex2
   split <;> rfl
  ·rfl
 have g:=(g5.trans g6).trans g7;refine ⟨[.str wd],exL wd l,(hv5.same g6).same g7,hv7,bX (by rw [el];simp only [aAb,aAn];lia),fun y8 H8 g8 hv8=>?_⟩;exact q4 y8 H8 ((b1.trans b4).trans (But.same (g.trans g8))) (R4.same (g.trans g8)) hv8
def G9 (K:W.Frag) (ad:Ads) (n:Nat):Sp:=fun vs H Q E=>∃ (x lw:Addr) (ts:List Tk) (p:Nat),vs=[.ref x]∧RowAt K ad.WordRow H x lw ts p∧Rdd K ad x lw ts H Q E (mR ts (prs ts n) p)
theorem nZ (T:Tx K mg ad) (n:Nat) {f ff fl:Addr} {fd fdf fdl:FuncData} (F:Gn K mg "turn_read" gr ["row"] f fd) (Ia:Gn K mg "form_read" cS ["row","sort","word"] ff fdf) (HV:Gn K mg "list_read" cr ["row","sort","closing"] fl fdl)
  (IK:FnOk P w K mg base (CXE P w) (n+4+1) ff fdf ["row","sort","word"] (vQ K ad n)) (Ik:FnOk P w K mg base (CXE P w) (n+4+1) fl fdl ["row","sort","closing"] (sD K ad n)):FnOk P w K mg base (CXE P w) (n+4+2) f fd ["row"] (G9 K ad n):=by
 obtain ⟨f2,d2,HP⟩:=T.m_WordRow_take_mark;have HR:=aN (P:=P) (w:=w) (base:=base) T HP;obtain ⟨f3,d3,HQ⟩:=T.m_WordRow_take;have HZ:=bD (P:=P) (w:=w) (base:=base) T HQ;obtain ⟨f4,d4,HX⟩:=T.at_least_one;have IU:=fF (P:=P) (w:=w) (base:=base) T HX;refine F.F.okW fv (fun vs H Q E h=>?_) (fun cdv A outer s H vs Q E hr h=>?_)
 ·obtain ⟨x,lw,ts,p,rfl,_⟩:=h
  rfl
 obtain ⟨x,lw,ts,p,rfl,hR,q⟩:=h;refine ⟨_,(@pss_cons _ _ _ _ _ (@ps_set _ _ 1 _ _ _ _ fv.nd rfl (Or.inl rfl) (pe_meth (pv 0) T.c_WordRow HQ.meth HZ (hr.mono (by first | decide | lia)) HQ.b .nil (wing_on rfl rfl rfl) (@pa1 _ _ _ pe_str (by rfl))) (by rfl) (.inl rfl)) (@pss_cons _ _ _ _ _ (@ps_if _ _ _ _ _ _ _ _ (pt_cmpR op_ne (pv 1) pe_str (nomark _)) (@pss_one _ _ _ (@ps_ret _ _ _ _ (pe_call IK (hr.mono (by first | decide | lia)) rfl Ia.m Ia.F.kp Ia.b .nil (wing_on rfl rfl rfl) (@pa3 _ _ _ _ _ _ _ (pv 0) pe_str (pv 1) (by rfl) (by rfl) (by rfl))))) pss_nil) (@pss_cons _ _ _ _ _ (@ps_expr _ _ _ _ (pe_meth (pv 0) T.c_WordRow HP.meth HR (hr.mono (by first | decide | lia)) HP.b .nil (wing_on rfl rfl rfl) (@pa1 _ _ _ pe_str (by rfl))) (by rfl)) (@pss_cons _ _ _ _ _ (@ps_set _ _ 2 _ _ _ _ fv.nd rfl (Or.inl rfl) (pe_call IU (hr.mono (by first | decide | lia)) rfl HX.m HX.F.kp HX.b .nil (wing_on rfl rfl rfl) (@pa1 _ _ _ (pe_call Ik (hr.mono (by first | decide | lia)) rfl HV.m HV.F.kp HV.b .nil (wing_on rfl rfl rfl) (@pa3 _ _ _ _ _ _ _ (pv 0) pe_str pe_str (by rfl) (by rfl) (by rfl))) (by rfl))) (by rfl) (.inl rfl)) (@pss_one _ _ _ (@ps_ret _ _ _ _ (@pe_tupPK _ K _ _ _ _ rfl (@pa3 _ _ _ _ _ _ _ (pv 1) (pv 2) (pe_call IU (hr.mono (by first | decide | lia)) rfl HX.m HX.F.kp HX.b .nil (wing_on rfl rfl rfl) (@pa1 _ _ _ (pe_call Ik (hr.mono (by first | decide | lia)) rfl HV.m HV.F.kp HV.b .nil (wing_on rfl rfl rfl) (@pa3 _ _ _ _ _ _ _ (pv 0) pe_str pe_str (by rfl) (by rfl) (by rfl))) (by rfl))) (by rfl) (by rfl) (by rfl))))))))),?_⟩;obtain ⟨dx,ws,hx,hl0,hp0,hlx0,h5⟩:=id hR;rcases q.word (But.refl _ _) h5.2 with ⟨wd,ht,e2,q1⟩ | ⟨hn,he⟩
 rotate_left
 ·exact ⟨_,rfl,x,dx,_,rfl,hx,aC lw p (by decide +kernel) (by decide +kernel),x,lw,ts,p,"word",rfl,hR,fun h=>absurd h hn,fun _=>he⟩
 refine ⟨_,rfl,x,dx,_,rfl,hx,aC lw p (by decide +kernel) (by decide +kernel),x,lw,ts,p,"word",rfl,hR,fun _ H1 b1 R1=>?_,fun h=>absurd ht h⟩;rw [e2];obtain ⟨dx1,ws1,hx1,_⟩:=id R1
 by_cases hw:wd= "words"
 rotate_left
 ·rw [if_neg hw] at q1;refine ⟨_,rfl,rfl,_,rfl,xV (aJ hw) ⟨_,rfl,_,rfl,x,lw,ts,p+1,"turn",wd,rfl,R1,?_⟩⟩;exact Rdd.but q1 b1
 rw [if_pos hw] at q1;subst hw;refine ⟨_,rfl,rfl,_,rfl,sk ⟨_,rfl,x,dx1,_,rfl,hx1,aC lw _ (by decide +kernel) (by decide +kernel),x,lw,ts,p+1,"(",rfl,R1,fun hcm H2 b2 R2=>?_,fun hcm H2 g2=>?_⟩⟩
 rotate_left
 ·rw [cO hcm] at q1;exact q1 H2 (b1.trans (But.same g2))
 rw [aF hcm] at q1;refine ⟨_,rfl,x,lw,ts,p+1+1,"word",";",rfl,R2,q1.steq (b1.trans b2) fun v p4 y H4 er b4 R4 hv q4=>?_⟩;obtain ⟨l,rfl,hl⟩:=gH _ _ _ er;have b4':=(b1.trans b2).trans b4;refine ⟨l,y,rfl,hv,by have:=h5.1;simp only [aAn] at hl;lia,fun hne=>?_,fun he=>?_⟩
 rotate_left
 ·subst he;exact q4 H4 b4'
 cases l with
 | nil=>exact absurd rfl hne
 | cons d0 l =>
  dsimp only at q4;refine ⟨_,rfl,_,rfl,_,rfl,x,lw,ts,p4,"way",")",rfl,R4,q4.steq b4' fun v2 p5 y2 H5 er2 b5 R5 hv2 q5=>?_⟩;obtain ⟨l2,rfl,hl2⟩:=gH _ _ _ er2;have hv5:IsP K H5 (.tup (d0 :: l)) y:=rZ R4.mut b5 hv;refine ⟨l2,y2,rfl,hv2,by have:=h5.1;simp only [aAn] at hl2;lia,fun hne2=>?_,fun he2=>?_⟩
  ·cases l2 with
   | nil=>exact absurd rfl hne2
   | cons d1 l2=>exact ⟨[.str "words",.tup (d0 :: l),.tup (d1 :: l2)],.cons .str (.cons hv5 (.cons hv2 .nil)),sz3,fun y6 H6 g6 hv6=>q5 y6 H6 ((b4'.trans b5).trans (But.same g6)) (R5.same g6) hv6⟩
  ·subst he2;exact q5 H5 (b4'.trans b5)
theorem n6 (T:Tx K mg ad) (n:Nat) {f:Addr} {fd:FuncData} (HS:Gn K mg "part_read" bO ["row","sort"] f fd)
  (Ij:FnOk P w K mg base (CXE P w) (n+4) f fd ["row","sort"] (lh K ad n)) (Ka:FnOk P w K mg base (CXE P w) (n+1+4) f fd ["row","sort"] (lh K ad (n+1))):FnOk P w K mg base (CXE P w) (n+3+4) f fd ["row","sort"] (lh K ad (n+3)):=by
 obtain ⟨f1,d1,HV⟩:=T.list_read;have Ik:=nV (P:=P) (w:=w) (base:=base) T n HV HS Ij;obtain ⟨f2,d2,Ia⟩:=T.form_read;have IK:=nW (P:=P) (w:=w) (base:=base) T n Ia HS Ij;obtain ⟨f3,d3,I9⟩:=T.value_read;have JS:=lZ (P:=P) (w:=w) (base:=base) T n I9 HV Ik;obtain ⟨f4,d4,Jg⟩:=T.pair_read;have J2:=nX (P:=P) (w:=w) (base:=base) T (n+1) Jg HS Ka;obtain ⟨f5,d5,Jd⟩:=T.turn_read;have JY:=nZ (P:=P) (w:=w) (base:=base) T n Jd Ia HV IK Ik;obtain ⟨f6,d6,IS⟩:=T.path_read;have JD:FnOk P w K mg base (CXE P w) 1 f6 d6 ["row"] (fun _ _ _ _=>False):=fn_none fun _ _ _ _ h=>h;obtain ⟨f7,d7,Jf⟩:=T.kind_read;have JX:=nY (P:=P) (w:=w) (base:=base) T n Jf Ia HV IK Ik;obtain ⟨f8,d8,HQ⟩:=T.m_WordRow_take;have HZ:=bD (P:=P) (w:=w) (base:=base) T HQ;obtain ⟨a_PAIR,c_PAIR_SORTS,k_PAIR⟩:=T.PAIR_SORTS;refine HS.F.okW iZ (fun vs H Q E h=>?_) (fun cdv A outer s H vs Q E hr h=>?_)
 ·obtain ⟨x,lw,ts,p,s,rfl,_⟩:=h
  rfl
 obtain ⟨x,lw,ts,p,s,rfl,hR,q⟩:=h;refine ⟨_,(@pss_cons _ _ _ _ _ (@ps_if _ _ _ _ _ _ _ _ (pt_cmpR op_eq (pv 1) pe_str (nomark _)) (@pss_one _ _ _ (@ps_ret _ _ _ _ (pe_call JS (hr.mono (by first | decide | lia)) rfl I9.m I9.F.kp I9.b .nil (wing_on rfl rfl rfl) (@pa1 _ _ _ (pv 0) (by rfl))))) pss_nil) (@pss_cons _ _ _ _ _ (@ps_if _ _ _ _ _ _ _ _ (pt_cmpR op_eq (pv 1) pe_str (nomark _)) (@pss_one _ _ _ (@ps_ret _ _ _ _ (pe_call JX (hr.mono (by first | decide | lia)) rfl Jf.m Jf.F.kp Jf.b .nil (wing_on rfl rfl rfl) (@pa1 _ _ _ (pv 0) (by rfl))))) pss_nil) (@pss_cons _ _ _ _ _ (@ps_if _ _ _ _ _ _ _ _ (pt_cmpR op_eq (pv 1) pe_str (nomark _)) (@pss_one _ _ _ (@ps_ret _ _ _ _ (pe_call JY (hr.mono (by first | decide | lia)) rfl Jd.m Jd.F.kp Jd.b .nil (wing_on rfl rfl rfl) (@pa1 _ _ _ (pv 0) (by rfl))))) pss_nil) (@pss_cons _ _ _ _ _ (@ps_if _ _ _ _ _ _ _ _ (pt_cmpR op_eq (pv 1) pe_str (nomark _)) (@pss_one _ _ _ (@ps_ret _ _ _ _ (pe_call IK (hr.mono (by first | decide | lia)) rfl Ia.m Ia.F.kp Ia.b .nil (wing_on rfl rfl rfl) (@pa3 _ _ _ _ _ _ _ (pv 0) pe_str (pe_meth (pv 0) T.c_WordRow HQ.meth HZ (hr.mono (by first | decide | lia)) HQ.b .nil (wing_on rfl rfl rfl) (@pa1 _ _ _ pe_str (by rfl))) (by rfl) (by rfl) (by rfl))))) pss_nil) (@pss_cons _ _ _ _ _ (@ps_if _ _ _ _ _ _ _ _ (pt_cmpR op_eq (pv 1) pe_str (nomark _)) (@pss_one _ _ _ (@ps_ret _ _ _ _ (pe_call JD (hr.mono (by first | decide | lia)) rfl IS.m IS.F.kp IS.b .nil (wing_on rfl rfl rfl) (@pa1 _ _ _ (pv 0) (by rfl))))) pss_nil) (@pss_cons _ _ _ _ _ (@ps_if _ _ _ _ _ _ _ _ (pt_cmpR op_eq (pv 1) pe_str (nomark _)) (@pss_cons _ _ _ _ _ (@ps_set _ _ 2 _ _ _ _ iZ.nd rfl (Or.inl rfl) (pe_call JD (hr.mono (by first | decide | lia)) rfl IS.m IS.F.kp IS.b .nil (wing_on rfl rfl rfl) (@pa1 _ _ _ (pv 0) (by rfl))) (by rfl) (.inl rfl)) (@pss_one _ _ _ (@ps_ret _ _ _ _ (@pe_tupPK _ K _ _ _ _ rfl (@pa2 _ _ _ _ _ (pv 2) (pe_call Ij (hr.mono (by first | decide | lia)) rfl HS.m HS.F.kp HS.b .nil (wing_on rfl rfl rfl) (@pa2 _ _ _ _ _ (pv 0) pe_str (by rfl) (by rfl))) (by rfl) (by rfl)))))) pss_nil) (@pss_cons _ _ _ _ _ (@ps_if _ _ _ _ _ _ _ _ (pt_cmpR (A1 (K:=K) rfl) (pv 1) (iy rfl c_PAIR_SORTS) rfl) (@pss_one _ _ _ (@ps_ret _ _ _ _ (pe_call J2 (hr.mono (by first | decide | lia)) rfl Jg.m Jg.F.kp Jg.b .nil (wing_on rfl rfl rfl) (@pa2 _ _ _ _ _ (pv 0) (xn (K:=K) rfl (iy rfl c_PAIR_SORTS) (pv 1) (fun _ _=>rfl)) (by rfl) (by rfl))))) pss_nil) (@pss_one _ _ _ (@ps_ret _ _ _ _ (pe_meth (pv 0) T.c_WordRow HQ.meth HZ (hr.mono (by first | decide | lia)) HQ.b .nil (wing_on rfl rfl rfl) (@pa1 _ _ _ (pv 1) (by rfl)))))))))))),?_⟩;obtain ⟨dx,ws,hx,hl0,hp0,hlx0,h5⟩:=id hR;simp only [prs] at q;refine ⟨_,rfl,rfl,_,rfl,?_⟩
 by_cases h1:s= "value"
 ·rw [if_pos h1] at q;subst h1;exact bW ⟨_,rfl,x,lw,ts,p,rfl,hR,q⟩
 rw [if_neg h1] at q;refine bj (aJ h1) ⟨_,rfl,rfl,_,rfl,?_⟩
 by_cases h2:s= "kind"
 ·rw [if_pos h2] at q;subst h2;exact bW ⟨_,rfl,x,lw,ts,p,rfl,hR,q⟩
 rw [if_neg h2] at q;refine bj (aJ h2) ⟨_,rfl,rfl,_,rfl,?_⟩
 by_cases h3:s= "turn"
 ·rw [if_pos h3] at q;subst h3;exact bW ⟨_,rfl,x,lw,ts,p,rfl,hR,q⟩
 rw [if_neg h3] at q;refine bj (aJ h3) ⟨_,rfl,rfl,_,rfl,?_⟩
 by_cases h4:s= "piece"
 ·rw [if_pos h4] at q;subst h4;refine bW ?_;rcases q.word (But.refl _ _) h5.2 with ⟨wd,ht,e2,q1⟩ | ⟨hn,he⟩
  rotate_left
  ·exact ⟨_,rfl,_,rfl,x,dx,_,rfl,hx,aC lw p (by decide +kernel) (by decide +kernel),x,lw,ts,p,"word",rfl,hR,fun h=>absurd h hn,fun _=>he⟩
  refine ⟨_,rfl,_,rfl,x,dx,_,rfl,hx,aC lw p (by decide +kernel) (by decide +kernel),x,lw,ts,p,"word",rfl,hR,fun _ H1 b1 R1=>?_,fun h=>absurd ht h⟩;rw [e2];exact ⟨x,lw,ts,p+1,"piece",wd,rfl,R1,Rdd.but q1 b1⟩
 rw [if_neg h4] at q;refine bj (aJ h4) ⟨_,rfl,rfl,_,rfl,?_⟩
 by_cases h5':s= "path"
 ·rw [if_pos h5'] at q;exact q.elim
 rw [if_neg h5'] at q;refine bj (aJ h5') ⟨_,rfl,rfl,_,rfl,?_⟩
 by_cases h6:s= "change"
 ·rw [if_pos h6] at q;exact q.elim
 rw [if_neg h6] at q;refine bj (aJ h6) ⟨_,rfl,s,a_PAIR,sC,rfl,rfl,k_PAIR,_,rfl,?_⟩
 cases hl:fS s sC with
 | some s' =>
  rw [hl] at q;exact dY ⟨_,rfl,_,rfl,s,a_PAIR,sC,s',rfl,rfl,k_PAIR,hl,x,lw,ts,p,s',rfl,hR,q⟩
 | none =>
  rw [hl] at q;refine cg ⟨_,rfl,x,dx,_,rfl,hx,aC lw p (by decide +kernel) (by decide +kernel),_,rfl,x,lw,ts,p,s,rfl,hR,fun e H' b' R'=>?_,fun e=>?_⟩
  ·dsimp only at q;unfold df at q;rw [if_pos e] at q;exact q _ H' b' R' (vT _)
  ·dsimp only at q;unfold df at q;rw [if_neg e] at q;exact q H (But.refl _ _)
theorem lm (T:Tx K mg ad) {f:Addr} {fd:FuncData} (D:Gn K mg "part_read" bO ["row","sort"] f fd):∀ n,FnOk P w K mg base (CXE P w) (n+4) f fd ["row","sort"] (lh K ad n)
 | 0=>fn_none fun vs H Q E z=>by obtain ⟨_,_,_,_,_,_,_,h⟩:=z;exact h
 | 1=>fn_none fun vs H Q E z=>by obtain ⟨_,_,_,_,_,_,_,h⟩:=z;exact h
 | 2=>fn_none fun vs H Q E z=>by obtain ⟨_,_,_,_,_,_,_,h⟩:=z;exact h
 | n+3=>n6 T n D (lm T D n) (lm T D (n+1))
def cB (n:Nat) (s:Str) (cs:List Nat):Option Dt:=match e9 cs with
 | none=>none
 | some toks=>if gQ toks≤40 then (match prs (toks.map toTk) n s 0 with
  | .ok v q=>if am (toks.map toTk) q=lX then some v else none
  | _=>none) else none
def xu (n:Nat) (s:Str) (cs:List Nat):Prop:=∀ toks,e9 cs=some toks→gQ toks≤40→prs (toks.map toTk) n s 0≠.out
def pV (K:W.Frag) (ad:Ads):Sp:=fun vs H Q E=>∃ z s:Str,vs=[.str z,.str s]∧z.length≤100000∧xu 60 s z.cps.toList∧(∀ v,cB 60 s z.cps.toList=some v→∀ y H',Same H H'→IsP K H' v y→Q y H')∧(cB 60 s z.cps.toList=none→∀ H',Same H H'→E (.ref ad.BadText) none H')
theorem jS (T:Tx K mg ad) {f:Addr} {fd:FuncData} (F:Gn K mg "read_all" ig ["text","sort"] f fd):FnOk P w K mg base (CXE P w) 65 f fd ["text","sort"] (pV K ad):=by
 obtain ⟨f1,d1,Jb⟩:=T.m_WordRow_init;have JN:=j3 (P:=P) (w:=w) (base:=base) T Jb;obtain ⟨f2,d2,HS⟩:=T.part_read;have Ij:=lm (P:=P) (w:=w) (base:=base) T HS 60;obtain ⟨f3,d3,HU⟩:=T.m_WordRow_coming;have Io:=bK (P:=P) (w:=w) (base:=base) T HU;obtain ⟨c_END,s_END⟩:=T.END;refine F.F.okW gA (fun vs H Q E h=>?_) (fun cdv A outer s H vs Q E hr h=>?_)
 ·obtain ⟨z,s,rfl,_⟩:=h
  rfl
 obtain ⟨z,s,rfl,hz,ho,q1,q2⟩:=h;refine ⟨_,(@pss_cons _ _ _ _ _ (@ps_set _ _ 2 _ _ _ _ gA.nd rfl (Or.inl rfl) (wL Jb.makes JN (hr.mono (by first | decide | lia)) rfl T.o_WordRow Jb.b .nil (wing_on rfl rfl rfl) (@pa1 _ _ _ (pv 0) (by rfl))) (by rfl) (.inl rfl)) (@pss_cons _ _ _ _ _ (@ps_set _ _ 3 _ _ _ _ gA.nd rfl (Or.inl rfl) (pe_call Ij (hr.mono (by first | decide | lia)) rfl HS.m HS.F.kp HS.b .nil (wing_on rfl rfl rfl) (@pa2 _ _ _ _ _ (pv 2) (pv 1) (by rfl) (by rfl))) (by rfl) (.inl rfl)) (@pss_cons _ _ _ _ _ (@ps_if _ _ _ _ _ _ _ _ (pt_cmpR (iD (K:=K) rfl hr.units) (pe_meth (pv 2) T.c_WordRow HU.meth Io (hr.mono (by first | decide | lia)) HU.b .nil jL (@pa1 _ _ _ pe_int (by rfl))) (iy rfl c_END) (nomark _)) (@pss_one _ _ _ (ps_raiseW rfl rfl rfl rfl T.x_BadText rfl (@pa1 _ _ _ pe_str (by rfl)))) pss_nil) (@pss_one _ _ _ (@ps_ret _ _ _ _ (pv 3)))))),?_⟩;refine ⟨_,rfl,?_⟩;intro x dx nx ndx nex;have free:∀ {H':Hp},But x (upd (upd H dx (.own x)) x (.ins ad.WordRow dx [])) H'→Same H H':=fun b c o e=>b c o (ah e nx) (by rw [ac (ah e nx),ac (ah e ndx)];exact e);refine ⟨x,dx,z,rfl,aa,hz,fun toks hL hB l H1 hl b1 R1=>⟨rfl,?_⟩,fun h H1 g1=>q2 ?_ H1 (free (But.same g1))⟩
 ·have hno:=ho toks hL hB;refine ⟨_,rfl,_,rfl,x,l,_,0,s,rfl,R1,?_⟩;have hr':cB 60 s z.cps.toList=(match prs (toks.map toTk) 60 s 0 with
   | .ok v q=>if am (toks.map toTk) q=lX then some v else none
   | _=>none):=by
   unfold cB;rw [hL];dsimp only;rw [if_pos hB]
  revert hr' hno
  generalize prs (toks.map toTk) 60 s 0=r
  intro hno hr'
  cases r with
  | out=>exact absurd rfl hno
  | err=>exact fun H2 b2=>q2 hr' H2 (free (b1.trans b2))
  | ok v p =>
   intro y H2 b2 R2 hv;obtain ⟨dx2,ws2,hx2,_⟩:=id R2;refine ⟨_,rfl,x,dx2,_,rfl,hx2,aC l _ (by decide +kernel) (by decide +kernel),x,l,_,p,0,rfl,R2,fun v3 hv3=>?_⟩;rw [aB2] at hv3;refine ⟨tkD (am (toks.map toTk) p),tkD lX,hv3,.tup (s_END _ aAi H2) (.cons .str (.cons .str .nil)),vL _,_,rfl,?_⟩;rw [show eqD (tkD (am (toks.map toTk) p)) (tkD lX)=decide (am (toks.map toTk) p=lX) from vK _ _ (Sum.inr "")];dsimp only at hr'
   by_cases he:am (toks.map toTk) p=lX
   ·rw [if_pos he] at hr';rw [decide_eq_true he];exact cg ⟨_,rfl,q1 v hr' y H2 (free (b1.trans b2)) hv⟩
   ·rw [if_neg he] at hr';rw [decide_eq_false he];exact dY ⟨sz1,q2 hr' H2 (free (b1.trans b2))⟩
 ·unfold cB
  cases hL:e9 z.cps.toList with
  | none=>rfl
  | some toks =>
   dsimp only;rw [if_neg (h toks hL)]
def iJ (K:W.Frag) (ad:Ads) (so:Str):Sp:=fun vs H Q E=>∃ z:Str,vs=[.str z]∧z.length≤100000∧xu 60 so z.cps.toList∧(∀ v,cB 60 so z.cps.toList=some v→∀ y H',Same H H'→IsP K H' v y→Q y H')∧(cB 60 so z.cps.toList=none→∀ H',Same H H'→E (.ref ad.BadText) none H')
theorem n8 (T:Tx K mg ad) {f:Addr} {fd:FuncData} (F:Gn K mg "read_turn" gn ["text"] f fd):FnOk P w K mg base (CXE P w) 66 f fd ["text"] (iJ K ad "turn"):=by
 obtain ⟨f1,d1,Iy⟩:=T.read_all;have Jt:=jS (P:=P) (w:=w) (base:=base) T Iy;refine F.F.okW oJ (fun vs H Q E h=>?_) (fun cdv A outer s H vs Q E hr h=>?_)
 ·obtain ⟨z,rfl,_⟩:=h
  rfl
 obtain ⟨z,rfl,hz,ho,q1,q2⟩:=h;exact ⟨_,(@pss_one _ _ _ (@ps_ret _ _ _ _ (pe_call Jt (hr.mono (by first | decide | lia)) rfl Iy.m Iy.F.kp Iy.b .nil (wing_on rfl rfl rfl) (@pa2 _ _ _ _ _ (pv 0) pe_str (by rfl) (by rfl))))),_,rfl,z,"turn",rfl,hz,ho,q1,q2⟩
theorem l5 (T:Tx K mg ad) {f:Addr} {fd:FuncData} (F:Gn K mg "read_piece" fi ["text"] f fd):FnOk P w K mg base (CXE P w) 66 f fd ["text"] (iJ K ad "piece"):=by
 obtain ⟨f1,d1,Iy⟩:=T.read_all;have Jt:=jS (P:=P) (w:=w) (base:=base) T Iy;refine F.F.okW mj (fun vs H Q E h=>?_) (fun cdv A outer s H vs Q E hr h=>?_)
 ·obtain ⟨z,rfl,_⟩:=h
  rfl
 obtain ⟨z,rfl,hz,ho,q1,q2⟩:=h;exact ⟨_,(@pss_one _ _ _ (@ps_ret _ _ _ _ (pe_call Jt (hr.mono (by first | decide | lia)) rfl Iy.m Iy.F.kp Iy.b .nil (wing_on rfl rfl rfl) (@pa2 _ _ _ _ _ (pv 0) pe_str (by rfl) (by rfl))))),_,rfl,z,"piece",rfl,hz,ho,q1,q2⟩
def cW (cs:List Nat):Option (List Tk):=(e9 cs).map (List.map toTk)
theorem rj (r:List Nat):cW (32 :: r)=cW r:=by
 unfold cW;rw [k9];have e:dl (32 :: r)=some 1:=by
  simp only [dl];rw [if_neg (by decide),if_neg (by decide +kernel),if_neg (by decide +kernel)]
 rw [e]
 rfl
theorem ug (c:Nat) (w r:List Nat):(c :: (w++r)).take (w.length+1)=c :: w:=by simp
theorem uh (c:Nat) (w r:List Nat):(c :: (w++r)).drop (w.length+1)=r:=by simp
theorem iK {c:Nat} {w r:List Nat} {d:Dt} (hc:¬ c=32) (hw:dl (c :: (w++r))=some (w.length+1)) (hm:mkW (c :: w)=some d):cW (c :: (w++r))=(cW r).map (toTk d :: ·):=by
 unfold cW;rw [k9,hw];dsimp only;rw [if_neg hc,ug,uh,hm]
 cases e9 r <;> rfl
theorem uk {c:Nat} (r:List Nat) (h:c∈[40,41,91,93,123,125,44,58,59,47]):cW (c :: r)=(cW r).map (aU ⟨#[c]⟩ :: ·):=by
 have key:¬ c=32∧¬ c=34∧¬ aM letS c=true∧¬ (c=45∨aM figS c=true)∧(!(Builtin.Str.occurrences marksS (cC [c]) 0 marksS.length 1).isEmpty)=true:=by
  revert c
  decide +kernel
 obtain ⟨a,b,c1,d,e⟩:=key;refine iK (w:=[]) (d:=mk2 "mark" (.str (cC [c]))) a ?_ (by unfold mkW;rw [if_pos e]);simp only [dl];rw [if_neg b,if_neg c1,if_neg d]
 rfl
theorem sE {L:Str} {w r:List Nat} (h:w.all (aM L)=true) (hr:∀ c,r.head?=some c→aM L c=false):bZ L (w++r)=w.length:=by
 induction w with
 | nil =>
  cases r with
  | nil=>rfl
  | cons c r =>
   show bZ L (c :: r)=0;unfold bZ;rw [aAX,if_neg (by rw [hr c rfl];decide)]
   rfl
 | cons c w ih =>
  rw [aA7,aAB] at h;show bZ L (c :: (w++r))=w.length+1;unfold bZ;rw [aAX,if_pos h.1,aAb];exact congrArg Nat.succ (ih h.2)
theorem rm {c:Nat} (h:aM letS c=true):¬ c=34∧¬ c=32:=by
 constructor <;> (rintro rfl;revert h;decide +kernel)
theorem vW {c:Nat} (h:aM figS c=true):¬ c=34∧¬ c=32∧¬ aM letS c=true:=by
 have e:figS.cps.toList=[48,49,50,51,52,53,54,55,56,57]:=by decide +kernel
 have h':c∈[48,49,50,51,52,53,54,55,56,57]:=by
  rw [← e];exact of_decide_eq_true h
 clear h e
 revert c
 decide +kernel
theorem ul {c:Nat} {w r:List Nat} (h:(c :: w).all (aM letS)=true) (hr:∀ c,r.head?=some c→aM letS c=false):dl (c :: (w++r))=some (w.length+1):=by
 have hc:aM letS c=true:=by rw [aA7,aAB] at h;exact h.1
 simp only [dl];rw [if_neg (rm hc).1,if_pos hc];exact congrArg some (sE (w:=c :: w) h hr)
theorem um {c:Nat} {w r:List Nat} {d:Dt} (h:(c :: w).all (aM letS)=true) (hr:∀ c,r.head?=some c→aM letS c=false) (hm:mkW (c :: w)=some d):cW (c :: (w++r))=(cW r).map (toTk d :: ·) :=
 iK (by rw [aA7,aAB] at h;exact (rm h.1).2) (ul h hr) hm
theorem vX {c:Nat} {w r:List Nat} (hc:c=45∨aM figS c=true) (h:w.all (aM figS)=true) (hr:∀ c,r.head?=some c→aM figS c=false):dl (c :: (w++r))=some (w.length+1):=by
 have n34:¬ c=34∧¬ c=32∧¬ aM letS c=true:=by
  rcases hc with rfl | hc
  ·decide +kernel
  ·exact vW hc
 simp only [dl];rw [if_neg n34.1,if_neg n34.2.2,if_pos hc,sE h hr,Nat.add_comm]
theorem uo {b r:List Nat} (h:b.all (fun c=>!(c == 34))=true):dl (34 :: ((b++[34])++r))=some ((b++[34]).length+1):=by
 simp only [dl];rw [if_pos trivial];have e:((b++[34])++r).findIdx? (· == 34)=some b.length:=by
  induction b with
  | nil=>rfl
  | cons c b ih =>
   rw [aA7,aAB] at h;have hc:(c == 34)=false:=by simpa using h.1
   show (c :: ((b++[34])++r)).findIdx? _=_;rw [aBE,hc,ih h.2]
   rfl
 rw [e,aAc]
 rfl
abbrev mU (s:Str):Tk:=(("word" : Str),Sum.inr s)
abbrev sF (s:Str):Tk:=(("text" : Str),Sum.inr s)
abbrev xv (n:Int):Tk:=(("number" : Str),Sum.inl n)
theorem vY {w:List Nat} {t:Tk} (h:(mkW w).map toTk=some t):∃ d,mkW w=some d∧toTk d=t:=aAh.mp h
def lp (L:Str) (r:List Nat):Prop:=∀ c,r.head?=some c→aM L c=false
theorem A9 {c:Nat} {w r:List Nat} {t:Tk} (h:(c :: w).all (aM letS)=true) (hr:lp letS r) (hm:(mkW (c :: w)).map toTk=some t):cW (c :: (w++r))=(cW r).map (t :: ·):=by
 obtain ⟨d,hd,rfl⟩:=vY hm;exact um h hr hd
theorem Ba {c:Nat} {w r:List Nat} {t:Tk} (hc:c=45∨aM figS c=true) (h:w.all (aM figS)=true) (hr:lp figS r) (hm:(mkW (c :: w)).map toTk=some t):cW (c :: (w++r))=(cW r).map (t :: ·):=by
 obtain ⟨d,hd,rfl⟩:=vY hm;exact iK (by
  rcases hc with rfl | hc
  ·decide
  ·exact (vW hc).2.1) (vX hc h hr) hd
theorem Bb {b r:List Nat} {t:Tk} (h:b.all (fun c=>!(c == 34))=true) (hm:(mkW (34 :: (b++[34]))).map toTk=some t):cW (34 :: ((b++[34])++r))=(cW r).map (t :: ·):=by
 obtain ⟨d,hd,rfl⟩:=vY hm;exact iK (by decide) (uo h) hd
theorem ni {L:Str} {c:Nat} {r:List Nat} (h:aM L c=false):lp L (c :: r):=fun d hd=>by
 cases hd
 exact h
abbrev markL:List Str:=["(",")","[","]","{","}",",",":",";","/"]
def tokS (z:Str):Tk:=((mkW z.cps.toList).map toTk).getD lX
def lq (z:Str):Prop:=∀ r,lp letS r→lp figS r→cW (z.cps.toList++r)=(cW r).map (tokS z :: ·)
def HdM (ws:List Str):Prop:=∀ w,ws.head?=some w→w∈markL
inductive GL:List Str→Prop
 | nil:GL []
 | mark {m:Str} {ws:List Str}:m∈markL→GL ws→GL (m :: ws)
 | word {w:Str} {ws:List Str}:lq w→HdM ws→GL ws→GL (w :: ws)
def aV:List Str→List Nat→List Nat
 | w :: ws,b :: bs=>w.cps.toList++(List.replicate b 32++aV ws bs)
 | _,_=>[]
theorem cn (r:List Nat):∀ b:Nat,cW (List.replicate b 32++r)=cW r
 | 0=>rfl
 | b+1=>by
  rw [aA8,aBQ,rj];exact cn r b
theorem aR:∀ m∈markL,tokS m=aU m∧∃ c∈[40,41,91,93,123,125,44,58,59,47],m=⟨#[c]⟩∧aM letS c=false∧aM figS c=false:=by decide +kernel
theorem vZ {m:Str} (h:m∈markL) (r:List Nat):cW (m.cps.toList++r)=(cW r).map (tokS m :: ·):=by
 obtain ⟨e,c,hc,rfl,_⟩:=aR m h;rw [e];exact uk r hc
theorem v0 {ws:List Str} (h:HdM ws):∀ (b:Nat) (bs:List Nat),lp letS (List.replicate b 32++aV ws bs)∧lp figS (List.replicate b 32++aV ws bs)
 | b+1,bs=>by
  rw [aA8,aBQ];exact ⟨ni (by decide +kernel),ni (by decide +kernel)⟩
 | 0,bs=>by
  rw [List.replicate_zero,List.nil_append]
  cases ws with
  | nil=>exact ⟨(fun c h=>by cases h),fun c h=>by cases h⟩
  | cons w ws =>
   cases bs with
   | nil=>exact ⟨(fun c h=>by cases h),fun c h=>by cases h⟩
   | cons b bs =>
    obtain ⟨_,c,_,rfl,h1,h2⟩:=aR w (h w rfl);exact ⟨ni h1,ni h2⟩
theorem GL.lex {ws:List Str} (h:GL ws):∀ bs:List Nat,bs.length=ws.length→cW (aV ws bs)=some (ws.map tokS):=by
 induction h with
 | nil =>
  intro bs hb;obtain rfl:=aA3.mp hb
  rfl
 | mark hm h ih =>
  intro bs hb
  cases bs with
  | nil=>cases hb
  | cons b bs =>
   simp only [aV];rw [vZ hm,cn,ih bs (Nat.succ.inj hb)]
   rfl
 | word hw hd h ih =>
  intro bs hb
  cases bs with
  | nil=>cases hb
  | cons b bs =>
   simp only [aV];obtain ⟨n1,n2⟩:=v0 hd b bs;rw [hw _ n1 n2,cn,ih bs (Nat.succ.inj hb)]
   rfl
def GW (ws:List Str):Prop:=∀ r,HdM r→GL r→GL (ws++r)
def GM (ws:List Str):Prop:=∀ r,GL r→GL (ws++r)
theorem GM.gw {a:List Str} (h:GM a):GW a:=fun r _ g=>h r g
theorem GW.one {w:Str} (h:lq w):GW [w]:=fun _ hr g=>.word h hr g
theorem GM.one {m:Str} (h:m∈markL):GM [m]:=fun _ g=>.mark h g
theorem GW.mk {a:List Str} {m:Str} (h:GW a) (hm:m∈markL):GM (a++[m]):=fun r g=>by
 rw [aAJ];exact h _ (fun w e=>by cases e;exact hm) (.mark hm g)
theorem GM.app {a b:List Str} (h:GM a) (g:GM b):GM (a++b):=fun r k=>by
 rw [aAJ];exact h _ (g _ k)
theorem GM.then {a b:List Str} (h:GM a) (g:GW b):GW (a++b):=fun r hr k=>by
 rw [aAJ];exact h _ (g _ hr k)
theorem GW.gl {a:List Str} (h:GW a):GL a:=by
 have:=h [] (fun w e=>by cases e) .nil
 rwa [aAZ] at this
def sepW:List (List Str)→List Str
 | []=>[]
 | [x]=>x
 | x :: y :: r=>(x++[("," : Str)])++sepW (y :: r)
theorem GW.sep:∀ {wss:List (List Str)},(∀ x∈wss,GW x)→GW (sepW wss)
 | [],_=>fun _ _ g=>g
 | [x],h=>h x aAi
 | x :: y :: r,h=>((h x aAi).mk (m:= ",") (by decide +kernel)).then (GW.sep fun z hz=>h z (aAg _ hz))
def brW (w:Str) (ws:List Str):List Str:=[w,"("]++ws++[(")" : Str)]
theorem GW.br {w:Str} {ws:List Str} (hw:lq w) (h:GW ws):GM (brW w ws):=(((GW.one hw).mk (m:= "(") (by decide +kernel)).then h).mk (m:= ")") (by decide +kernel)
def blk (w:Str):Nat:=if w= "," ∨w= ":" ∨w= ";" then 1 else 0
def bc (ws:List Str):List Nat:=aV ws (ws.map blk)
def aj (ws:List Str):Str:=cC (bc ws)
theorem bN (w:Str) (ws:List Str):bc (w :: ws)=(w.cps.toList++List.replicate (blk w) 32)++bc ws:=by
 unfold bc;rw [aAo];simp only [aV];rw [aAJ]
theorem aT:∀ (a b:List Str),bc (a++b)=bc a++bc b
 | [],_=>rfl
 | w :: a,b=>by
  rw [aBQ,bN,bN,aT a b];simp only [aAJ]
theorem jt {w:Str} (h:blk w=0):bc [w]=w.cps.toList:=by
 rw [bN,h];show (_++[])++[]=_;rw [aAZ,aAZ]
theorem cj:bc ["("]=[40]∧bc [")"]=[41]∧bc [","]=[44,32]∧bc [":"]=[58,32]∧(Str.ofString ", ").cps.toList=[44,32]∧(Str.ofString ": ").cps.toList=[58,32]∧(Str.ofString "(").cps.toList=[40]∧(Str.ofString ")").cps.toList=[41]:=by decide +kernel
theorem aX (a b:Str):(a++b).cps.toList=a.cps.toList++b.cps.toList:=by
 show (a.cps++b.cps).toList=_;rw [aBx]
theorem dJ (cs:List Nat):(cC cs).cps.toList=cs:=rfl
theorem eQ:∀ wss:List (List Str),(Str.join (Str.ofString ", ") (wss.map aj)).cps.toList=bc (sepW wss)
 | []=>rfl
 | [x]=>rfl
 | x :: y :: r=>by
  have:=eQ (y :: r);rw [aAo] at this;rw [aAo,aAo,PyProof.Rows.join_cons_cons,aX,aX,this];simp only [sepW];rw [aT,aT,cj.2.2.1,cj.2.2.2.2.1]
  rfl
theorem ls (wss:List (List Str)):Str.join (Str.ofString ", ") (wss.map aj)=aj (sepW wss):=cf (eQ wss)
theorem dM {w:Str} (hw:blk w=0) (wss:List (List Str)):w++Str.ofString "(" ++Str.join (Str.ofString ", ") (wss.map aj)++Str.ofString ")" = aj (brW w (sepW wss)):=by
 apply cf;show _=bc _;unfold brW;rw [aX,aX,aX,eQ,aT,aT,bN w ["("],hw,cj.1,cj.2.1,cj.2.2.2.2.2.2.1,cj.2.2.2.2.2.2.2];simp
theorem hZ {w:Str} (hw:blk w=0) (ws:List Str):w++Str.ofString ": " ++aj ws=aj ([w,":"]++ws):=by
 apply cf;show _=bc _;rw [aX,aX,aT,bN w [":"],hw,cj.2.2.2.1,cj.2.2.2.2.2.1];simp [aj,cC]
theorem lu {c:Nat} {w:List Nat} (hc:aM marksS c=false):¬ (!(Builtin.Str.occurrences marksS (cC (c :: w)) 0 marksS.length 1).isEmpty)=true:=by
 rw [PySem.StrLaws.found_iff];rintro ⟨i,_,h2⟩;rw [PySem.StrLaws.subAt_eq,beq_iff_eq] at h2;have hm:c∈(marksS.cps.toList.drop i).take (cC (c :: w)).length:=by
  rw [h2];exact aAi
 have:=decide_eq_true (List.mem_of_mem_drop (List.mem_of_mem_take hm));unfold aM at hc;rw [hc] at this
 cases this
theorem wa {c:Nat} (h:aM letS c=true):aM marksS c=false:=by
 have h':c∈letS.cps.toList:=of_decide_eq_true h
 clear h
 revert c
 decide +kernel
theorem pW {c:Nat} (h:c=45∨aM figS c=true):aM marksS c=false∧aM letS c=false∧c≠34:=by
 rcases h with rfl | h
 ·decide +kernel
 have h':c∈figS.cps.toList:=of_decide_eq_true h
 clear h
 revert c
 decide +kernel
def NmC (z:Str):Prop:=z.cps.toList.all (aM letS)=true∧1≤z.length∧z.length≤8
theorem NmC.tok {z:Str} (h:NmC z):(mkW z.cps.toList).map toTk=some (mU z):=by
 obtain ⟨h1,h2,h3⟩:=h;have hl:=ak z;have ez:=gG z
 cases e:z.cps.toList with
 | nil=>rw [e] at hl;simp at hl;lia
 | cons c w =>
  rw [e] at h1 hl ez;have hc:aM letS c=true:=by rw [aA7,aAB] at h1;exact h1.1
  unfold mkW;rw [if_neg (lu (wa hc)),if_neg (fun x=>(rm hc).1 (Option.some.inj x.1)),if_pos ⟨⟨c,rfl,hc⟩,by lia⟩,ez]
  rfl
theorem NmC.tk {z:Str} (h:NmC z):tokS z=mU z:=by
 unfold tokS;rw [h.tok]
 rfl
theorem NmC.good {z:Str} (h:NmC z):lq z:=by
 intro r n1 _;have ht:=h.tok;rw [h.tk];obtain ⟨h1,h2,h3⟩:=h;have hl:=ak z
 cases e:z.cps.toList with
 | nil=>rw [e] at hl;simp at hl;lia
 | cons c w =>
  rw [e] at h1 ht;exact A9 h1 n1 ht
theorem NmC.bk {z:Str} (h:NmC z):blk z=0:=by
 unfold blk;refine if_neg ?_;rintro (rfl | rfl | rfl)
 ·exact absurd h.1 (by decide +kernel)
 ·exact absurd h.1 (by decide +kernel)
 ·exact absurd h.1 (by decide +kernel)
theorem ju {i:Int} (h:i.natAbs < 10 ^ 60):∃ c w,eK i=c :: w∧(c=45∨aM figS c=true)∧w.all (aM figS)=true∧((eK i).dropWhile (· == 45)).length≤60:=by
 have af:∀ {l:List Nat},NumText.AllDigits l→l.all (aM figS)=true:=fun {l} hd=>aAO.mpr fun c hc=>by
  have:=hd c hc;rw [show aM figS c=fU c from su c ▸ (PySem.StrLaws.found_one figS c).symm];exact decide_eq_true this
 have hl:=nA 59 i.natAbs h;have hn:(dg i.natAbs).dropWhile (· == 45)=dg i.natAbs:=by
  cases e:dg i.natAbs with
  | nil=>rfl
  | cons d t =>
   have hd:=eJ i.natAbs d (by rw [e];exact aAi);rw [aBk,if_neg (by simp;lia)]
 by_cases hi:i < 0
 ·have e:eK i=45 :: dg i.natAbs:=by unfold eK;rw [if_pos hi]
  refine ⟨45,dg i.natAbs,e,.inl rfl,af (eJ _),?_⟩;rw [e,aBk,if_pos (by rfl),hn];exact hl
 ·have e:eK i=dg i.natAbs:=by unfold eK;rw [if_neg hi]
  cases ed:dg i.natAbs with
  | nil=>exact absurd ed (va _)
  | cons d t =>
   have hall:=af (eJ i.natAbs);rw [ed,aA7,aAB] at hall;refine ⟨d,t,by rw [e,ed],.inr hall.1,hall.2,?_⟩;rw [e,hn];exact hl
theorem sG {i:Int} (h:i.natAbs < 10 ^ 60):(mkW (eK i)).map toTk=some (xv i):=by
 obtain ⟨c,w,e,hc,_,hl⟩:=ju h;obtain ⟨m1,m2,m3⟩:=pW hc;have hd:=xp i;rw [e] at hl hd ⊢;unfold mkW;rw [if_neg (lu m1),if_neg (fun x=>m3 (Option.some.inj x.1)),if_neg (fun x=>by
  obtain ⟨⟨d,e1,e2⟩,_⟩:=x
  cases e1
  rw [m2] at e2
  cases e2),if_pos hl,hd]
 rfl
theorem eR {i:Int} (h:i.natAbs < 10 ^ 60):tokS (aH i)=xv i:=by
 unfold tokS;rw [fV,sG h]
 rfl
theorem iL {i:Int} (h:i.natAbs < 10 ^ 60):lq (aH i):=by
 intro r _ n2;rw [eR h,fV];have ht:=sG h;obtain ⟨c,w,e,hc,hw,hl⟩:=ju h;rw [e] at ht ⊢;exact Ba hc hw n2 ht
theorem sH {i:Int} (h:i.natAbs < 10 ^ 60):blk (aH i)=0:=by
 unfold blk;obtain ⟨c,w,e,hc,hw,hl⟩:=ju h;have m1:=(pW hc).1;refine if_neg fun x=>?_;have key:∀ z:Str,(z= "," ∨z= ":" ∨z= ";")→∀ c w,z.cps.toList=c :: w→aM marksS c=true:=by
  rintro z (rfl | rfl | rfl) c w e
  ·rw [show c=44 from by cases e;rfl];decide +kernel
  ·rw [show c=58 from by cases e;rfl];decide +kernel
  ·rw [show c=59 from by cases e;rfl];decide +kernel
 have:=key _ x c w ((fV i).trans e);rw [m1] at this
 cases this
def upT (L:Str):Tk→Bool
 | (w,.inr s)=>decide (w= "mark") && !(Builtin.Str.occurrences L s 0 L.length 1).isEmpty
 | (_,.inl _)=>false
theorem x9 (L:Str) (d:Dt):upB L d=upT L (toTk d):=by
 unfold upB toTk
 split <;> first | rfl | (rename_i h;split <;> first | rfl | (rename_i w s;exact absurd rfl (h w s)))
def stT (p:Int×Int) (t:Tk):Int×Int :=
 (if p.2+(if upT "([{" t=true then 1 else 0) - (if upT ")]}" t=true then 1 else 0) > p.1 then p.2+(if upT "([{" t=true then 1 else 0) - (if upT ")]}" t=true then 1 else 0) else p.1,
  p.2+(if upT "([{" t=true then 1 else 0) - (if upT ")]}" t=true then 1 else 0))
theorem Ha (p:Int×Int) (d:Dt):fW p d=stT p (toTk d):=by
 unfold fW stT;rw [x9,x9]
theorem xw (toks:List Dt):gQ toks=((toks.map toTk).foldl stT (0,0)).1:=by
 unfold gQ;rw [List.foldl_map]
 congr 2
 funext p d
 exact Ha p d
theorem lv (L s:Str):upT L (mU s)=false:=by
 show (decide (("word" : Str)= "mark") && !(Builtin.Str.occurrences L s 0 L.length 1).isEmpty)=false;rw [decide_eq_false (by decide +kernel)]
 rfl
theorem wc (L s:Str):upT L (sF s)=false:=by
 show (decide (("text" : Str)= "mark") && !(Builtin.Str.occurrences L s 0 L.length 1).isEmpty)=false;rw [decide_eq_false (by decide +kernel)]
 rfl
theorem xx (L:Str) (n:Int):upT L (xv n)=false:=rfl
theorem sI {p:Int×Int} {t:Tk} (h1:upT "([{" t=true) (h2:upT ")]}" t=false):stT p t=(max p.1 (p.2+1),p.2+1):=by
 unfold stT;rw [h1,h2];simp only [if_true,aAF,if_false]
 congr 1
 ·split <;> lia
 ·lia
theorem pX {p:Int×Int} {t:Tk} (h1:upT "([{" t=false) (h2:upT ")]}" t=true) (h:p.2≤p.1+1):stT p t=(p.1,p.2 - 1):=by
 unfold stT;rw [h1,h2];simp only [if_true,aAF,if_false]
 congr 1
 ·split <;> lia
 ·lia
theorem sJ {p:Int×Int} {t:Tk} (h1:upT "([{" t=false) (h2:upT ")]}" t=false) (h:p.2≤p.1):stT p t=p:=by
 unfold stT;rw [h1,h2];simp only [aAF,if_false];obtain ⟨a,b⟩:=p;simp at h ⊢;lia
theorem uq {cs:List Nat} {ts:List Tk} (h:cW cs=some ts):∃ toks,e9 cs=some toks∧toks.map toTk=ts:=aAh.mp h
theorem og {cs:List Nat} {s:Str} {ts:List Tk} {v:Dt} {q:Nat} (h:cW cs=some ts) (hd:(ts.foldl stT (0,0)).1≤40) (hp:prs ts 60 s 0=.ok v q) (he:am ts q=lX):cB 60 s cs=some v∧xu 60 s cs:=by
 obtain ⟨toks,hL,rfl⟩:=uq h;rw [← xw] at hd
 constructor
 ·unfold cB;rw [hL];dsimp only;rw [if_pos hd,hp];dsimp only;rw [if_pos he]
 ·intro t ht _;rw [hL] at ht
  cases ht
  rw [hp];exact fun c=>by cases c
theorem aP {T:List Tk} {p:Nat} {t:Tk} {l:List Tk} (h:T.drop p=t :: l):am T p=t∧T.drop (p+1)=l∧p < T.length:=by
 have hp:p < T.length:=by
  have:=congrArg List.length h;rw [aAI,aAb] at this;lia
 rw [aA6 hp] at h;injection h with h1 h2
 refine ⟨?_,h2,hp⟩;unfold am;rw [aAv hp,h1]
 rfl
theorem rn {T:List Tk} {p:Nat} (h:T.drop p=[]):am T p=lX:=by
 unfold am;rw [aBv (List.drop_eq_nil_iff.mp h)]
 rfl
theorem lA {T:List Tk} {p:Nat} {a b:List Tk} (h:T.drop p=a++b):T.drop (p+a.length)=b:=by
 rw [← List.drop_drop,h,List.drop_left]
abbrev G3:=Str×Dt×List Str
abbrev pr3 (g:G3):Dt:=.tup [.str g.1,g.2.1]
abbrev fw3 (g:G3):List Str:=[g.1,":"]++g.2.2
inductive KW:Nat→Dt→List Str→Prop
 | number (n:Nat) (i j:Int):i.natAbs < 10 ^ 60→j.natAbs < 10 ^ 60→KW (n+1) (.tup [.str "number",.int i,.int j]) (brW "number" (sepW [[aH i],[aH j]]))
 | text (n:Nat) (i:Int):i.natAbs < 10 ^ 60→KW (n+1) (.tup [.str "text",.int i]) (brW "text" (sepW [[aH i]]))
 | choice (n:Nat) (ws:List Str):ws≠[]→ws.length≤8→(∀ z∈ws,NmC z)→KW (n+1) (.tup [.str "choice",.tup (ws.map Dt.str)]) (brW "choice" (sepW (ws.map fun z=>[z])))
 | list {n:Nat} {k:Dt} {kw:List Str} {i:Int}:KW n k kw→i.natAbs < 10 ^ 60→KW (n+1) (.tup [.str "list",k,.int i]) (brW "list" (sepW [[aH i],kw]))
 | rows {n:Nat} {z:Str} {k:Dt} {kw:List Str} {i:Int}:NmC z→KW n k kw→i.natAbs < 10 ^ 60→KW (n+1) (.tup [.str "rows",.str z,k,.int i]) (brW "rows" (sepW [[z],[aH i],kw]))
 | rcd {n:Nat} {gs:List G3}:gs.length≤8→(∀ g∈gs,NmC g.1)→(∀ g∈gs,KW n g.2.1 g.2.2)→KW (n+1) (.tup [.str "record",.tup (gs.map pr3)]) (brW "record" (sepW (gs.map fw3)))
theorem bn:∀ z∈([("number" : Str),"text","choice","list","rows","record"]),z.cps.toList.all (aM letS)=true∧1≤z.length∧z.length≤8:=by decide +kernel
theorem KW.gm {n:Nat} {d:Dt} {ws:List Str} (h:KW n d ws):GM ws:=by
 have w:∀ z∈([("number" : Str),"text","choice","list","rows","record"]),lq z:=fun z hz=>NmC.good (bn z hz);have nm:∀ {i:Int},i.natAbs < 10 ^ 60→GW [aH i]:=fun hi=>GW.one (iL hi)
 induction h with
 | number n i j hi hj=>exact GW.br (w _ (by simp)) (GW.sep fun x hx=>by
   rcases aAm.mp hx with rfl | hx
   ·exact nm hi
   ·rw [aAq.mp hx];exact nm hj)
 | text n i hi=>exact GW.br (w _ (by simp)) (GW.sep fun x hx=>by rw [aAq.mp hx];exact nm hi)
 | choice n zs h0 h8 hz=>exact GW.br (w _ (by simp)) (GW.sep fun x hx=>by
   obtain ⟨z,h,rfl⟩:=aAl.mp hx;exact GW.one (hz z h).good)
 | list hk hi ih=>exact GW.br (w _ (by simp)) (GW.sep fun x hx=>by
   rcases aAm.mp hx with rfl | hx
   ·exact nm hi
   ·rw [aAq.mp hx];exact ih.gw)
 | rows hz hk hi ih=>exact GW.br (w _ (by simp)) (GW.sep fun x hx=>by
   rcases aAm.mp hx with rfl | hx
   ·exact GW.one hz.good
   rcases aAm.mp hx with rfl | hx
   ·exact nm hi
   ·rw [aAq.mp hx];exact ih.gw)
 | rcd h8 hz hk ih=>exact GW.br (w _ (by simp)) (GW.sep fun x hx=>by
   obtain ⟨g,h,rfl⟩:=aAl.mp hx;exact (GW.mk (a:=[g.1]) (m:= ":") (GW.one (hz g h).good) (by decide +kernel)).then (ih g h).gw)
def BD (n:Nat) (ws:List Str):Prop:=∀ p:Int×Int,p.2≤p.1→((ws.map tokS).foldl stT p).2=p.2∧p.1≤((ws.map tokS).foldl stT p).1∧((ws.map tokS).foldl stT p).1≤max p.1 (p.2+n)
theorem BD.nil (n:Nat):BD n []:=fun p _=>⟨rfl,aBB _,by show p.1≤_;lia⟩
theorem BD.app {n:Nat} {a b:List Str} (h:BD n a) (g:BD n b):BD n (a++b):=fun p hp=>by
 obtain ⟨h1,h2,h3⟩:=h p hp;rw [aAt,aBh];obtain ⟨g1,g2,g3⟩:=g ((a.map tokS).foldl stT p) (by lia);lia
theorem BD.flat {n:Nat} {w:Str} (h1:upT "([{" (tokS w)=false) (h2:upT ")]}" (tokS w)=false):BD n [w]:=fun p hp=>by
 show (stT p (tokS w)).2=_∧_≤(stT p (tokS w)).1∧(stT p (tokS w)).1≤_;rw [sJ h1 h2 hp];lia
theorem BD.sep {n:Nat}:∀ {wss:List (List Str)},(∀ x∈wss,BD n x)→BD n (sepW wss)
 | [],_=>BD.nil n
 | [x],h=>h x aAi
 | x :: y :: r,h=>((h x aAi).app (BD.flat (w:= ",") (by decide +kernel) (by decide +kernel))).app (BD.sep fun z hz=>h z (aAg _ hz))
theorem NmC.bd {n:Nat} {z:Str} (h:NmC z):BD n [z]:=by
 refine BD.flat ?_ ?_ <;> (rw [h.tk];exact lv _ _)
theorem fZ {n:Nat} {i:Int} (h:i.natAbs < 10 ^ 60):BD n [aH i]:=by
 refine BD.flat ?_ ?_ <;> (rw [eR h];exact xx _ _)
theorem BD.br {n:Nat} {w:Str} {ws:List Str} (hw:NmC w) (h:BD n ws):BD (n+1) (brW w ws):=fun p hp=>by
 unfold brW;rw [aAt,aAt,aBh,aBh];have e1:([w,"("].map tokS).foldl stT p=(max p.1 (p.2+1),p.2+1):=by
  show stT (stT p (tokS w)) (tokS "(")=_;rw [hw.tk,sJ (lv _ _) (lv _ _) hp,(aR "(" (by decide +kernel)).1,sI (by decide +kernel) (by decide +kernel)]
 rw [e1];obtain ⟨g1,g2,g3⟩:=h (max p.1 (p.2+1),p.2+1) (by show p.2+1≤max p.1 (p.2+1);lia)
 revert g1 g2 g3
 generalize (ws.map tokS).foldl stT (max p.1 (p.2+1),p.2+1)=r
 intro g1 g2 g3;have e2:([(")" : Str)].map tokS).foldl stT r=(r.1,r.2 - 1):=by
  show stT r (tokS ")")=_;rw [(aR ")" (by decide +kernel)).1,pX (by decide +kernel) (by decide +kernel) (by dsimp only at g1 g2 g3;lia)]
 rw [e2];dsimp only at g1 g2 g3 ⊢;lia
theorem BD.mono {n m:Nat} {ws:List Str} (h:BD n ws) (hl:n≤m):BD m ws:=fun p hp=>by
 obtain ⟨a,b,c⟩:=h p hp;exact ⟨a,b,by lia⟩
theorem KW.bd {n:Nat} {d:Dt} {ws:List Str} (h:KW n d ws):BD n ws:=by
 have w:∀ z∈([("number" : Str),"text","choice","list","rows","record"]),NmC z:=bn
 induction h with
 | number n i j hi hj=>exact BD.br (w _ (by simp)) (BD.sep fun x hx=>by
   rcases aAm.mp hx with rfl | hx
   ·exact fZ hi
   ·rw [aAq.mp hx];exact fZ hj)
 | text n i hi=>exact BD.br (w _ (by simp)) (BD.sep fun x hx=>by rw [aAq.mp hx];exact fZ hi)
 | choice n zs h0 h8 hz=>exact BD.br (w _ (by simp)) (BD.sep fun x hx=>by
   obtain ⟨z,h,rfl⟩:=aAl.mp hx;exact (hz z h).bd)
 | list hk hi ih=>exact BD.br (w _ (by simp)) (BD.sep fun x hx=>by
   rcases aAm.mp hx with rfl | hx
   ·exact fZ hi
   ·rw [aAq.mp hx];exact ih)
 | rows hz hk hi ih=>exact BD.br (w _ (by simp)) (BD.sep fun x hx=>by
   rcases aAm.mp hx with rfl | hx
   ·exact hz.bd
   rcases aAm.mp hx with rfl | hx
   ·exact fZ hi
   ·rw [aAq.mp hx];exact ih)
 | rcd h8 hz hk ih=>exact BD.br (w _ (by simp)) (BD.sep fun x hx=>by
   obtain ⟨g,h,rfl⟩:=aAl.mp hx;exact ((hz g h).bd.app (BD.flat (w:= ":") (by decide +kernel) (by decide +kernel))).app (ih g h))
theorem lB:∀ (x:List Str) (xs:List (List Str)),sepW (x :: xs)=x++xs.flatMap fun y=>("," : Str) :: y
 | x,[]=>by
  show x=x++[];rw [aAZ]
 | x,y :: r=>by
  show (x++[("," : Str)])++sepW (y :: r)=_;rw [lB y r,aAJ]
  rfl
abbrev Rd (T:List Tk) (rd:Nat→PR) (it:Dt×List Str):Prop:=∀ q r,T.drop q=it.2.map tokS++r→rd q=.ok it.1 (q+it.2.length)
abbrev bU (its:List (Dt×List Str)):List Str:=its.flatMap fun it=>("," : Str) :: it.2
theorem wf:tokS "," = aU "," :=(aR "," (by decide +kernel)).1
theorem pY {T:List Tk} {rd:Nat→PR} {cl:Str} (hc:cl∈markL) (hn:¬ ("," : Str)=cl):∀ (its:List (Dt×List Str)) (m p:Nat) (fs:List Dt) (rest:List Tk),its.length < m→(∀ it∈its,Rd T rd it)→0 < fs.length→T.drop p=(bU its++[cl]).map tokS++rest →
  cM T rd cl m p fs=.ok (.tup (fs++its.map (·.1))) (p+(bU its).length+1)
 | _,0,_,_,_,h,_,_,_=>absurd h (aBV _)
 | [],m+1,p,fs,rest,h,hr,h0,hT=>by
  obtain ⟨e1,_,_⟩:=aP (t:=tokS cl) (l:=rest) hT;simp only [cM];rw [e1,(aR cl hc).1,if_pos rfl,aA5,aAZ]
  rfl
 | it :: its,m+1,p,fs,rest,h,hr,h0,hT=>by
  have e0:(bU (it :: its)++[cl]).map tokS++rest=tokS "," :: (it.2.map tokS++((bU its++[cl]).map tokS++rest)):=by
   simp [bU]
  rw [e0] at hT;obtain ⟨e1,hT1,_⟩:=aP hT;rw [wf] at e1;have hr1:=hr it aAi (p+1) _ hT1;have hT2:=lA hT1;rw [aAa] at hT2;simp only [cM];rw [e1,if_neg (fun c=>hn (by injection c with _ c;injection c)),if_pos h0,aF e1,hr1];show cM T rd cl m _ (fs++[it.1])=_;rw [pY hc hn its m (p+1+it.2.length) (fs++[it.1]) rest (Nat.lt_of_succ_lt_succ h) (fun x hx=>hr x (aAg _ hx)) (by simp) hT2]
  congr 1
  ·simp
  ·simp only [bU,aBq,aAc,aAb];lia
theorem wj {T:List Tk} {p:Nat} {a b:List Tk} (h:T.drop p=a++b):a.length≤T.length:=by
 have:=congrArg List.length h;rw [aAI,aAc] at this;lia
theorem wm (its:List (Dt×List Str)):its.length≤(bU its).length:=by
 induction its with
 | nil=>exact aAD _
 | cons it its ih=>simp only [bU,aBq,aAc,aAb] at ih ⊢;lia
theorem dN {T:List Tk} {rd:Nat→PR} {cl:Str} (hc:cl∈markL) (hn:¬ ("," : Str)=cl) {its:List (Dt×List Str)} {p:Nat} {rest:List Tk} (hr:∀ it∈its,Rd T rd it) (hh:∀ it∈its,∃ w r,it.2=w :: r∧¬ tokS w=aU cl)
  (hT:T.drop p=(sepW (its.map (·.2))++[cl]).map tokS++rest):fD T rd cl p=.ok (.tup (its.map (·.1))) (p+(sepW (its.map (·.2))).length+1):=by
 unfold fD
 cases its with
 | nil =>
  obtain ⟨e1,_,_⟩:=aP (t:=tokS cl) (l:=rest) hT;simp only [cM];rw [e1,(aR cl hc).1,if_pos rfl]
  rfl
 | cons it its =>
  have es:sepW ((it :: its).map (·.2))=it.2++bU its:=by
   rw [aAo,lB];simp [bU,List.flatMap_map]
  have hlen:=wj hT;rw [es] at hT hlen ⊢;have e0:((it.2++bU its)++[cl]).map tokS++rest=it.2.map tokS++((bU its++[cl]).map tokS++rest):=by simp
  rw [e0] at hT;obtain ⟨w,r,ew,hw⟩:=hh it aAi;have hr1:=hr it aAi p _ hT;have hT2:=lA hT;rw [aAa] at hT2;rw [ew] at hT;obtain ⟨e1,_,_⟩:=aP hT;have tl:=wm its;simp only [aAa,aAc,aAb,aAn] at hlen;simp only [cM];rw [e1,if_neg hw,if_neg (show ¬ 0 < ([]:List Dt).length by decide),hr1];show cM T rd cl T.length _ ([]++[it.1])=_;rw [pY hc hn its T.length _ _ rest (by lia) (fun x hx=>hr x (aAg _ hx)) (by simp) hT2]
  congr 1
  simp only [aAc];lia
theorem pZ {T:List Tk} {rd:Str→Nat→PR}:∀ (fs:List Str) (its:List (Dt×List Str)) (p:Nat) (gs:List Dt) (rest:List Tk),its.length=fs.length→(∀ x∈fs.zip its,Rd T (rd x.1) x.2)→1 < gs.length→T.drop p=(bU its++[(")" : Str)]).map tokS++rest →
  cN T rd fs p gs=.ok (.tup (gs++its.map (·.1))) (p+(bU its).length+1)
 | [],[],p,gs,rest,_,_,_,hT=>by
  obtain ⟨e1,_,_⟩:=aP (t:=tokS ")") (l:=rest) hT;simp only [cN];rw [aF (e1.trans (aR ")" (by decide +kernel)).1),aA5,aAZ]
  rfl
 | s :: fs,it :: its,p,gs,rest,hl,hr,h1,hT=>by
  have e0:(bU (it :: its)++[(")" : Str)]).map tokS++rest=tokS "," :: (it.2.map tokS++((bU its++[(")" : Str)]).map tokS++rest)):=by
   simp [bU]
  rw [e0] at hT;obtain ⟨e1,hT1,_⟩:=aP hT;rw [wf] at e1;have hr1:rd s (p+1)=.ok it.1 (p+1+it.2.length):=hr (s,it) aAi (p+1) _ hT1;have hT2:=lA hT1;rw [aAa] at hT2;simp only [cN];rw [if_pos h1,aF e1,hr1];show cN T rd fs _ (gs++[it.1])=_;rw [pZ fs its (p+1+it.2.length) (gs++[it.1]) rest (Nat.succ.inj hl) (fun x hx=>hr x (aAg _ hx)) (by simp;lia) hT2]
  congr 1
  ·simp
  ·simp only [bU,aBq,aAc,aAb];lia
theorem iM {T:List Tk} {rd:Str→Nat→PR} {so w:Str} {fs:List Str} {its:List (Dt×List Str)} {p:Nat} {rest:List Tk} (hf:aK so w=some fs) (hl:its.length=fs.length) (hr:∀ x∈fs.zip its,Rd T (rd x.1) x.2)
  (hT:T.drop p=tokS "(" :: ((sepW (its.map (·.2))++[(")" : Str)]).map tokS++rest)):gS T rd so w p=.ok (.tup (.str w :: its.map (·.1))) (p+1+(sepW (its.map (·.2))).length+1):=by
 unfold gS;rw [hf];dsimp only;obtain ⟨e1,hT1,_⟩:=aP hT;rw [aF (e1.trans (aR "(" (by decide +kernel)).1)]
 cases fs with
 | nil =>
  obtain rfl:=aA3.mp hl;obtain ⟨e2,_,_⟩:=aP (t:=tokS ")") (l:=rest) hT1;simp only [cN];rw [aF (e2.trans (aR ")" (by decide +kernel)).1)]
  rfl
 | cons s fs =>
  cases its with
  | nil=>cases hl
  | cons it its =>
   have es:sepW ((it :: its).map (·.2))=it.2++bU its:=by
    rw [aAo,lB];simp [bU,List.flatMap_map]
   rw [es] at hT1 ⊢;have e0:((it.2++bU its)++[(")" : Str)]).map tokS++rest=it.2.map tokS++((bU its++[(")" : Str)]).map tokS++rest):=by simp
   rw [e0] at hT1;have hr1:rd s (p+1)=.ok it.1 (p+1+it.2.length):=hr (s,it) aAi (p+1) _ hT1;have hT2:=lA hT1;rw [aAa] at hT2;simp only [cN];rw [if_neg (show ¬ 1 < ([Dt.str w]:List Dt).length from aAR 1),hr1];show cN T rd fs (p+1+it.2.length) ([Dt.str w]++[it.1])=_;rw [pZ fs its (p+1+it.2.length) ([Dt.str w]++[it.1]) rest (Nat.succ.inj hl) (fun x hx=>hr x (aAg _ hx)) (by simp) hT2]
   congr 1
   simp only [aAc];lia
theorem p8 (z m:Str):¬ mU z=aU m:=fun c=>absurd (show (Str.ofString "word")=Str.ofString "mark" from congrArg Prod.fst c) (by decide +kernel)
theorem lC (T:List Tk) (n p:Nat):prs T (n+3) "kind" p=mQ T (prs T n) p:=by
 simp only [prs];rw [if_neg (by decide +kernel),if_pos trivial]
theorem p9 (T:List Tk) (n p:Nat) {s:Str} (h:s= "number" ∨s= "word"):prs T (n+3) s p=df T s p:=by
 rcases h with rfl | rfl <;>
 ·simp only [prs];rw [if_neg (by decide +kernel),if_neg (by decide +kernel),if_neg (by decide +kernel),if_neg (by decide +kernel),if_neg (by decide +kernel),if_neg (by decide +kernel)]
  rfl
theorem ur (T:List Tk) (n p:Nat):prs T (n+3) "field" p=jR T (prs T (n+1)) "kind" p:=by
 simp only [prs];rw [if_neg (by decide +kernel),if_neg (by decide +kernel),if_neg (by decide +kernel),if_neg (by decide +kernel),if_neg (by decide +kernel),if_neg (by decide +kernel)]
 rfl
theorem bG {T:List Tk} {p:Nat} {z:Str} {f:Str→Nat→PR} (h:am T p=mU z):gR T p f=f z (p+1):=by
 unfold gR;rw [h];exact if_pos rfl
theorem h7 {T:List Tk} {n:Nat} {i:Int} (h:i.natAbs < 10 ^ 60) (hn:3≤n):Rd T (prs T n "number") (.int i,[aH i]):=fun q r hT=>by
 obtain ⟨n,rfl⟩:=aAs hn;obtain ⟨e,_,_⟩:=aP (t:=tokS (aH i)) (l:=r) hT;rw [p9 T n q (.inl rfl)];unfold df;rw [e,eR h,if_pos rfl]
 rfl
theorem iN {T:List Tk} {n:Nat} {z:Str} (h:NmC z) (hn:3≤n):Rd T (prs T n "word") (.str z,[z]):=fun q r hT=>by
 obtain ⟨n,rfl⟩:=aAs hn;obtain ⟨e,_,_⟩:=aP (t:=tokS z) (l:=r) hT;rw [p9 T n q (.inr rfl)];unfold df;rw [e,h.tk,if_pos rfl]
 rfl
theorem fc {T:List Tk} {p:Nat} {w:Str} {ws:List Str} {rest:List Tk} (hw:NmC w) (hT:T.drop p=(brW w ws).map tokS++rest):am T p=mU w∧T.drop (p+1)=tokS "(" :: ((ws++[(")" : Str)]).map tokS++rest):=by
 have e0:(brW w ws).map tokS++rest=tokS w :: (tokS "(" :: ((ws++[(")" : Str)]).map tokS++rest)):=by simp [brW]
 rw [e0] at hT;obtain ⟨e1,hT1,_⟩:=aP hT;exact ⟨e1.trans hw.tk,hT1⟩
theorem cX (w:Str) (ws:List Str):(brW w ws).length=ws.length+3:=by simp [brW]
theorem gI {T:List Tk} {n p:Nat} {w:Str} {fs:List Str} {its:List (Dt×List Str)} {rest:List Tk} (hw:NmC w) (n1:¬ w= "choice") (n2:¬ w= "record") (hf:aK "kind" w=some fs) (hl:its.length=fs.length) (hr:∀ x∈fs.zip its,Rd T (prs T n x.1) x.2)
  (hT:T.drop p=(brW w (sepW (its.map (·.2)))).map tokS++rest):prs T (n+3) "kind" p=.ok (.tup (.str w :: exL w (its.map (·.1)))) (p+(brW w (sepW (its.map (·.2)))).length):=by
 obtain ⟨e1,hT1⟩:=fc hw hT;rw [lC];unfold mQ;rw [bG e1,if_neg n1,if_neg n2,iM hf hl hr hT1];show PR.ok (Dt.tup (Dt.str w :: exL w (its.map (·.1)))) _=_
 congr 1
 rw [cX];lia
theorem KW.head {n:Nat} {d:Dt} {ws:List Str} (h:KW n d ws):∃ w r,ws=w :: r∧NmC w:=by
 cases h <;> exact ⟨_,_,rfl,bn _ (by simp)⟩
theorem KW.parse {k:Nat} {d:Dt} {ws:List Str} (h:KW k d ws):∀ (T:List Tk) (m:Nat),5*k+3≤m→Rd T (prs T m "kind") (d,ws):=by
 induction h with
 | number n i j hi hj =>
  intro T m hm q r hT;obtain ⟨m,rfl⟩:=aAs (show 3≤m by lia);have:=gI (T:=T) (n:=m) (p:=q) (w:= "number") (fs:=["number","number"]) (its:=[(.int i,[aH i]),(.int j,[aH j])]) (rest:=r) (bn _ (by simp)) (by decide +kernel) (by decide +kernel) (by decide +kernel) rfl (fun x hx=>by
   rcases aAm.mp hx with rfl | hx
   ·exact h7 hi (by lia)
   ·rw [aAq.mp hx];exact h7 hj (by lia)) hT
  rw [this]
  rfl
 | text n i hi =>
  intro T m hm q r hT;obtain ⟨m,rfl⟩:=aAs (show 3≤m by lia);have:=gI (T:=T) (n:=m) (p:=q) (w:= "text") (fs:=["number"]) (its:=[(.int i,[aH i])]) (rest:=r) (bn _ (by simp)) (by decide +kernel) (by decide +kernel) (by decide +kernel) rfl (fun x hx=>by
   rw [aAq.mp hx];exact h7 hi (by lia)) hT
  rw [this]
  rfl
 | @list n k kw i hk hi ih =>
  intro T m hm q r hT;obtain ⟨m,rfl⟩:=aAs (show 3≤m by lia);have:=gI (T:=T) (n:=m) (p:=q) (w:= "list") (fs:=["number","kind"]) (its:=[(.int i,[aH i]),(k,kw)]) (rest:=r) (bn _ (by simp)) (by decide +kernel) (by decide +kernel) (by decide +kernel) rfl (fun x hx=>by
   rcases aAm.mp hx with rfl | hx
   ·exact h7 hi (by lia)
   ·rw [aAq.mp hx];exact ih T m (by lia)) hT
  rw [this]
  rfl
 | @rows n z k kw i hz hk hi ih =>
  intro T m hm q r hT;obtain ⟨m,rfl⟩:=aAs (show 3≤m by lia);have:=gI (T:=T) (n:=m) (p:=q) (w:= "rows") (fs:=["word","number","kind"]) (its:=[(.str z,[z]),(.int i,[aH i]),(k,kw)]) (rest:=r) (bn _ (by simp)) (by decide +kernel) (by decide +kernel) (by decide +kernel) rfl (fun x hx=>by
   rcases aAm.mp hx with rfl | hx
   ·exact iN hz (by lia)
   rcases aAm.mp hx with rfl | hx
   ·exact h7 hi (by lia)
   ·rw [aAq.mp hx];exact ih T m (by lia)) hT
  rw [this]
  rfl
 | choice n zs h0 h8 hz =>
  intro T m hm q r hT;obtain ⟨m,rfl⟩:=aAs (show 3≤m by lia);obtain ⟨e1,hT1⟩:=fc (bn _ (by simp)) hT;obtain ⟨e2,hT2,_⟩:=aP hT1;rw [lC];unfold mQ;rw [bG e1,if_pos rfl,aF (e2.trans (aR "(" (by decide +kernel)).1)];have es:zs.map (fun z=>[z])=(zs.map fun z=>(Dt.str z,[z])).map (·.2):=by rw [aAP];rfl
  rw [es] at hT2;rw [dN (its:=zs.map fun z=>(Dt.str z,[z])) (cl:= ")") (by decide +kernel) (by decide +kernel) (fun it hit=>by
   obtain ⟨z,hz',rfl⟩:=aAl.mp hit;exact iN (hz z hz') (by lia)) (fun it hit=>by
   obtain ⟨z,hz',rfl⟩:=aAl.mp hit;exact ⟨z,[],rfl,by rw [(hz z hz').tk];exact p8 _ _⟩) hT2]
  cases zs with
  | nil=>exact absurd rfl h0
  | cons z zs =>
   show PR.ok (Dt.tup [Dt.str "choice",Dt.tup (((z :: zs).map fun z=>(Dt.str z,[z])).map (·.1))]) _=_;rw [← es,aAP]
   congr 1
   show _=q+(brW _ _).length;rw [cX];lia
 | @rcd n gs h8 hz hk ih =>
  intro T m hm q r hT;obtain ⟨m,rfl⟩:=aAs (show 6≤m by lia);obtain ⟨e1,hT1⟩:=fc (bn _ (by simp)) hT;obtain ⟨e2,hT2,_⟩:=aP hT1;rw [lC];unfold mQ;rw [bG e1,if_neg (by decide +kernel),if_pos rfl,aF (e2.trans (aR "(" (by decide +kernel)).1)];have es:gs.map fw3=(gs.map fun g=>(pr3 g,fw3 g)).map (·.2):=by rw [aAP];rfl
  rw [es] at hT2;rw [dN (its:=gs.map fun g=>(pr3 g,fw3 g)) (cl:= ")") (by decide +kernel) (by decide +kernel) (fun it hit=>by
   obtain ⟨g,hg,rfl⟩:=aAl.mp hit;intro q r hT;have e0:(fw3 g).map tokS++r=tokS g.1 :: (tokS ":" :: (g.2.2.map tokS++r)):=by simp
   rw [show ((pr3 g,fw3 g):Dt×List Str).2=fw3 g from rfl,e0] at hT;obtain ⟨a1,hT1,_⟩:=aP hT;obtain ⟨a2,hT2,_⟩:=aP hT1;rw [ur];unfold jR;rw [bG (a1.trans (hz g hg).tk),aF (a2.trans (aR ":" (by decide +kernel)).1),ih g hg T (m+1) (by lia) _ _ hT2];show PR.ok (Dt.tup [Dt.str g.1,g.2.1]) _=_
   congr 1
   simp;lia) (fun it hit=>by
   obtain ⟨g,hg,rfl⟩:=aAl.mp hit;exact ⟨g.1,_,rfl,by rw [(hz g hg).tk];exact p8 _ _⟩) hT2]
  show PR.ok (Dt.tup [Dt.str "record",Dt.tup ((gs.map fun g=>(pr3 g,fw3 g)).map (·.1))]) _=_;rw [← es,aAP]
  congr 1
  show _=q+(brW _ _).length;rw [cX];lia
def aB (ws:List Str):Nat:=(ws.map fun w=>w.length+3).sum
theorem aY (a b:List Str):aB (a++b)=aB a+aB b:=by simp [aB]
theorem aw (w:Str) (a:List Str):aB (w :: a)=w.length+3+aB a:=by simp [aB]
theorem bE (ws:List Str):ws.length≤aB ws:=by
 induction ws with
 | nil=>exact aAp _
 | cons w ws ih=>rw [aw,aAb];lia
theorem qa {w:Str} {ws:List Str} (h:w∈ws):w.length+3≤aB ws:=by
 induction ws with
 | nil=>cases h
 | cons x ws ih =>
  rw [aw];rcases aAm.mp h with rfl | h
  ·lia
  ·have:=ih h;lia
theorem ut:(Str.ofString ",").length=1∧(Str.ofString "(").length=1∧(Str.ofString ")").length=1∧(Str.ofString ":").length=1:=by decide +kernel
theorem bQ (w:Str) (ws:List Str):aB (brW w ws)=w.length+11+aB ws:=by
 unfold brW;rw [aY,aY,aw,aw,aw,ut.2.1,ut.2.2.1];simp only [aB,aA5,aBo];lia
theorem cP:∀ wss:List (List Str),aB (sepW wss)≤(wss.map fun x=>aB x+4).sum
 | []=>aAp _
 | [x]=>by simp [sepW]
 | x :: y :: r=>by
  have:=cP (y :: r);simp only [sepW];rw [aY,aY,aw,ut.1,aAo,aAW];simp only [aB,aA5,aBo] at this ⊢;lia
theorem h9:∀ (ws:List Str) (bs:List Nat),(∀ b∈bs,b≤2)→(aV ws bs).length≤aB ws
 | [],_,_=>by simp [aV]
 | _ :: _,[],_=>by simp [aV]
 | w :: ws,b :: bs,h=>by
  have:=h9 ws bs fun x hx=>h x (aAg _ hx);have hb:=h b aAi;simp only [aV];rw [aAc,aAc,aA0,aw,ak];lia
theorem lD {z:Str} (h:eP z=true):NmC z:=by
 unfold eP at h;simp only [aAB,decide_eq_true_eq] at h;refine ⟨?_,h.1.1.1,h.1.1.2⟩;rw [← h.2]
 congr 1
 funext c
 exact (PySem.StrLaws.found_one letS c).symm
theorem iO {i:Int} (h:i.natAbs < 10 ^ 35):(aH i).length≤36:=by
 rw [← ak,fV];have:=nA 34 i.natAbs h;unfold eK
 split
 ·rw [aAb];lia
 ·lia
theorem eS {i:Int} (h:i.natAbs < 10 ^ 35):i.natAbs < 10 ^ 60:=aAj h (by decide +kernel)
theorem qb {i:Int} (h1:-1000000000000000000000000000000≤i) (h2:i≤1000000000000000000000000000000):i.natAbs < 10 ^ 35:=aBb (show i.natAbs≤1000000000000000000000000000000 by lia) (by decide +kernel)
theorem ya {n:Nat}:∀ gs:List G4,(∀ g∈gs,∃ ws,KW n g.2.1 ws∧aB ws≤400*g.2.2.2)→(∀ g∈gs,eP g.1=true)→∃ g3:List G3,g3.map pr3=gs.map prG∧g3.length=gs.length∧(∀ g∈g3,NmC g.1)∧(∀ g∈g3,KW n g.2.1 g.2.2)∧((g3.map fw3).map fun x=>aB x+4).sum≤400*jk (gs.map (·.2.2.2))+20*gs.length
 | [],_,_=>⟨[],rfl,rfl,(fun _ h=>nomatch h),(fun _ h=>nomatch h),aAD _⟩
 | g :: gs,h1,h2=>by
  obtain ⟨ws,hw,hl⟩:=h1 g aAi;obtain ⟨g3,e1,e2,e3,e4,e5⟩:=ya gs (fun x hx=>h1 x (aAg _ hx)) fun x hx=>h2 x (aAg _ hx);have hn:=lD (h2 g aAi);refine ⟨(g.1,g.2.1,ws) :: g3,by rw [aAo,aAo,e1],by rw [aAb,aAb,e2],fun x hx=>?_,fun x hx=>?_,?_⟩
  ·rcases aAm.mp hx with rfl | hx
   ·exact hn
   ·exact e3 x hx
  ·rcases aAm.mp hx with rfl | hx
   ·exact hw
   ·exact e4 x hx
  ·rw [aAo,aAo,aAW,aAo,aAb];show aB ([g.1,":"]++ws)+4+_≤400*(g.2.2.2+jk (gs.map (·.2.2.2)))+_;rw [aY,aw,aw,ut.2.2.2,show aB []=0 from rfl];have:=hn.2.2;lia
theorem FK.kw {a c:Nat} {d:Dt} (h:FK a c d):∀ n,a≤n→∃ ws,KW n d ws∧aB ws≤400*c:=by
 have wl:∀ z∈([("number" : Str),"text","choice","list","rows","record"]),z.length≤8:=fun z hz=>(bn z hz).2.2;have one:∀ z:Str,aB [z]=z.length+3:=fun z=>by simp [aB]
 induction h with
 | text i h1 h2 =>
  intro n hn;obtain ⟨n,rfl⟩:=aAs hn;have hi:=qb (i:=i) (by lia) (by lia);refine ⟨_,.text n i (eS hi),?_⟩;have s:=cP [[aH i]];simp only [aAo,aA5,aAW,aBo,one] at s;have:=iO hi;have:=wl "text" (by simp);rw [bQ];lia
 | number i j h1 h2 h3 =>
  intro n hn;obtain ⟨n,rfl⟩:=aAs hn;have hi:=qb (i:=i) (by lia) (by lia);have hj:=qb (i:=j) (by lia) (by lia);refine ⟨_,.number n i j (eS hi) (eS hj),?_⟩;have s:=cP [[aH i],[aH j]];simp only [aAo,aA5,aAW,aBo,one] at s;have:=iO hi;have:=iO hj;have:=wl "number" (by simp);rw [bQ];lia
 | choice ws hw =>
  intro n hn;obtain ⟨n,rfl⟩:=aAs hn;unfold jj at hw;simp only [aAB,decide_eq_true_eq] at hw;have hz:∀ z∈ws,NmC z:=fun z hz=>lD (aAO.mp hw.1.2 z hz);refine ⟨_,.choice n ws (fun e=>by rw [e] at hw;exact absurd hw.1.1.1 (by decide)) hw.1.1.2 hz,?_⟩;have s:=cP (ws.map fun z=>[z]);have key:∀ l:List Str,(∀ z∈l,NmC z)→((l.map fun z=>[z]).map fun x=>aB x+4).sum≤15*l.length:=by
   intro l
   induction l with
   | nil=>intro _;exact aAp _
   | cons z l ih =>
    intro h;have:=ih fun x hx=>h x (aAg _ hx);have:=(h z aAi).2.2;rw [aAo,aAo,aAW,one,aAb];lia
  have k:=key ws hz;have:=wl "choice" (by simp);have:=hw.1.1.2;rw [bQ];lia
 | @list a c k i hk h1 h2 ih =>
  intro n hn;obtain ⟨n,rfl⟩:=aAs (show 1≤n by lia);obtain ⟨kw,hkw,hl⟩:=ih n (by lia);have hi:=qb (i:=i) (by lia) (by lia);refine ⟨_,.list hkw (eS hi),?_⟩;have s:=cP [[aH i],kw];simp only [aAo,aA5,aAW,aBo,one] at s;have:=iO hi;have:=wl "list" (by simp);rw [bQ];lia
 | @rows a c z l i hk hkey h1 h2 ih =>
  intro n hn;obtain ⟨n,rfl⟩:=aAs (show 1≤n by lia);obtain ⟨kw,hkw,hl⟩:=ih n (by lia);have hi:=qb (i:=i) (by lia) (by lia);have hz:NmC z:=by
   obtain ⟨w',r',hm,_⟩:=hkey
   cases hk with
   | @rcd gs g1 g2 g3 g4 =>
    obtain ⟨g,hg,e⟩:=aAl.mp hm;have:g.1=z:=by injection e with e;injection e with e;injection e
    exact this ▸ lD (g3 g hg).1
  refine ⟨_,.rows hz hkw (eS hi),?_⟩;have s:=cP [[z],[aH i],kw];simp only [aAo,aA5,aAW,aBo,one] at s;have:=iO hi;have:=hz.2.2;have:=wl "rows" (by simp);rw [bQ];lia
 | @rcd gs h1 h2 h3 h4 ih =>
  intro n hn;obtain ⟨n,rfl⟩:=aAs (show 1≤n by lia);obtain ⟨g3,e1,e2,e3,e4,e5⟩:=ya (n:=n) gs (fun g hg=>ih g hg n (by
   have:=vp (aBy (f:=fun g:G4=>g.2.2.1) hg);lia)) fun g hg=>(h3 g hg).1
  rw [← e1];refine ⟨_,.rcd (by lia) e3 e4,?_⟩;have s:=cP (g3.map fw3);have:=wl "record" (by simp);rw [bQ];lia
theorem KW.read {n:Nat} {d:Dt} {ws:List Str} (h:KW n d ws) (hn:n≤5) {cs:List Nat} {b:Nat} {bs:List Nat} (hb:bs.length=ws.length) (hc:cs=List.replicate b 32++aV ws bs):cB 60 "kind" cs=some d:=by
 have hl:=h.gm.gw.gl.lex bs hb;rw [← cn (aV ws bs) b,← hc] at hl;have hd:=(h.bd (0,0) (aBB _)).2.2;have hp:=h.parse (ws.map tokS) 60 (by lia) 0 [] (by simp);refine (og hl ?_ hp ?_).1
 ·dsimp only at hd;lia
 ·exact rn (aAS (by simp))
def quo (z:Str):Str:=Str.ofString "\"" ++z++Str.ofString "\""
theorem wn:(Str.ofString "\"").cps.toList=[34]∧(Str.ofString "\"").length=1:=by decide +kernel
theorem oh (z:Str):(quo z).cps.toList=34 :: (z.cps.toList++[34]):=by
 unfold quo;rw [aX,aX,wn.1]
 rfl
theorem sK {z:Str} (h:okT z):(mkW (34 :: (z.cps.toList++[34]))).map toTk=some (sF z):=by
 have e:((34 :: (z.cps.toList++[34])).drop 1).dropLast=z.cps.toList:=by simp
 unfold mkW;rw [e,if_neg (lu (by decide +kernel)),if_pos ⟨rfl,aAO.mpr h⟩,gG]
 rfl
theorem eT {z:Str} (h:okT z):tokS (quo z)=sF z:=by
 unfold tokS;rw [oh,sK h]
 rfl
theorem qc {z:Str} (h:okT z):lq (quo z):=by
 intro r _ _;rw [eT h,oh];exact Bb (aAO.mpr fun c hc=>by
  have:=h c hc;unfold okC at this;simp only [aAB,aBH,decide_eq_false_iff_not] at this
  simpa using this.1.2) (sK h)
theorem xz (z:Str):blk (quo z)=0:=by
 unfold blk;refine if_neg fun x=>?_;have key:∀ y:Str,(y= "," ∨y= ":" ∨y= ";")→y.cps.toList.head?≠some 34:=by
  rintro y (rfl | rfl | rfl) <;> decide +kernel
 exact key _ x (by rw [oh];rfl)
def enc (a:Str) (ws:List Str) (b:Str):List Str:=([a]++ws)++[b]
theorem ki (a:Str) (ws:List Str) (b:Str):(enc a ws b).length=ws.length+2:=by simp [enc]
theorem GW.en {a b:Str} {ws:List Str} (ha:a∈markL) (hb:b∈markL) (h:GW ws):GM (enc a ws b):=((GM.one ha).then h).mk hb
inductive VW:Nat→Dt→List Str→Prop
 | int (n:Nat) (i:Int):i.natAbs < 10 ^ 60→VW n (.int i) [aH i]
 | str (n:Nat) (z:Str):okT z→z.length≤60→VW n (.str z) [quo z]
 | list {n:Nat} {its:List (Dt×List Str)}:its.length≤8→(∀ it∈its,VW n it.1 it.2)→VW (n+1) (mk2 "list" (.tup (its.map (·.1)))) (enc "[" (sepW (its.map (·.2))) "]")
 | rows {n:Nat} {its:List (Dt×List Str)}:its.length≤8→(∀ it∈its,VW n it.1 it.2)→VW (n+1) (mk2 "rows" (.tup (its.map (·.1)))) (enc "(" (sepW (its.map (·.2))) ")")
 | rcd {n:Nat} {gs:List G3}:gs.length≤8→(∀ g∈gs,NmC g.1)→(∀ g∈gs,VW n g.2.1 g.2.2)→VW (n+1) (mk2 "record" (.tup (gs.map pr3))) (enc "{" (sepW (gs.map fw3)) "}")
theorem VW.gw {n:Nat} {d:Dt} {ws:List Str} (h:VW n d ws):GW ws:=by
 induction h with
 | int n i hi=>exact GW.one (iL hi)
 | str n z hz _=>exact GW.one (qc hz)
 | list h8 hk ih=>exact (GW.en (by decide +kernel) (by decide +kernel) (GW.sep fun x hx=>by
   obtain ⟨it,h,rfl⟩:=aAl.mp hx;exact ih it h)).gw
 | rows h8 hk ih=>exact (GW.en (by decide +kernel) (by decide +kernel) (GW.sep fun x hx=>by
   obtain ⟨it,h,rfl⟩:=aAl.mp hx;exact ih it h)).gw
 | rcd h8 hz hk ih=>exact (GW.en (by decide +kernel) (by decide +kernel) (GW.sep fun x hx=>by
   obtain ⟨g,h,rfl⟩:=aAl.mp hx;exact (GW.mk (a:=[g.1]) (m:= ":") (GW.one (hz g h).good) (by decide +kernel)).then (ih g h))).gw
theorem wo {n:Nat} {z:Str} (h:okT z):BD n [quo z]:=by
 refine BD.flat ?_ ?_ <;> (rw [eT h];exact wc _ _)
theorem BD.en {n:Nat} {a b:Str} {ws:List Str} (a1:upT "([{" (tokS a)=true) (a2:upT ")]}" (tokS a)=false) (b1:upT "([{" (tokS b)=false) (b2:upT ")]}" (tokS b)=true) (h:BD n ws):BD (n+1) (enc a ws b):=fun p hp=>by
 unfold enc;rw [aAt,aAt,aBh,aBh];have e1:([a].map tokS).foldl stT p=(max p.1 (p.2+1),p.2+1):=sI a1 a2;rw [e1];obtain ⟨g1,g2,g3⟩:=h (max p.1 (p.2+1),p.2+1) (by show p.2+1≤max p.1 (p.2+1);lia)
 revert g1 g2 g3
 generalize (ws.map tokS).foldl stT (max p.1 (p.2+1),p.2+1)=r
 intro g1 g2 g3;have e2:([b].map tokS).foldl stT r=(r.1,r.2 - 1):=pX b1 b2 (by dsimp only at g1 g2 g3;lia);rw [e2];dsimp only at g1 g2 g3 ⊢;lia
theorem VW.bd {n:Nat} {d:Dt} {ws:List Str} (h:VW n d ws):BD n ws:=by
 induction h with
 | int n i hi=>exact fZ hi
 | str n z hz _=>exact wo hz
 | list h8 hk ih=>exact BD.en (by decide +kernel) (by decide +kernel) (by decide +kernel) (by decide +kernel) (BD.sep fun x hx=>by
   obtain ⟨it,h,rfl⟩:=aAl.mp hx;exact ih it h)
 | rows h8 hk ih=>exact BD.en (by decide +kernel) (by decide +kernel) (by decide +kernel) (by decide +kernel) (BD.sep fun x hx=>by
   obtain ⟨it,h,rfl⟩:=aAl.mp hx;exact ih it h)
 | rcd h8 hz hk ih=>exact BD.en (by decide +kernel) (by decide +kernel) (by decide +kernel) (by decide +kernel) (BD.sep fun x hx=>by
   obtain ⟨g,h,rfl⟩:=aAl.mp hx;exact ((hz g h).bd.app (BD.flat (w:= ":") (by decide +kernel) (by decide +kernel))).app (ih g h))
theorem eU (T:List Tk) (n p:Nat):prs T (n+3) "value" p=cV T (prs T n) p:=by
 simp only [prs];rw [if_pos trivial]
theorem uu (T:List Tk) (n p:Nat):prs T (n+3) "entry" p=jR T (prs T (n+1)) "value" p:=by
 simp only [prs];rw [if_neg (by decide +kernel),if_neg (by decide +kernel),if_neg (by decide +kernel),if_neg (by decide +kernel),if_neg (by decide +kernel),if_neg (by decide +kernel)]
 rfl
theorem qe (i:Int) (m:Str):¬ xv i=aU m:=fun c=>absurd (show (Str.ofString "number")=Str.ofString "mark" from congrArg Prod.fst c) (by decide +kernel)
theorem qf (z m:Str):¬ sF z=aU m:=fun c=>absurd (show (Str.ofString "text")=Str.ofString "mark" from congrArg Prod.fst c) (by decide +kernel)
theorem VW.head {n:Nat} {d:Dt} {ws:List Str} (h:VW n d ws):∃ w r,ws=w :: r∧¬ tokS w=aU "]" ∧¬ tokS w=aU ")" :=by
 cases h with
 | int _ _ hi=>exact ⟨_,_,rfl,by rw [eR hi];exact qe _ _,by rw [eR hi];exact qe _ _⟩
 | str _ _ hz _=>exact ⟨_,_,rfl,by rw [eT hz];exact qf _ _,by rw [eT hz];exact qf _ _⟩
 | list=>exact ⟨_,_,rfl,by decide +kernel,by decide +kernel⟩
 | rows=>exact ⟨_,_,rfl,by decide +kernel,by decide +kernel⟩
 | rcd=>exact ⟨_,_,rfl,by decide +kernel,by decide +kernel⟩
theorem lE {T:List Tk} {p:Nat} {a b:Str} {ws:List Str} {rest:List Tk} (hT:T.drop p=(enc a ws b).map tokS++rest):am T p=tokS a∧T.drop (p+1)=(ws++[b]).map tokS++rest:=by
 have e0:(enc a ws b).map tokS++rest=tokS a :: ((ws++[b]).map tokS++rest):=by simp [enc]
 rw [e0] at hT;obtain ⟨e1,hT1,_⟩:=aP hT;exact ⟨e1,hT1⟩
theorem gJ:tokS "[" = aU "[" ∧tokS "{" = aU "{" ∧tokS "(" = aU "(" ∧¬ aU "{" = aU "[" ∧¬ aU "(" = aU "[" ∧¬ aU "(" = aU "{" :=by decide +kernel
theorem VW.parse {k:Nat} {d:Dt} {ws:List Str} (h:VW k d ws):∀ (T:List Tk) (m:Nat),5*k+3≤m→Rd T (prs T m "value") (d,ws):=by
 induction h with
 | int n i hi =>
  intro T m hm q r hT;obtain ⟨m,rfl⟩:=aAs (show 3≤m by lia);obtain ⟨e,_,_⟩:=aP (t:=tokS (aH i)) (l:=r) hT;rw [eR hi] at e;rw [eU];unfold cV df;rw [e,if_neg (qe _ _),if_neg (qe _ _),if_neg (qe _ _),if_pos rfl,if_pos rfl]
  rfl
 | str n z hz _ =>
  intro T m hm q r hT;obtain ⟨m,rfl⟩:=aAs (show 3≤m by lia);obtain ⟨e,_,_⟩:=aP (t:=tokS (quo z)) (l:=r) hT;rw [eT hz] at e;rw [eU];unfold cV df;rw [e,if_neg (qf _ _),if_neg (qf _ _),if_neg (qf _ _),if_neg (show ¬ (Str.ofString "text")=Str.ofString "number" by decide +kernel),if_pos rfl]
  rfl
 | @list n its h8 hk ih =>
  intro T m hm q r hT;obtain ⟨m,rfl⟩:=aAs (show 3≤m by lia);obtain ⟨e,hT1⟩:=lE hT;rw [gJ.1] at e;rw [eU];unfold cV;rw [e,if_pos rfl,dN (its:=its) (cl:= "]") (by decide +kernel) (by decide +kernel) (fun it hit=>ih it hit T m (by lia)) (fun it hit=>by
   obtain ⟨w,r,e,h1,_⟩:=(hk it hit).head;exact ⟨w,r,e,h1⟩) hT1]
  show PR.ok _ _=PR.ok _ (q+(enc _ _ _).length);rw [ki]
  congr 1
  lia
 | @rows n its h8 hk ih =>
  intro T m hm q r hT;obtain ⟨m,rfl⟩:=aAs (show 3≤m by lia);obtain ⟨e,hT1⟩:=lE hT;rw [gJ.2.2.1] at e;rw [eU];unfold cV;rw [e,if_neg gJ.2.2.2.2.1,if_neg gJ.2.2.2.2.2,if_pos rfl,dN (its:=its) (cl:= ")") (by decide +kernel) (by decide +kernel) (fun it hit=>ih it hit T m (by lia)) (fun it hit=>by
   obtain ⟨w,r,e,_,h1⟩:=(hk it hit).head;exact ⟨w,r,e,h1⟩) hT1]
  show PR.ok _ _=PR.ok _ (q+(enc _ _ _).length);rw [ki]
  congr 1
  lia
 | @rcd n gs h8 hz hk ih =>
  intro T m hm q r hT;obtain ⟨m,rfl⟩:=aAs (show 6≤m by lia);obtain ⟨e,hT1⟩:=lE hT;rw [gJ.2.1] at e;have es:gs.map fw3=(gs.map fun g=>(pr3 g,fw3 g)).map (·.2):=by rw [aAP];rfl
  rw [es] at hT1;rw [eU];unfold cV;rw [e,if_neg gJ.2.2.2.1,if_pos rfl,dN (its:=gs.map fun g=>(pr3 g,fw3 g)) (cl:= "}") (by decide +kernel) (by decide +kernel) (fun it hit=>by
   obtain ⟨g,hg,rfl⟩:=aAl.mp hit;intro q r hT;have e0:(fw3 g).map tokS++r=tokS g.1 :: (tokS ":" :: (g.2.2.map tokS++r)):=by simp
   rw [show ((pr3 g,fw3 g):Dt×List Str).2=fw3 g from rfl,e0] at hT;obtain ⟨a1,hT1,_⟩:=aP hT;obtain ⟨a2,hT2,_⟩:=aP hT1;rw [uu];unfold jR;rw [bG (a1.trans (hz g hg).tk),aF (a2.trans (aR ":" (by decide +kernel)).1),ih g hg T (m+1) (by lia) _ _ hT2];show PR.ok (Dt.tup [Dt.str g.1,g.2.1]) _=_
   congr 1
   simp;lia) (fun it hit=>by
   obtain ⟨g,hg,rfl⟩:=aAl.mp hit;exact ⟨g.1,_,rfl,by rw [(hz g hg).tk];exact p8 _ _⟩) hT1]
  show PR.ok (mk2 "record" (Dt.tup ((gs.map fun g=>(pr3 g,fw3 g)).map (·.1)))) _=_;rw [← es,aAP];show PR.ok _ _=PR.ok _ (q+(enc _ _ _).length);rw [ki]
  congr 1
  lia
theorem VW.read {n:Nat} {d:Dt} {ws:List Str} (h:VW n d ws) (hn:n≤5) {cs:List Nat} {b:Nat} {bs:List Nat} (hb:bs.length=ws.length) (hc:cs=List.replicate b 32++aV ws bs):cB 60 "value" cs=some d:=by
 have hl:=h.gw.gl.lex bs hb;rw [← cn (aV ws bs) b,← hc] at hl;have hd:=(h.bd (0,0) (aBB _)).2.2;have hp:=h.parse (ws.map tokS) 60 (by lia) 0 [] (by simp);refine (og hl ?_ hp ?_).1
 ·dsimp only at hd;lia
 ·exact rn (aAS (by simp))
abbrev wyD (p:Str×Str):Dt:=.tup [.str p.1,.str p.2]
abbrev wyW (p:Str×Str):List Str:=[p.1,":",p.2]
inductive TW:Nat→Dt→List Str→Prop
 | nums (n:Nat) (w:Str) (js:List Int):NmC w→¬ w= "words" →aK "turn" w=some (js.map fun _=>("number" : Str))→(∀ i∈js,i.natAbs < 10 ^ 60)→TW (n+1) (.tup (.str w :: js.map Dt.int)) (brW w (sepW (js.map fun i=>[aH i])))
 | items {n:Nat} {t:Dt} {tw:List Str}:TW n t tw→TW (n+1) (.tup [.str "items",t]) (brW "items" (sepW [tw]))
 | words (n:Nat) (fo:List Str) (bk:List (Str×Str)):fo≠[]→bk≠[]→fo.length≤8→bk.length≤8→(∀ z∈fo,NmC z)→(∀ p∈bk,NmC p.1∧NmC p.2)→TW (n+1) (.tup [.str "words",.tup (fo.map Dt.str),.tup (bk.map wyD)]) (brW "words" ((sepW (fo.map fun z=>[z])++[(";" : Str)])++sepW (bk.map wyW)))
theorem dO:NmC "words" ∧NmC "items" :=⟨⟨by decide +kernel,by decide +kernel,by decide +kernel⟩,⟨by decide +kernel,by decide +kernel,by decide +kernel⟩⟩
theorem TW.gm {n:Nat} {d:Dt} {ws:List Str} (h:TW n d ws):GM ws:=by
 induction h with
 | nums n w js hw _ _ hj=>exact GW.br hw.good (GW.sep fun x hx=>by
   obtain ⟨i,hi,rfl⟩:=aAl.mp hx;exact GW.one (iL (hj i hi)))
 | items _ ih=>exact GW.br dO.2.good ih.gw
 | words n fo bk _ _ _ _ hf hb=>exact GW.br dO.1.good ((GW.mk (m:= ";") (GW.sep fun x hx=>by
   obtain ⟨z,hz,rfl⟩:=aAl.mp hx;exact GW.one (hf z hz).good) (by decide +kernel)).then (GW.sep fun x hx=>by
   obtain ⟨p,hp,rfl⟩:=aAl.mp hx;exact (GW.mk (a:=[p.1]) (m:= ":") (GW.one (hb p hp).1.good) (by decide +kernel)).then (GW.one (hb p hp).2.good)))
theorem TW.bd {n:Nat} {d:Dt} {ws:List Str} (h:TW n d ws):BD n ws:=by
 induction h with
 | nums n w js hw _ _ hj=>exact BD.br hw (BD.sep fun x hx=>by
   obtain ⟨i,hi,rfl⟩:=aAl.mp hx;exact fZ (hj i hi))
 | items _ ih=>exact BD.br dO.2 ih
 | words n fo bk _ _ _ _ hf hb=>exact BD.br dO.1 (((BD.sep fun x hx=>by
   obtain ⟨z,hz,rfl⟩:=aAl.mp hx;exact (hf z hz).bd).app (BD.flat (w:= ";") (by decide +kernel) (by decide +kernel))).app (BD.sep fun x hx=>by
   obtain ⟨p,hp,rfl⟩:=aAl.mp hx;exact ((hb p hp).1.bd.app (BD.flat (w:= ":") (by decide +kernel) (by decide +kernel))).app (hb p hp).2.bd))
theorem lG (T:List Tk) (n p:Nat):prs T (n+3) "turn" p=mR T (prs T n) p:=by
 simp only [prs];rw [if_neg (by decide +kernel),if_neg (by decide +kernel),if_pos trivial]
theorem uv (T:List Tk) (n p:Nat):prs T (n+3) "piece" p=gR T p fun w q=>gS T (prs T n) "piece" w q:=by
 simp only [prs];rw [if_neg (by decide +kernel),if_neg (by decide +kernel),if_neg (by decide +kernel),if_pos trivial]
theorem xA (T:List Tk) (n p:Nat):prs T (n+3) "way" p=jR T (prs T (n+1)) "word" p:=by
 simp only [prs];rw [if_neg (by decide +kernel),if_neg (by decide +kernel),if_neg (by decide +kernel),if_neg (by decide +kernel),if_neg (by decide +kernel),if_neg (by decide +kernel)]
 rfl
theorem wq (T:List Tk) (n p:Nat):prs T (n+3) "text" p=df T "text" p:=by
 simp only [prs];rw [if_neg (by decide +kernel),if_neg (by decide +kernel),if_neg (by decide +kernel),if_neg (by decide +kernel),if_neg (by decide +kernel),if_neg (by decide +kernel)]
 rfl
theorem TW.parse {k:Nat} {d:Dt} {ws:List Str} (h:TW k d ws):∀ (T:List Tk) (m:Nat),5*k+3≤m→Rd T (prs T m "turn") (d,ws):=by
 induction h with
 | nums n w js hw nw hf hj =>
  intro T m hm q r hT;obtain ⟨m,rfl⟩:=aAs (show 3≤m by lia);obtain ⟨e1,hT1⟩:=fc hw hT;have es:js.map (fun i=>[aH i])=(js.map fun i=>(Dt.int i,[aH i])).map (·.2):=by rw [aAP];rfl
  rw [es] at hT1;rw [lG];unfold mR;rw [bG e1,if_neg nw,iM (its:=js.map fun i=>(Dt.int i,[aH i])) hf (by rw [aAa,aAa]) (fun x hx=>by
   obtain ⟨s0,it0⟩:=x;obtain ⟨i,hi⟩:=aBj hx;obtain ⟨h1,h2⟩:=aAT.mp hi;rw [aAf] at h1 h2;obtain ⟨j,hj1,e1⟩:=aAh.mp h1;rw [hj1] at h2;obtain rfl:(Dt.int j,[aH j])=it0:=Option.some.inj h2;obtain rfl:("number" : Str)=s0:=e1;exact h7 (hj j (aAr hj1)) (by lia)) hT1,aAP,← es]
  show PR.ok _ _=PR.ok _ (q+(brW _ _).length);rw [cX]
  congr 1
  lia
 | @items n t tw ht ih =>
  intro T m hm q r hT;obtain ⟨m,rfl⟩:=aAs (show 3≤m by lia);obtain ⟨e1,hT1⟩:=fc dO.2 hT;rw [lG];unfold mR;rw [bG e1,if_neg (by decide +kernel),iM (fs:=["turn"]) (its:=[(t,tw)]) (by decide +kernel) rfl (fun x hx=>by
   rw [aAq.mp hx];exact ih T m (by lia)) hT1]
  show PR.ok _ _=PR.ok _ (q+(brW _ _).length);rw [cX]
  congr 1
  show q+1+1+(sepW [tw]).length+1=_;lia
 | words n fo bk f0 b0 _ _ hf hb =>
  intro T m hm q r hT;obtain ⟨m,rfl⟩:=aAs (show 6≤m by lia);obtain ⟨e1,hT1⟩:=fc dO.1 hT;obtain ⟨e2,hT2,_⟩:=aP hT1;have es:fo.map (fun z=>[z])=(fo.map fun z=>(Dt.str z,[z])).map (·.2):=by rw [aAP];rfl
  have eb:bk.map wyW=(bk.map fun p=>(wyD p,wyW p)).map (·.2):=by rw [aAP];rfl
  rw [lG];unfold mR;rw [bG e1,if_pos rfl,aF (e2.trans (aR "(" (by decide +kernel)).1)];have h0:(((sepW (fo.map fun z=>[z])++[(";" : Str)])++sepW (bk.map wyW))++[(")" : Str)]).map tokS++r=(sepW (fo.map fun z=>[z])++[(";" : Str)]).map tokS++((sepW (bk.map wyW)++[(")" : Str)]).map tokS++r):=by simp
  rw [h0] at hT2;have hT3:=lA hT2;rw [aAa,aAc,aA1,← Nat.add_assoc] at hT3;rw [es] at hT2;rw [dN (its:=fo.map fun z=>(Dt.str z,[z])) (cl:= ";") (by decide +kernel) (by decide +kernel) (fun it hit=>by
   obtain ⟨z,hz',rfl⟩:=aAl.mp hit;exact iN (hf z hz') (by lia)) (fun it hit=>by
   obtain ⟨z,hz',rfl⟩:=aAl.mp hit;exact ⟨z,[],rfl,by rw [(hf z hz').tk];exact p8 _ _⟩) hT2,← es]
  cases fo with
  | nil=>exact absurd rfl f0
  | cons z fo =>
   show (fD T (prs T (m+3) "way") ")" _).bind _=_;rw [eb] at hT3;rw [dN (its:=bk.map fun p=>(wyD p,wyW p)) (cl:= ")") (rest:=r) (by decide +kernel) (by decide +kernel) (fun it hit=>by
    obtain ⟨p,hp,rfl⟩:=aAl.mp hit;intro q r hT;have e0:(wyW p).map tokS++r=tokS p.1 :: (tokS ":" :: (([p.2]:List Str).map tokS++r)):=by simp
    rw [show ((wyD p,wyW p):Dt×List Str).2=wyW p from rfl,e0] at hT;obtain ⟨a1,hT1,_⟩:=aP hT;obtain ⟨a2,hT2,_⟩:=aP hT1;rw [xA];unfold jR;rw [bG (a1.trans (hb p hp).1.tk),aF (a2.trans (aR ":" (by decide +kernel)).1),iN (T:=T) (n:=m+1) (hb p hp).2 (by lia) _ _ hT2]
    rfl) (fun it hit=>by
    obtain ⟨p,hp,rfl⟩:=aAl.mp hit;exact ⟨p.1,_,rfl,by rw [(hb p hp).1.tk];exact p8 _ _⟩) hT3,← eb]
   cases bk with
   | nil=>exact absurd rfl b0
   | cons p bk =>
    show PR.ok (Dt.tup [Dt.str "words",Dt.tup (((z :: fo).map fun z=>(Dt.str z,[z])).map (·.1)),Dt.tup (((p :: bk).map fun p=>(wyD p,wyW p)).map (·.1))]) _=PR.ok _ (q+(brW _ _).length);rw [aAP,aAP,cX]
    congr 1
    simp only [aAc,aAb,aAn];lia
inductive PartW (n:Nat):Str→Dt→List Str→Prop
 | word {z:Str}:NmC z→PartW n "word" (.str z) [z]
 | num {i:Int}:i.natAbs < 10 ^ 60→PartW n "number" (.int i) [aH i]
 | text {z:Str}:okT z→z.length≤60→PartW n "text" (.str z) [quo z]
 | value {d:Dt} {ws:List Str}:VW 4 d ws→PartW n "value" d ws
 | kind {d:Dt} {ws:List Str}:KW n d ws→PartW n "kind" d ws
 | turn {d:Dt} {ws:List Str}:TW n d ws→PartW n "turn" d ws
theorem PartW.gw {n:Nat} {s:Str} {d:Dt} {ws:List Str} (h:PartW n s d ws):GW ws:=by
 cases h with
 | word hz=>exact GW.one hz.good
 | num hi=>exact GW.one (iL hi)
 | text hz _=>exact GW.one (qc hz)
 | value h=>exact h.gw
 | kind h=>exact h.gm.gw
 | turn h=>exact h.gm.gw
theorem PartW.bd {n:Nat} {s:Str} {d:Dt} {ws:List Str} (h:PartW n s d ws) (hn:4≤n):BD n ws:=by
 cases h with
 | word hz=>exact hz.bd
 | num hi=>exact fZ hi
 | text hz _=>exact wo hz
 | value h=>exact h.bd.mono hn
 | kind h=>exact h.bd
 | turn h=>exact h.bd
theorem PartW.parse {n:Nat} {s:Str} {d:Dt} {ws:List Str} (h:PartW n s d ws) (hn:4≤n) (T:List Tk) (m:Nat) (hm:5*n+3≤m):Rd T (prs T m s) (d,ws):=by
 cases h with
 | word hz=>exact iN hz (by lia)
 | num hi=>exact h7 hi (by lia)
 | @text z hz _ =>
  intro q r hT;obtain ⟨m,rfl⟩:=aAs (show 3≤m by lia);obtain ⟨e,_,_⟩:=aP (t:=tokS (quo z)) (l:=r) hT;rw [wq];unfold df;rw [e,eT hz,if_pos rfl]
  rfl
 | value h=>exact h.parse T m (by lia)
 | kind h=>exact h.parse T m hm
 | turn h=>exact h.parse T m hm
def PW (d:Dt) (ws:List Str):Prop:=∃ (w:Str) (fs:List Str) (its:List (Dt×List Str)),NmC w∧aK "piece" w=some fs∧its.length=fs.length∧(∀ x∈fs.zip its,PartW 5 x.1 x.2.1 x.2.2)∧d=.tup (.str w :: its.map (·.1))∧ws=brW w (sepW (its.map (·.2)))
theorem sL {fs:List Str} {its:List (Dt×List Str)} (hl:its.length=fs.length) {it:Dt×List Str} (h:it∈its):∃ s,(s,it)∈fs.zip its:=by
 obtain ⟨i,hi⟩:=aBj h;have il:=(aAk.mp hi).1;exact ⟨_,aAr ((aAT (z:=(fs[i],it))).mpr ⟨aAv (by lia),hi⟩)⟩
theorem PW.gm {d:Dt} {ws:List Str} (h:PW d ws):GM ws:=by
 obtain ⟨w,fs,its,hw,hf,hl,hp,rfl,rfl⟩:=h;exact GW.br hw.good (GW.sep fun x hx=>by
  obtain ⟨it,hi,rfl⟩:=aAl.mp hx;obtain ⟨s,hs⟩:=sL hl hi;exact (hp _ hs).gw)
theorem PW.bd {d:Dt} {ws:List Str} (h:PW d ws):BD 6 ws:=by
 obtain ⟨w,fs,its,hw,hf,hl,hp,rfl,rfl⟩:=h;exact BD.br hw (BD.sep fun x hx=>by
  obtain ⟨it,hi,rfl⟩:=aAl.mp hx;obtain ⟨s,hs⟩:=sL hl hi;exact (hp _ hs).bd (by decide))
theorem PW.parse {d:Dt} {ws:List Str} (h:PW d ws) (T:List Tk) (m:Nat) (hm:31≤m):Rd T (prs T m "piece") (d,ws):=by
 obtain ⟨w,fs,its,hw,hf,hl,hp,rfl,rfl⟩:=h;intro q r hT;obtain ⟨m,rfl⟩:=aAs (show 3≤m by lia);obtain ⟨e1,hT1⟩:=fc hw hT;rw [uv,bG e1,iM hf hl (fun x hx=>(hp x hx).parse (by decide) T m (by lia)) hT1];show PR.ok _ _=PR.ok _ (q+(brW _ _).length);rw [cX]
 congr 1
 lia
theorem lI {s:Str} {n:Nat} {d:Dt} {ws:List Str} (hg:GW ws) (hb:BD n ws) (hn:n≤40) (hp:Rd (ws.map tokS) (prs (ws.map tokS) 60 s) (d,ws)) {cs:List Nat} {b:Nat} {bs:List Nat} (hbs:bs.length=ws.length) (hc:cs=List.replicate b 32++aV ws bs):cB 60 s cs=some d:=by
 have hl:=hg.gl.lex bs hbs;rw [← cn (aV ws bs) b,← hc] at hl;have hd:=(hb (0,0) (aBB _)).2.2;refine (og hl ?_ (hp 0 [] (by simp)) ?_).1
 ·dsimp only at hd;lia
 ·exact rn (aAS (by simp))
theorem qg (sp:Str):∀ zs:List Str,(zs.map (·.length)).sum≤(Str.join sp zs).length
 | []=>aAD _
 | [x]=>by simp [Str.join]
 | x :: y :: r=>by
  have:=qg sp (y :: r);rw [PyProof.Rows.join_cons_cons,aAd,aAd];simp only [aAo,aAW] at this ⊢;lia
theorem iP (sp:Str) (zs:List Str):Txt.join sp zs=Str.join sp zs:=PySem.StrLaws.glued_eq_join sp zs
def l7 (_:W.Frag) (_:Ads):Sp:=fun vs H Q _=>∃ i:Int,vs=[.int i]∧i.natAbs < 10 ^ 70∧Q (.str (aH i)) H
theorem lJ {i:Int} (h:i.natAbs < 10 ^ 70):i.natAbs.log2 < 1920:=by
 by_cases h0:i.natAbs=0
 ·rw [h0];decide
 ·exact (Nat.log2_lt h0).mpr (aAj h (by decide +kernel))
theorem l9 (T:Tx K mg ad) {f:Addr} {fd:FuncData} (F:Gn K mg "figures_of" fg ["number"] f fd):FnOk P w K mg base CX0 1 f fd ["number"] (l7 K ad):=by
 refine F.F.ok mh (fun vs H Q E h=>?_) (fun cdv A outer s H vs Q E hr h=>?_)
 ·obtain ⟨i,rfl,_⟩:=h
  rfl
 obtain ⟨i,rfl,hi,q⟩:=h;refine ⟨_,(@pss_one _ _ _ (@ps_ret _ _ _ _ (pe_callTy call_str_int rfl T.z_str boot_str (@pa1 _ _ _ (pv 0) (by rfl))))),?_⟩;exact ⟨_,rfl,i,rfl,lJ hi,q⟩
def uw (_:W.Frag) (_:Ads):Sp:=fun vs H Q _=>∃ z:Str,vs=[.str z]∧z.length≤100000∧Q (.str (Str.ofString "\"" ++z++Str.ofString "\"")) H
theorem bR {n:Nat} (h:n≤300000):n≤sizeLine:=aAA h (by decide)
theorem ux (T:Tx K mg ad) {f:Addr} {fd:FuncData} (F:Gn K mg "quoted" lT ["text"] f fd):FnOk P w K mg base CX0 1 f fd ["text"] (uw K ad):=by
 refine F.F.ok uz (fun vs H Q E h=>?_) (fun cdv A outer s H vs Q E hr h=>?_)
 ·obtain ⟨z,rfl,_⟩:=h
  rfl
 obtain ⟨z,rfl,hz,q⟩:=h;refine ⟨_,(@pss_one _ _ _ (@ps_ret _ _ _ _ (@pe_op _ _ _ _ _ _ _ _ op_add_str (@pe_op _ _ _ _ _ _ _ _ op_add_str pe_str (pv 0)) pe_str))),?_⟩;have l1:(Str.ofString "\"").length=1:=by decide +kernel
 exact ⟨_,rfl,_,_,rfl,rfl,bR (by lia),_,_,rfl,rfl,bR (by rw [aAd];lia),q⟩
def lK (K:W.Frag) (_:Ads):Sp:=fun vs H Q _=>∃ (l:Addr) (zs:List Str),vs=[.ref l]∧SqL K H l (zs.map V.str)∧zs.length≤1000∧(Str.join (Str.ofString ", ") zs).length≤100000∧Q (.str (Str.join (Str.ofString ", ") zs)) H
theorem dP (T:Tx K mg ad) {f:Addr} {fd:FuncData} (F:Gn K mg "with_commas" eD ["texts"] f fd):FnOk P w K mg base CX0 1 f fd ["texts"] (lK K ad):=by
 refine F.F.ok lU (fun vs H Q E h=>?_) (fun cdv A outer s H vs Q E hr h=>?_)
 ·obtain ⟨l,zs,rfl,_⟩:=h
  rfl
 obtain ⟨l,zs,rfl,hl,hz,hj,q⟩:=h;refine ⟨_,(@pss_one _ _ _ (@ps_ret _ _ _ _ (pe_bm PySem.F.plainAttrs_str PySem.F.slot_str_join PySem.F.type_str_join fR pe_str (@pa1 _ _ _ (pv 0) (by rfl))))),?_⟩;have l1:(Str.ofString ", ").length=2:=by decide +kernel
 have js:=qg (Str.ofString ", ") zs;refine ⟨rfl,_,rfl,_,l,zs,rfl,rfl,.inl hl,by rw [l1];lia,?_⟩;rw [iP];exact q
def oi (_:W.Frag) (_:Ads):Sp:=fun vs H Q _=>∃ a z:Str,vs=[.str a,.str z]∧a.length≤100000∧z.length≤100000∧Q (.str (a++Str.ofString ": " ++z)) H
theorem oj (a:Str):Str.empty++a=a:=by
 apply cf;show (#[]++a.cps).toList=_;simp
theorem fe (T:Tx K mg ad) {f:Addr} {fd:FuncData} (F:Gn K mg "pair_text" gj ["word","text"] f fd):FnOk P w K mg base CX0 1 f fd ["word","text"] (oi K ad):=by
 refine F.F.ok oI (fun vs H Q E h=>?_) (fun cdv A outer s H vs Q E hr h=>?_)
 ·obtain ⟨a,z,rfl,_⟩:=h
  rfl
 obtain ⟨a,z,rfl,ha,hz,q⟩:=h;refine ⟨_,(@pss_one _ _ _ (@ps_ret _ _ _ _ (nF (gW (pv 0) (ji pe_str (gW (pv 1) qU)))))),?_⟩;have l1:(Str.ofString ": ").length=2:=by decide +kernel
 have l0:Str.empty.length=0:=rfl;refine ⟨_,rfl,a,rfl,bX ha,bR (by rw [aAd];lia),_,rfl,bX (by lia),bR (by rw [aAd,aAd];lia),_,rfl,z,rfl,bX hz,bR (by rw [aAd,aAd,aAd];lia),bR (by rw [aAd,aAd,aAd];lia),?_⟩;rw [oj];exact q
def lL (K:W.Frag) (_:Ads):Sp:=fun vs H Q _=>∃ (a:Str) (l:Addr) (zs:List Str),vs=[.str a,.ref l]∧SqL K H l (zs.map V.str)∧a.length≤100000∧zs.length≤1000∧(Str.join (Str.ofString ", ") zs).length≤100000∧Q (.str (a++Str.ofString "(" ++Str.join (Str.ofString ", ") zs++Str.ofString ")")) H
theorem gc (T:Tx K mg ad) {f:Addr} {fd:FuncData} (F:Gn K mg "in_brackets" eC ["word","texts"] f fd):FnOk P w K mg base CX0 2 f fd ["word","texts"] (lL K ad):=by
 obtain ⟨_,_,Ii⟩:=T.with_commas;have Iu:=dP (P:=P) (w:=w) (base:=base) T Ii;refine F.F.ok gz (fun vs H Q E h=>?_) (fun cdv A outer s H vs Q E hr h=>?_)
 ·obtain ⟨a,l,zs,rfl,_⟩:=h
  rfl
 obtain ⟨a,l,zs,rfl,hl,ha,hz,hj,q⟩:=h;refine ⟨_,(@pss_cons _ _ _ _ _ (@ps_set _ _ 2 _ _ _ _ gz.nd rfl (Or.inl rfl) (pcl Ii Iu (hr.mono (by lia)) rfl (@pa1 _ _ _ (pv 1) (by rfl))) (by rfl) (.inl rfl)) (@pss_one _ _ _ (@ps_ret _ _ _ _ (nF (gW (pv 0) (ji pe_str (gW (pv 2) (ji pe_str qU)))))))),?_⟩;have l1:(Str.ofString "(").length=1:=by decide +kernel
 have l2:(Str.ofString ")").length=1:=by decide +kernel
 have l0:Str.empty.length=0:=rfl;refine ⟨_,rfl,l,zs,rfl,hl,hz,hj,?_⟩;refine ⟨_,rfl,a,rfl,bX ha,bR (by rw [aAd];lia),_,rfl,bX (by lia),bR (by rw [aAd,aAd];lia),_,rfl,_,rfl,bX hj,bR (by rw [aAd,aAd,aAd];lia),_,rfl,bX (by lia),bR (by rw [aAd,aAd,aAd,aAd];lia),bR (by rw [aAd,aAd,aAd,aAd];lia),?_⟩;rw [oj];exact q
def Hb (p:Str×Dt):Dt:=.tup [.str p.1,p.2]
def lM (q:(Str×Dt)×Str):Str:=q.1.1++Str.ofString ": " ++q.2
inductive VT:Nat→Dt→Str→Prop
 | int (n:Nat) (i:Int):i.natAbs < 10 ^ 70→VT n (.int i) (aH i)
 | str (n:Nat) (z:Str):z.length≤1000→VT n (.str z) (Str.ofString "\"" ++z++Str.ofString "\"")
 | list (n:Nat) (ds:List Dt) (zs:List Str):zs.length=ds.length→ds.length≤1000→(∀ (i:Nat) (d:Dt) (z:Str),ds[i]?=some d→zs[i]?=some z→VT n d z)→VT (n+1) (mk2 "list" (.tup ds)) (Str.ofString "[" ++Str.join (Str.ofString ", ") zs++Str.ofString "]")
 | rows (n:Nat) (ds:List Dt) (zs:List Str):zs.length=ds.length→ds.length≤1000→(∀ (i:Nat) (d:Dt) (z:Str),ds[i]?=some d→zs[i]?=some z→VT n d z)→VT (n+1) (mk2 "rows" (.tup ds)) (Str.ofString "(" ++Str.join (Str.ofString ", ") zs++Str.ofString ")")
 | record (n:Nat) (ps:List (Str×Dt)) (ys:List Str):ys.length=ps.length→ps.length≤1000→(∀ (i:Nat) (p:Str×Dt) (y:Str),ps[i]?=some p→ys[i]?=some y→VT n p.2 y)→VT (n+1) (mk2 "record" (.tup (ps.map Hb))) (Str.ofString "{" ++Str.join (Str.ofString ", ") ((ps.zip ys).map lM)++Str.ofString "}")
def sVT (K:W.Frag) (n:Nat):Sp:=fun vs H Q _=>∃ (d:Dt) (x:V) (z:Str),vs=[x]∧IsP K H d x∧VT n d z∧z.length≤100000∧∀ H',Same H H'→Q (.str z) H'
theorem ma (T:Tx K mg ad) (n:Nat) {f:Addr} {fd:FuncData} (IM:Gn K mg "value_text" dm ["value"] f fd) (IN:∀ m,m < n→FnOk P w K mg base CX0 (m+3) f fd ["value"] (sVT K m)):FnOk P w K mg base CX0 (n+3) f fd ["value"] (sVT K n):=by
 obtain ⟨f1,d1,Jw⟩:=T.figures_of;have JV:=l9 (P:=P) (w:=w) (base:=base) T Jw;obtain ⟨f2,d2,JU⟩:=T.quoted;have J9:=ux (P:=P) (w:=w) (base:=base) T JU;obtain ⟨f3,d3,Ii⟩:=T.with_commas;have Iu:=dP (P:=P) (w:=w) (base:=base) T Ii;obtain ⟨f4,d4,IA⟩:=T.pair_text;have IY:=fe (P:=P) (w:=w) (base:=base) T IA;have IN:FnOk P w K mg base CX0 (n+2) f fd ["value"] (fun vs H Q E=>∃ m,n=m+1∧sVT K m vs H Q E):=by
  cases n with
  | zero=>exact fn_none fun _ _ _ _ h=>by obtain ⟨m,h,_⟩:=h;cases h
  | succ m =>
   have g:=IN m (aA9 m);exact g.imp fun vs H Q E h=>by obtain ⟨m',e,h⟩:=h;cases e;exact h
 refine IM.F.ok sc_value_text (fun vs H Q E h=>?_) (fun cdv A outer s H vs Q E hr h=>?_)
 ·obtain ⟨d,x,z,rfl,_⟩:=h
  rfl
 obtain ⟨d,x,z,rfl,hd,vt,hz,q⟩:=h;refine ⟨_,(@pss_cons _ _ _ _ _ (@ps_if _ _ _ _ _ _ _ _ (@pt_val _ _ _ (pe_callB (call_isiN' (K:=K) rfl) rfl T.z_isinstance boot_isinstance (@pa2 _ _ _ _ _ (pv 0) (nv rfl T.z_int boot_int) (by rfl) (by rfl))) (by intro _;rfl)) (@pss_one _ _ _ (@ps_ret _ _ _ _ (pcl Jw JV (hr.mono (by lia)) rfl (@pa1 _ _ _ (pv 0) (by rfl))))) pss_nil) (@pss_cons _ _ _ _ _ (@ps_if _ _ _ _ _ _ _ _ (@pt_val _ _ _ (pe_callB (call_isiN' (K:=K) rfl) rfl T.z_isinstance boot_isinstance (@pa2 _ _ _ _ _ (pv 0) (nv rfl T.z_str boot_str) (by rfl) (by rfl))) (by intro _;rfl)) (@pss_one _ _ _ (@ps_ret _ _ _ _ (pcl JU J9 (hr.mono (by lia)) rfl (@pa1 _ _ _ (pv 0) (by rfl))))) pss_nil) (@pss_cons _ _ _ _ _ (@ps_if _ _ _ _ _ _ _ _ (pt_cmpR op_eq (@pi1 K _ _ _ _ _ _ _ rfl (pv 0)) pe_str (nomark _)) (@pss_cons _ _ _ _ _ (@ps_set _ _ 1 _ _ _ _ sc_value_text.nd rfl (Or.inl rfl) (pcl Ii Iu (hr.mono (by lia)) rfl (@pa1 _ _ _ (pe_comp rfl (cs0 (NL:=["name","own"]) rfl (by decide +kernel) (by decide +kernel)) (pi_tupN (K:=K) rfl (@pi1 K _ _ _ _ _ _ _ rfl (pv 0))) (fun _ _ _ _=>(kg (K:=K) (n:=2) rfl rfl (aG (ai (i:=0) (show List.Nodup (α:=Str) ["name","own"] by decide +kernel) rfl (Or.inl rfl)) (aG (ai (i:=1) (show List.Nodup (α:=Str) ["name","own"] by decide +kernel) rfl (Or.inl rfl)) di)))) (fun _ _ _ _=>(pcl IA IY (hr.mono (by lia)) rfl (@pa2 _ _ _ _ _ (pv 0) (pcl IM IN (hr.mono (by lia)) rfl (@pa1 _ _ _ (pv 1) (by rfl))) (by rfl) (by rfl))))) (by rfl))) (by rfl) (.inl rfl)) (@pss_one _ _ _ (@ps_ret _ _ _ _ (@pe_op _ _ _ _ _ _ _ _ op_add_str (@pe_op _ _ _ _ _ _ _ _ op_add_str pe_str (pv 1)) pe_str)))) pss_nil) (@pss_cons _ _ _ _ _ (@ps_set _ _ 1 _ _ _ _ sc_value_text.nd rfl (Or.inl rfl) (pcl Ii Iu (hr.mono (by lia)) rfl (@pa1 _ _ _ (pe_comp rfl (cs0 (NL:=["item"]) rfl (by decide +kernel) (by decide +kernel)) (pi_tupN (K:=K) rfl (@pi1 K _ _ _ _ _ _ _ rfl (pv 0))) (fun _ _ _ _=>(ai (i:=0) (show List.Nodup (α:=Str) ["item"] by decide +kernel) rfl (Or.inl rfl))) (fun _ _ _ _=>(pcl IM IN (hr.mono (by lia)) rfl (@pa1 _ _ _ (pv 0) (by rfl))))) (by rfl))) (by rfl) (.inl rfl)) (@pss_cons _ _ _ _ _ (@ps_if _ _ _ _ _ _ _ _ (pt_cmpR op_eq (@pi1 K _ _ _ _ _ _ _ rfl (pv 0)) pe_str (nomark _)) (@pss_one _ _ _ (@ps_ret _ _ _ _ (@pe_op _ _ _ _ _ _ _ _ op_add_str (@pe_op _ _ _ _ _ _ _ _ op_add_str pe_str (pv 1)) pe_str))) pss_nil) (@pss_one _ _ _ (@ps_ret _ _ _ _ (@pe_op _ _ _ _ _ _ _ _ op_add_str (@pe_op _ _ _ _ _ _ _ _ op_add_str pe_str (pv 1)) pe_str)))))))),?_⟩;have mem_le:∀ {zs:List Str} {i:Nat} {y:Str},zs[i]?=some y→y.length≤(Str.join (Str.ofString ", ") zs).length:=fun h=>PySem.join_mem_le _ _ _ (aAr h);have l1:∀ s:String,s∈["[","]","(",")","{","}"]→(Str.ofString s).length=1:=by decide +kernel
 cases vt with
 | int _ i hi =>
  obtain rfl:=kT hd;exact ⟨_,rfl,_,_,_,rfl,.int_int,_,rfl,dY ⟨_,rfl,i,rfl,hi,q H (Same.refl H)⟩⟩
 | str _ z0 hz0 =>
  obtain rfl:=bq hd;refine ⟨_,rfl,_,_,_,rfl,.str_int,_,rfl,cg ⟨_,rfl,_,_,_,rfl,.str_str,_,rfl,dY ⟨_,rfl,z0,rfl,by lia,q H (Same.refl H)⟩⟩⟩
 | record m ps ys e1 e2 e3 =>
  obtain ⟨a,u1,u2,rfl,ha,hu1,hu2⟩:=dI hd;obtain rfl:=bq hu1;rw [aAd,aAd,l1 "{" (by simp),l1 "}" (by simp)] at hz;refine ⟨_,rfl,_,_,_,rfl,.tup_int ha,_,rfl,cg ⟨_,rfl,_,_,_,rfl,.tup_str ha,_,rfl,cg ?_⟩⟩;refine ⟨_,rfl,_,_,_,hd,rfl,at0 _ _,isS ?_⟩;refine ⟨rfl,_,rfl,bW ⟨_,rfl,_,_,_,hd,rfl,rfl,fun v2 hv2=>?_⟩⟩;obtain ⟨b,xs,rfl,hb,_,rb⟩:=hv2.unref;have lx:=rb.length;rw [aAa] at lx;refine ⟨b,rfl,⟨_,hb⟩,fun l hl=>?_⟩;refine eL (K:=K) (xs:=xs) (fun i zs σ H'=>zs=(((ps.zip ys).map lM).take i).map V.str∧Same H H'∧H' l=some (.lst zs)∧∃ w1 w2,σ=[w1,w2]) ⟨rfl,ag hl _,aa,_,_,rfl⟩ (fun i zs σ H' _ p=>p.2.1.tup hb) ?_ ?_
  ·rintro i y zs σ H1 N hy ⟨rfl,g1,f1',w1,w2,rfl⟩ next;obtain ⟨d0,hd0,hdy⟩:=rb.get' hy;rw [aAf] at hd0;obtain ⟨p0,hp0,rfl⟩:=aAh.mp hd0;have hi:=(aAk.mp hp0).1;obtain ⟨y0,hy0⟩:∃ y0,ys[i]?=some y0:=⟨_,aAv (by lia)⟩;have hz0:((ps.zip ys).map lM)[i]?=some (lM (p0,y0)):=by rw [aAf,(aAT (z:=(p0,y0))).mpr ⟨hp0,hy0⟩];rfl
   obtain ⟨c,c1,c2,rfl,hc,hc1,hc2⟩:=dI (show IsP K H (.tup [.str p0.1,p0.2]) y from hdy);obtain rfl:=bq hc1;have ml:=mem_le hz0;rw [show (lM (p0,y0)).length=p0.1.length+(Str.ofString ": ").length+y0.length from by show (p0.1++Str.ofString ": " ++y0).length=_;rw [aAd,aAd]] at ml;refine ⟨c,_,rfl,g1.tup hc,rfl,_,_,rfl,_,_,rfl,rfl,?_⟩;refine ⟨_,rfl,_,rfl,m,rfl,p0.2,c2,y0,rfl,hc2.same g1,e3 i p0 y0 hp0 hy0,by lia,fun H2 g2=>?_⟩;refine ⟨_,_,rfl,by lia,by lia,g2 _ _ f1',?_,next _ _ _ ⟨?_,bM hl (g1.trans g2),aa,_,_,rfl⟩⟩
   ·rw [aAa,aAE];exact av (by lia)
   ·rw [aAC,hz0,aAt]
    rfl
  rintro zs σ H1 ⟨rfl,g1,f1',w1,w2,rfl⟩;have ll:((ps.zip ys).map lM).length=ps.length:=by rw [aAa,aBn,e1,aBP]
  rw [aAy (by lia)] at f1';refine ⟨l,_,rfl,SqL.of f1',by lia,by lia,?_⟩;refine ⟨_,rfl,_,_,rfl,rfl,?_,_,_,rfl,rfl,?_,q H1 g1⟩
  ·rw [l1 "{" (by simp)];exact bR (by lia)
  ·rw [aAd,l1 "{" (by simp),l1 "}" (by simp)];exact bR (by lia)
 | list m ds zs e1 e2 e3 =>
  obtain ⟨a,u1,u2,rfl,ha,hu1,hu2⟩:=dI hd;obtain rfl:=bq hu1;rw [aAd,aAd,l1 "[" (by simp),l1 "]" (by simp)] at hz;refine ⟨_,rfl,_,_,_,rfl,.tup_int ha,_,rfl,cg ⟨_,rfl,_,_,_,rfl,.tup_str ha,_,rfl,cg ?_⟩⟩;refine ⟨_,rfl,_,_,_,hd,rfl,at0 _ _,isS ?_⟩;refine ⟨rfl,_,rfl,bj (aJ (by decide +kernel)) ⟨_,rfl,_,_,_,hd,rfl,rfl,fun v2 hv2=>?_⟩⟩;obtain ⟨b,xs,rfl,hb,_,rb⟩:=hv2.unref;have lx:=rb.length;refine ⟨b,rfl,⟨_,hb⟩,fun l hl=>?_⟩;refine eL (K:=K) (xs:=xs) (fun i ys σ H'=>ys=(zs.take i).map V.str∧Same H H'∧H' l=some (.lst ys)∧∃ w1,σ=[w1]) ⟨rfl,ag hl _,aa,_,rfl⟩ (fun i zs σ H' _ p=>p.2.1.tup hb) ?_ ?_
  ·rintro i y ys σ H1 N hy ⟨rfl,g1,f1',w1,rfl⟩ next;obtain ⟨d0,hd0,hdy⟩:=rb.get' hy;have hi:=(aAk.mp hd0).1;obtain ⟨z0,hz0⟩:∃ z0,zs[i]?=some z0:=⟨_,aAv (by lia)⟩;have ml:=mem_le hz0;refine ⟨_,rfl,m,rfl,d0,y,z0,rfl,hdy.same g1,e3 i d0 z0 hd0 hz0,by lia,fun H2 g2=>?_⟩;refine ⟨g2 _ _ f1',?_,next _ _ _ ⟨?_,bM hl (g1.trans g2),aa,_,rfl⟩⟩
   ·rw [aAa,aAE];exact av (by lia)
   ·rw [aAC,hz0,aAt]
    rfl
  rintro ys σ H1 ⟨rfl,g1,f1',w1,rfl⟩;rw [aAy (by lia)] at f1';refine ⟨l,zs,rfl,SqL.of f1',by lia,by lia,?_⟩;refine ⟨_,rfl,_,_,_,hd.same g1,rfl,at0 _ _,isS ?_⟩;refine ⟨rfl,_,rfl,bW ⟨_,rfl,_,_,rfl,rfl,?_,_,_,rfl,rfl,?_,q H1 g1⟩⟩
  ·rw [l1 "[" (by simp)];exact bR (by lia)
  ·rw [aAd,l1 "[" (by simp),l1 "]" (by simp)];exact bR (by lia)
 | rows m ds zs e1 e2 e3 =>
  obtain ⟨a,u1,u2,rfl,ha,hu1,hu2⟩:=dI hd;obtain rfl:=bq hu1;rw [aAd,aAd,l1 "(" (by simp),l1 ")" (by simp)] at hz;refine ⟨_,rfl,_,_,_,rfl,.tup_int ha,_,rfl,cg ⟨_,rfl,_,_,_,rfl,.tup_str ha,_,rfl,cg ?_⟩⟩;refine ⟨_,rfl,_,_,_,hd,rfl,at0 _ _,isS ?_⟩;refine ⟨rfl,_,rfl,bj (aJ (by decide +kernel)) ⟨_,rfl,_,_,_,hd,rfl,rfl,fun v2 hv2=>?_⟩⟩;obtain ⟨b,xs,rfl,hb,_,rb⟩:=hv2.unref;have lx:=rb.length;refine ⟨b,rfl,⟨_,hb⟩,fun l hl=>?_⟩;refine eL (K:=K) (xs:=xs) (fun i ys σ H'=>ys=(zs.take i).map V.str∧Same H H'∧H' l=some (.lst ys)∧∃ w1,σ=[w1]) ⟨rfl,ag hl _,aa,_,rfl⟩ (fun i zs σ H' _ p=>p.2.1.tup hb) ?_ ?_
  ·rintro i y ys σ H1 N hy ⟨rfl,g1,f1',w1,rfl⟩ next;obtain ⟨d0,hd0,hdy⟩:=rb.get' hy;have hi:=(aAk.mp hd0).1;obtain ⟨z0,hz0⟩:∃ z0,zs[i]?=some z0:=⟨_,aAv (by lia)⟩;have ml:=mem_le hz0;refine ⟨_,rfl,m,rfl,d0,y,z0,rfl,hdy.same g1,e3 i d0 z0 hd0 hz0,by lia,fun H2 g2=>?_⟩;refine ⟨g2 _ _ f1',?_,next _ _ _ ⟨?_,bM hl (g1.trans g2),aa,_,rfl⟩⟩
   ·rw [aAa,aAE];exact av (by lia)
   ·rw [aAC,hz0,aAt]
    rfl
  rintro ys σ H1 ⟨rfl,g1,f1',w1,rfl⟩;rw [aAy (by lia)] at f1';refine ⟨l,zs,rfl,SqL.of f1',by lia,by lia,?_⟩;refine ⟨_,rfl,_,_,_,hd.same g1,rfl,at0 _ _,isS ?_⟩;refine ⟨rfl,_,rfl,bj (aJ (by decide +kernel)) ⟨_,rfl,_,_,rfl,rfl,?_,_,_,rfl,rfl,?_,q H1 g1⟩⟩
  ·rw [l1 "(" (by simp)];exact bR (by lia)
  ·rw [aAd,l1 "(" (by simp),l1 ")" (by simp)];exact bR (by lia)
theorem mV (T:Tx K mg ad) {f:Addr} {fd:FuncData} (D:Gn K mg "value_text" dm ["value"] f fd):∀ n m,m < n→FnOk P w K mg base CX0 (m+3) f fd ["value"] (sVT K m)
 | 0,m,h=>absurd h (aBV _)
 | n+1,m,h=>ma T m D fun k hk=>mV T D n k (by lia)
theorem du {z:Str} (h:blk z=0):aj [z]=z:=cf (jt h)
theorem jv {a b:Str} (ha:blk a=0) (hb:blk b=0) (wss:List (List Str)):a++Str.join (Str.ofString ", ") (wss.map aj)++b=aj (enc a (sepW wss) b):=by
 apply cf;show _=bc _;unfold enc;rw [aX,aX,eQ,aT,aT,jt ha,jt hb]
theorem jw:blk "[" = 0∧blk "]" = 0∧blk "(" = 0∧blk ")" = 0∧blk "{" = 0∧blk "}" = 0:=by decide +kernel
theorem VW.text {n:Nat} {d:Dt} {ws:List Str} (h:VW n d ws):VT n d (aj ws):=by
 induction h with
 | int n i hi =>
  rw [du (sH hi)];exact .int n i (aAj hi (by decide +kernel))
 | str n z hz hl =>
  rw [du (xz z)];exact .str n z (by lia)
 | @list n its h8 hk ih =>
  rw [← jv jw.1 jw.2.1];refine .list n _ _ (by simp) (by rw [aAa];lia) fun i d z h1 h2=>?_;rw [aAf] at h1;obtain ⟨it,hit,rfl⟩:=aAh.mp h1;rw [aAf,aAf,hit] at h2
  cases h2
  exact ih it (aAr hit)
 | @rows n its h8 hk ih =>
  rw [← jv jw.2.2.1 jw.2.2.2.1];refine .rows n _ _ (by simp) (by rw [aAa];lia) fun i d z h1 h2=>?_;rw [aAf] at h1;obtain ⟨it,hit,rfl⟩:=aAh.mp h1;rw [aAf,aAf,hit] at h2
  cases h2
  exact ih it (aAr hit)
 | @rcd n gs h8 hz hk ih =>
  rw [← jv jw.2.2.2.2.1 jw.2.2.2.2.2];have e1:gs.map pr3=(gs.map fun g=>(g.1,g.2.1)).map Hb:=by rw [aAP];rfl
  have e2:(gs.map fw3).map aj=((gs.map fun g=>(g.1,g.2.1)).zip (gs.map fun g=>aj g.2.2)).map lM:=by
   clear ih hk h8 e1
   induction gs with
   | nil=>rfl
   | cons g gs ihg =>
    rw [aAo,aAo,aAo,aAo,aBc,aAo,ihg fun x hx=>hz x (aAg _ hx)]
    congr 1
    exact (hZ (hz g aAi).bk g.2.2).symm
  rw [e1,e2];refine .record n _ _ (by simp) (by rw [aAa];lia) fun i p y h1 h2=>?_;rw [aAf] at h1 h2;obtain ⟨g,hg,rfl⟩:=aAh.mp h1;rw [hg] at h2
  cases h2
  exact ih g (aAr hg)
def gT (w:Str) (zs:List Str):Str:=w++Str.ofString "(" ++Str.join (Str.ofString ", ") zs++Str.ofString ")"
def PT (n:Nat) (s:Str) (d:Dt) (z:Str):Prop:=∃ ws,PartW n s d ws∧z=aj ws
def sPT (K:W.Frag) (n:Nat):Sp:=fun vs H Q _=>∃ (s:Str) (d:Dt) (x:V) (z:Str),vs=[x,.str s]∧IsP K H d x∧PT n s d z∧z.length≤100000∧∀ H',Same H H'→Q (.str z) H'
def sFT (K:W.Frag) (n:Nat):Sp:=fun vs H Q _=>∃ (so w:Str) (ds:List Dt) (fs zs:List Str) (x:V),vs=[.str so,x]∧IsP K H (.tup (.str w :: ds)) x∧aK so w=some fs∧ds.length=fs.length∧zs.length=fs.length ∧
 (∀ (i:Nat) (s:Str) (d:Dt) (z:Str),fs[i]?=some s→ds[i]?=some d→zs[i]?=some z→PT n s d z)∧(gT w zs).length≤100000∧∀ H',Same H H'→Q (.str (gT w zs)) H'
theorem iQ (T:Tx K mg ad) (n:Nat) {f fp:Addr} {fd fdp:FuncData} (F:Gn K mg "form_text" cq ["sort","thing"] f fd) (J4:Gn K mg "part_text" cR ["part","sort"] fp fdp)
  (J0:FnOk P w K mg base CX0 (3*n+9) fp fdp ["part","sort"] (sPT K n)):FnOk P w K mg base CX0 (3*n+9+1) f fd ["sort","thing"] (sFT K n):=by
 obtain ⟨f1,d1,IP⟩:=T.parts_behind;have Ja:=fE (P:=P) (w:=w) (base:=base) T IP;obtain ⟨f2,d2,IF⟩:=T.in_brackets;have IZ:=gc (P:=P) (w:=w) (base:=base) T IF;refine F.F.ok iX (fun vs H Q E h=>?_) (fun cdv A outer s H vs Q E hr h=>?_)
 ·obtain ⟨so,w,ds,fs,zs,x,rfl,_⟩:=h
  rfl
 obtain ⟨so,wd,ds,fs,zs,x,rfl,hx,hf,l1,l2,hPT,hz,q⟩:=h;refine ⟨_,(@pss_cons _ _ _ _ _ (@ps_set _ _ 2 _ _ _ _ iX.nd rfl (Or.inl rfl) (pcl IP Ja (hr.mono (by lia)) rfl (@pa2 _ _ _ _ _ (pv 0) (@pi1 K _ _ _ _ _ _ _ rfl (pv 1)) (by rfl) (by rfl))) (by rfl) (.inl rfl)) (@pss_one _ _ _ (@ps_ret _ _ _ _ (pcl IF IZ (hr.mono (by lia)) rfl (@pa2 _ _ _ _ _ (@pi1 K _ _ _ _ _ _ _ rfl (pv 1)) (pe_comp rfl (cs0 (NL:=["part","part_sort"]) rfl (by decide +kernel) (by decide +kernel)) (xi rfl T.z_zip (@pa2 _ _ _ _ _ (pe_slice (eM (K:=K) rfl) (pv 1) (po_some pe_int) ce) (pv 2) (by rfl) (by rfl))) (fun _ _ _ _=>(kg (K:=K) (n:=2) rfl rfl (aG (ai (i:=0) (show List.Nodup (α:=Str) ["part","part_sort"] by decide +kernel) rfl (Or.inl rfl)) (aG (ai (i:=1) (show List.Nodup (α:=Str) ["part","part_sort"] by decide +kernel) rfl (Or.inl rfl)) di)))) (fun _ _ _ _=>(pcl J4 J0 (hr.mono (by lia)) rfl (@pa2 _ _ _ _ _ (pv 0) (pv 1) (by rfl) (by rfl))))) (by rfl) (by rfl)))))),?_⟩;have fl:=jr hf;refine ⟨_,rfl,_,rfl,_,_,_,hx,rfl,at0 _ _,isS ?_⟩;refine ⟨so,wd,rfl,?_⟩;rw [hf];intro b hb;refine ⟨_,rfl,_,_,_,hx,rfl,at0 _ _,isS ?_⟩;refine ⟨_,rfl,_,rfl,_,hx,fun v3 H1 g1 hv3=>?_⟩;rw [vV] at hv3;obtain ⟨c,xs,rfl,hc,_,rc⟩:=hv3.unref;have lx:=rc.length;refine ⟨_,rfl,c,b,rfl,⟨xs,hc⟩,⟨_,hb H1⟩,fun l hl=>?_⟩;have wz:(gT wd zs).length=wd.length+(Str.ofString "(").length+(Str.join (Str.ofString ", ") zs).length+(Str.ofString ")").length:=by
  unfold gT;rw [aAd,aAd,aAd]
 refine qS (K:=K) (xs:=xs) (ys:=fs.map V.str) (fun i us σ H'=>us=(zs.take i).map V.str∧Same H1 H'∧H' l=some (.lst us)∧∃ w1 w2,σ=[w1,w2]) ⟨rfl,ag hl _,aa,_,_,rfl⟩ (fun i us σ H' r=>⟨r.2.1.tup hc,hb H'⟩) ?_ ?_
 ·rintro i y1 y2 T0 us σ H2 N h1 h2 hT ⟨rfl,g2,f2',w1,w2,rfl⟩ next;rw [aAf] at h2;obtain ⟨s0,hs0,rfl⟩:=aAh.mp h2;obtain ⟨d0,hd0,hdy⟩:=rc.get' h1;have hi:=(aAk.mp hs0).1;obtain ⟨z0,hz0⟩:∃ z0,zs[i]?=some z0:=⟨_,aAv (by lia)⟩;have ml:=PySem.join_mem_le (Str.ofString ", ") zs z0 (aAr hz0);have g3:=g2.trans (ag hT (.tup [y1,.str s0]));refine ⟨T0,_,rfl,SqT.of aa,rfl,_,_,rfl,_,_,rfl,rfl,?_⟩;refine ⟨_,rfl,_,rfl,s0,d0,y1,z0,rfl,hdy.same g3,hPT i s0 d0 z0 hs0 hd0 hz0,by lia,fun H3 g4=>?_⟩;have nl:l≠T0:=ah f2' hT;refine ⟨g4 _ _ (by rw [ac nl];exact f2'),?_,next _ _ _ ⟨?_,bM hl (g3.trans g4),aa,_,_,rfl⟩⟩
  ·rw [aAa,aAE];exact av (by lia)
  ·rw [aAC,hz0,aAt]
   rfl
 rintro us σ H2 ⟨rfl,g2,f2',w1,w2,rfl⟩;rw [aAy (by rw [aAa];lia)] at f2';exact ⟨wd,l,zs,rfl,SqL.of f2',by lia,by lia,by lia,q H2 (g1.trans g2)⟩
def sKT (K:W.Frag) (n:Nat):Sp:=fun vs H Q _=>∃ (d:Dt) (x:V) (ws:List Str),vs=[x]∧IsP K H d x∧KW n d ws∧(aj ws).length≤100000∧∀ H',Same H H'→Q (.str (aj ws)) H'
def sTT (K:W.Frag) (n:Nat):Sp:=fun vs H Q _=>∃ (d:Dt) (x:V) (ws:List Str),vs=[x]∧IsP K H d x∧TW n d ws∧(aj ws).length≤100000∧∀ H',Same H H'→Q (.str (aj ws)) H'
theorem iR (T:Tx K mg ad) (n:Nat) {f fk ft:Addr} {fd fdk fdt:FuncData} (F:Gn K mg "part_text" cR ["part","sort"] f fd) (Je:Gn K mg "kind_text" cQ ["kind"] fk fdk) (Jc:Gn K mg "turn_text" cp ["turn"] ft fdt) (Jp:FnOk P w K mg base CX0 (3*n+8) fk fdk ["kind"] (sKT K n)) (Js:FnOk P w K mg base CX0 (3*n+8) ft fdt ["turn"] (sTT K n)):FnOk P w K mg base CX0 (3*n+9) f fd ["part","sort"] (sPT K n):=by
 obtain ⟨f1,d1,IM⟩:=T.value_text;have IN:=mV (P:=P) (w:=w) (base:=base) T IM 5 4 (by decide);refine F.F.ok oH (fun vs H Q E h=>?_) (fun cdv A outer s H vs Q E hr h=>?_)
 ·obtain ⟨s,d,x,z,rfl,_⟩:=h
  rfl
 obtain ⟨s,d,x,z,rfl,hx,⟨ws,pt,rfl⟩,hz,q⟩:=h;refine ⟨_,(@pss_cons _ _ _ _ _ (@ps_if _ _ _ _ _ _ _ _ (pt_cmpR op_eq (pv 1) pe_str (nomark _)) (@pss_one _ _ _ (@ps_ret _ _ _ _ (pv 0))) pss_nil) (@pss_cons _ _ _ _ _ (@ps_if _ _ _ _ _ _ _ _ (pt_cmpR op_eq (pv 1) pe_str (nomark _)) (@pss_one _ _ _ (@ps_ret _ _ _ _ (pcl Je Jp (hr.mono (by lia)) rfl (@pa1 _ _ _ (pv 0) (by rfl))))) pss_nil) (@pss_cons _ _ _ _ _ (@ps_if _ _ _ _ _ _ _ _ (pt_cmpR op_eq (pv 1) pe_str (nomark _)) (@pss_one _ _ _ (@ps_ret _ _ _ _ (pcl Jc Js (hr.mono (by lia)) rfl (@pa1 _ _ _ (pv 0) (by rfl))))) pss_nil) (@pss_one _ _ _ (@ps_ret _ _ _ _ (pcl IM IN (hr.mono (by lia)) rfl (@pa1 _ _ _ (pv 0) (by rfl)))))))),?_⟩;refine ⟨_,rfl,rfl,_,rfl,?_⟩;have key:(∃ z,s= "word" ∧d=.str z∧ws=[z]∧NmC z)∨((¬ s= "word" ∧¬ s= "kind" ∧¬ s= "turn")∧VT 4 d (aj ws))∨(s= "kind" ∧KW n d ws)∨(s= "turn" ∧TW n d ws):=by
  cases pt with
  | word hz0=>exact .inl ⟨_,rfl,rfl,rfl,hz0⟩
  | num hi=>exact .inr (.inl ⟨by decide +kernel,VW.text (.int 4 _ hi)⟩)
  | text hz0 hl=>exact .inr (.inl ⟨by decide +kernel,VW.text (.str 4 _ hz0 hl)⟩)
  | value h=>exact .inr (.inl ⟨by decide +kernel,h.text⟩)
  | kind hk=>exact .inr (.inr (.inl ⟨rfl,hk⟩))
  | turn ht=>exact .inr (.inr (.inr ⟨rfl,ht⟩))
 rcases key with ⟨z,rfl,rfl,rfl,hz0⟩ | ⟨⟨n1,n2,n3⟩,vt⟩ | ⟨rfl,hk⟩ | ⟨rfl,ht⟩
 ·obtain rfl:=bq hx;rw [du hz0.bk] at q;exact bW ⟨_,rfl,q H (Same.refl H)⟩
 ·exact bj (aJ n1) ⟨_,rfl,rfl,_,rfl,bj (aJ n2) ⟨_,rfl,rfl,_,rfl,bj (aJ n3) ⟨_,rfl,d,x,aj ws,rfl,hx,vt,hz,q⟩⟩⟩
 ·exact bj (aJ (by decide +kernel)) ⟨_,rfl,rfl,_,rfl,bW ⟨_,rfl,d,x,ws,rfl,hx,hk,hz,q⟩⟩
 ·exact bj (aJ (by decide +kernel)) ⟨_,rfl,rfl,_,rfl,bj (aJ (by decide +kernel)) ⟨_,rfl,rfl,_,rfl,bW ⟨_,rfl,d,x,ws,rfl,hx,ht,hz,q⟩⟩⟩
theorem gd:∀ {zs:List Str},(∀ z∈zs,NmC z)→(zs.map fun z=>[z]).map aj=zs
 | [],_=>rfl
 | z :: zs,h=>by
  rw [aAo,aAo,du (h z aAi).bk,gd fun x hx=>h x (aAg _ hx)]
theorem mW (w:Str) (ws:List Str):(aj ws).length+2≤(aj (brW w ws)).length∧w.length+2≤(aj (brW w ws)).length:=by
 rw [← ak,← ak];show (bc ws).length+2≤(bc (brW w ws)).length∧w.length+2≤(bc (brW w ws)).length;unfold brW;rw [aT,aT,bN w ["("],cj.1,cj.2.1];simp only [aAc,aAb,aAn,ak];lia
theorem rp (w:Str) (ws:List Str):w.length+2+(aj ws).length≤(aj ([w,":"]++ws)).length:=by
 rw [← ak,← ak];show _+_+(bc ws).length≤(bc _).length;rw [aT,bN w [":"],cj.2.2.2.1];simp only [aAc,aAb,aAn,ak];lia
theorem om (T:Tx K mg ad) (n:Nat) {f ff:Addr} {fd fdf:FuncData} (Je:Gn K mg "kind_text" cQ ["kind"] f fd) (IJ:Gn K mg "form_text" cq ["sort","thing"] ff fdf) (Jp:FnOk P w K mg base CX0 (3*n+8) f fd ["kind"] (sKT K n)) (IW:FnOk P w K mg base CX0 (3*n+9+1) ff fdf ["sort","thing"] (sFT K n)):FnOk P w K mg base CX0 (3*(n+1)+8) f fd ["kind"] (sKT K (n+1)):=by
 obtain ⟨f2,d2,IF⟩:=T.in_brackets;have IZ:=gc (P:=P) (w:=w) (base:=base) T IF;obtain ⟨f4,d4,IA⟩:=T.pair_text;have IY:=fe (P:=P) (w:=w) (base:=base) T IA;obtain ⟨f5,d5,ID⟩:=T.most_exchanged;have I8:=ee (P:=P) (w:=w) (base:=base) T ID;refine Je.F.ok iV (fun vs H Q E h=>?_) (fun cdv A outer s H vs Q E hr h=>?_)
 ·obtain ⟨d,x,ws,rfl,_⟩:=h
  rfl
 obtain ⟨d,x,ws,rfl,hx,kw,hz,q⟩:=h;refine ⟨_,(@pss_cons _ _ _ _ _ (@ps_set _ _ 1 _ _ _ _ iV.nd rfl (Or.inl rfl) (@pi1 K _ _ _ _ _ _ _ rfl (pv 0)) (by rfl) (.inl rfl)) (@pss_cons _ _ _ _ _ (@ps_if _ _ _ _ _ _ _ _ (pt_cmpR op_eq (pv 1) pe_str (nomark _)) (@pss_one _ _ _ (@ps_ret _ _ _ _ (pcl IF IZ (hr.mono (by lia)) rfl (@pa2 _ _ _ _ _ (pv 1) (pe_callTy (gO (K:=K) rfl) rfl T.z_list boot_list (@pa1 _ _ _ (@pi1 K _ _ _ _ _ _ _ rfl (pv 0)) (by rfl))) (by rfl) (by rfl))))) pss_nil) (@pss_cons _ _ _ _ _ (@ps_if _ _ _ _ _ _ _ _ (pt_cmpR op_eq (pv 1) pe_str (nomark _)) (@pss_one _ _ _ (@ps_ret _ _ _ _ (pcl IF IZ (hr.mono (by lia)) rfl (@pa2 _ _ _ _ _ (pv 1) (pe_comp rfl (cs0 (NL:=["name","inner"]) rfl (by decide +kernel) (by decide +kernel)) (pi_tupN (K:=K) rfl (@pi1 K _ _ _ _ _ _ _ rfl (pv 0))) (fun _ _ _ _=>(kg (K:=K) (n:=2) rfl rfl (aG (ai (i:=0) (show List.Nodup (α:=Str) ["name","inner"] by decide +kernel) rfl (Or.inl rfl)) (aG (ai (i:=1) (show List.Nodup (α:=Str) ["name","inner"] by decide +kernel) rfl (Or.inl rfl)) di)))) (fun _ _ _ _=>(pcl IA IY (hr.mono (by lia)) rfl (@pa2 _ _ _ _ _ (pv 0) (pcl Je Jp (hr.mono (by lia)) rfl (@pa1 _ _ _ (pv 1) (by rfl))) (by rfl) (by rfl))))) (by rfl) (by rfl))))) pss_nil) (@pss_one _ _ _ (@ps_ret _ _ _ _ (pcl IJ IW (hr.mono (by lia)) rfl (@pa2 _ _ _ _ _ pe_str (@pe_op _ _ _ _ _ _ _ _ (kL (K:=K) rfl) (@pe_tupPK _ K _ _ _ _ rfl (@pa1 _ _ _ (pv 1) (by rfl))) (pcl ID I8 (hr.mono (by lia)) rfl (@pa2 _ _ _ _ _ (pv 1) (pe_slice (eM (K:=K) rfl) (pv 0) (po_some pe_int) ce) (by rfl) (by rfl)))) (by rfl) (by rfl)))))))),?_⟩;have nm:∀ {i:Int},i.natAbs < 10 ^ 60→aj [aH i]=aH i:=fun hi=>du (sH hi);have key:(∃ (wd:Str) (ds:List Dt) (fs:List Str) (wss:List (List Str)),d=.tup (.str wd :: ds)∧ws=brW wd (sepW wss)∧NmC wd∧¬ wd= "choice" ∧¬ wd= "record" ∧aK "kind" wd=some fs∧(wd= "list" →ds.length=2)∧(wd= "rows" →ds.length=3)∧(exL wd ds).length=fs.length∧wss.length=fs.length ∧
   (∀ (i:Nat) (s:Str) (d:Dt) (z:Str),fs[i]?=some s→(exL wd ds)[i]?=some d→(wss.map aj)[i]?=some z→PT n s d z))∨(∃ zs:List Str,d=.tup [.str "choice",.tup (zs.map Dt.str)]∧ws=brW "choice" (sepW (zs.map fun z=>[z]))∧zs.length≤8∧∀ z∈zs,NmC z) ∨
   ∃ gs:List G3,d=.tup [.str "record",.tup (gs.map pr3)]∧ws=brW "record" (sepW (gs.map fw3))∧gs.length≤8∧(∀ g∈gs,NmC g.1)∧∀ g∈gs,KW n g.2.1 g.2.2:=by
  cases kw with
  | number _ i j hi hj =>
   refine .inl ⟨"number",[.int i,.int j],["number","number"],[[aH i],[aH j]],rfl,rfl,bn _ (by simp),by decide +kernel,by decide +kernel,by decide +kernel,fun _=>rfl,fun e=>absurd e (by decide +kernel),rfl,rfl,fun k s d z h1 h2 h3=>?_⟩
   match k,h1,h2,h3 with
   | 0,h1,h2,h3=>cases h1;cases h2;cases h3;exact ⟨_,.num hi,rfl⟩
   | 1,h1,h2,h3=>cases h1;cases h2;cases h3;exact ⟨_,.num hj,rfl⟩
  | text _ i hi =>
   refine .inl ⟨"text",[.int i],["number"],[[aH i]],rfl,rfl,bn _ (by simp),by decide +kernel,by decide +kernel,by decide +kernel,fun e=>absurd e (by decide +kernel),fun e=>absurd e (by decide +kernel),rfl,rfl,fun k s d z h1 h2 h3=>?_⟩
   match k,h1,h2,h3 with
   | 0,h1,h2,h3=>cases h1;cases h2;cases h3;exact ⟨_,.num hi,rfl⟩
  | @list _ k0 kw i hk hi =>
   refine .inl ⟨"list",[k0,.int i],["number","kind"],[[aH i],kw],rfl,rfl,bn _ (by simp),by decide +kernel,by decide +kernel,by decide +kernel,fun _=>rfl,fun e=>absurd e (by decide +kernel),rfl,rfl,fun k s d z h1 h2 h3=>?_⟩
   match k,h1,h2,h3 with
   | 0,h1,h2,h3=>cases h1;cases h2;cases h3;exact ⟨_,.num hi,rfl⟩
   | 1,h1,h2,h3=>cases h1;cases h2;cases h3;exact ⟨_,.kind hk,rfl⟩
  | @rows _ z0 k0 kw i hz0 hk hi =>
   refine .inl ⟨"rows",[.str z0,k0,.int i],["word","number","kind"],[[z0],[aH i],kw],rfl,rfl,bn _ (by simp),by decide +kernel,by decide +kernel,by decide +kernel,fun e=>absurd e (by decide +kernel),fun _=>rfl,rfl,rfl,fun k s d z h1 h2 h3=>?_⟩
   match k,h1,h2,h3 with
   | 0,h1,h2,h3=>cases h1;cases h2;cases h3;exact ⟨_,.word hz0,rfl⟩
   | 1,h1,h2,h3=>cases h1;cases h2;cases h3;exact ⟨_,.num hi,rfl⟩
   | 2,h1,h2,h3=>cases h1;cases h2;cases h3;exact ⟨_,.kind hk,rfl⟩
  | choice _ zs h0 h8 hzs=>exact .inr (.inl ⟨zs,rfl,rfl,h8,hzs⟩)
  | @rcd _ gs h8 hzs hk=>exact .inr (.inr ⟨gs,rfl,rfl,h8,hzs,hk⟩)
 rcases key with ⟨wd,ds,fs,wss,rfl,rfl,hw,n1,n2,hf,k2,k3,l1,l2,hp⟩ | ⟨zs,rfl,rfl,h8,hzs⟩ | ⟨gs,rfl,rfl,h8,hzs,hk⟩
 ·have et:=dM hw.bk wss;refine ⟨_,rfl,_,_,_,hx,rfl,at0 _ _,isS ?_⟩;refine ⟨_,rfl,rfl,_,rfl,bj (aJ n1) ⟨_,rfl,rfl,_,rfl,bj (aJ n2) ⟨_,rfl,[.str wd],.cons .str .nil,sz1,fun v2 H1 g1 hv2=>?_⟩⟩⟩;refine ⟨_,rfl,_,rfl,_,rfl,_,hx.same g1,fun v3 H2 g2 hv3=>?_⟩;rw [vV] at hv3;refine ⟨wd,ds,v3,rfl,hv3,k2,k3,fun v4 H3 g3 hv4=>?_⟩;have el:(exL wd ds).length≤6:=by rw [l1];exact jr hf
  refine ⟨[.str wd],exL wd ds,(hv2.same g2).same g3,hv4,bX (by simp only [aAb,aAn];lia),fun v5 H4 g4 hv5=>?_⟩;refine ⟨"kind",wd,exL wd ds,fs,wss.map aj,v5,rfl,hv5,hf,l1,by rw [aAa];exact l2,hp,?_,fun H5 g5=>?_⟩
  ·unfold gT;rw [et];exact hz
  ·unfold gT;rw [et];exact q H5 ((((g1.trans g2).trans g3).trans g4).trans g5)
 ·have et:=dM (w:= "choice") (by decide +kernel) (zs.map fun z=>[z]);have tl:=(mW "choice" (sepW (zs.map fun z=>[z]))).1;rw [← ls] at tl;rw [gd hzs] at et tl;refine ⟨_,rfl,_,_,_,hx,rfl,at0 _ _,isS ?_⟩;refine ⟨_,rfl,rfl,_,rfl,bW ⟨_,rfl,_,rfl,_,_,_,hx,rfl,rfl,fun v2 hv2=>?_⟩⟩;obtain ⟨b,xs,rfl,hb,_,rb⟩:=hv2.unref;obtain rfl:=cE rb;refine ⟨b,_,rfl,.inr hb,fun l hl=>?_⟩;refine ⟨_,l,zs,rfl,SqL.of aa,by decide +kernel,by lia,by lia,?_⟩;rw [et];exact q _ (ag hl _)
 ·have et:=dM (w:= "record") (by decide +kernel) (gs.map fw3);have tl:=(mW "record" (sepW (gs.map fw3))).1;rw [← ls] at tl;refine ⟨_,rfl,_,_,_,hx,rfl,at0 _ _,isS ?_⟩;refine ⟨_,rfl,rfl,_,rfl,bj (aJ (by decide +kernel)) ⟨_,rfl,rfl,_,rfl,bW ⟨_,rfl,_,rfl,_,_,_,hx,rfl,rfl,fun v2 hv2=>?_⟩⟩⟩;obtain ⟨b,xs,rfl,hb,_,rb⟩:=hv2.unref;have lx:=rb.length;rw [aAa] at lx;refine ⟨b,rfl,⟨_,hb⟩,fun l hl=>?_⟩;refine eL (K:=K) (xs:=xs) (fun i zs σ H'=>zs=(((gs.map fw3).map aj).take i).map V.str∧Same H H'∧H' l=some (.lst zs)∧∃ w1 w2,σ=[w1,w2]) ⟨rfl,ag hl _,aa,_,_,rfl⟩ (fun i zs σ H' _ p=>p.2.1.tup hb) ?_ ?_
  ·rintro i y zs σ H1 N hy ⟨rfl,g1,f1',w1,w2,rfl⟩ next;obtain ⟨d0,hd0,hdy⟩:=rb.get' hy;rw [aAf] at hd0;obtain ⟨g,hg,rfl⟩:=aAh.mp hd0;have hgm:=aAr hg;have hz0:((gs.map fw3).map aj)[i]?=some (aj (fw3 g)):=by rw [aAf,aAf,hg];rfl
   obtain ⟨c,c1,c2,rfl,hc,hc1,hc2⟩:=dI (show IsP K H (.tup [.str g.1,g.2.1]) y from hdy);obtain rfl:=bq hc1;have ml:=PySem.join_mem_le (Str.ofString ", ") _ _ (aAr hz0);have tp:g.1.length+2+(aj g.2.2).length≤(aj (fw3 g)).length:=rp g.1 g.2.2;have ep:=hZ (hzs g hgm).bk g.2.2;refine ⟨c,_,rfl,g1.tup hc,rfl,_,_,rfl,_,_,rfl,rfl,?_⟩;refine ⟨_,rfl,_,rfl,g.2.1,c2,g.2.2,rfl,hc2.same g1,hk g hgm,by lia,fun H2 g2=>?_⟩;refine ⟨_,_,rfl,by lia,by lia,?_⟩;rw [ep];refine ⟨g2 _ _ f1',?_,next _ _ _ ⟨?_,bM hl (g1.trans g2),aa,_,_,rfl⟩⟩
   ·rw [aAa,aAE,aAa,aAa];exact av (by lia)
   ·rw [aAC,hz0,aAt]
    rfl
  rintro zs σ H1 ⟨rfl,g1,f1',w1,w2,rfl⟩;have ll:((gs.map fw3).map aj).length=gs.length:=by rw [aAa,aAa]
  rw [aAy (by lia)] at f1';refine ⟨_,l,(gs.map fw3).map aj,rfl,SqL.of f1',by decide +kernel,by lia,by lia,?_⟩;rw [et];exact q H1 g1
theorem wt {p:Str×Str} (h1:NmC p.1) (h2:NmC p.2):p.1++Str.ofString ": " ++p.2=aj (wyW p):=by
 have:=hZ h1.bk [p.2];rw [du h2.bk] at this;exact this
theorem qh (fo bk:List (List Str)):Str.ofString "words" ++Str.ofString "(" ++Str.join (Str.ofString ", ") (fo.map aj)++Str.ofString "; " ++Str.join (Str.ofString ", ") (bk.map aj)++Str.ofString ")" = aj (brW "words" ((sepW fo++[(";" : Str)])++sepW bk)):=by
 apply cf;show _=bc _;unfold brW;rw [aX,aX,aX,aX,aX,eQ,eQ,aT,aT,aT,aT,bN "words" ["("],show blk "words" = 0 by decide +kernel,cj.1,cj.2.1,cj.2.2.2.2.2.2.1,cj.2.2.2.2.2.2.2,show bc [(";" : Str)]=[59,32] by decide +kernel,show (Str.ofString "; ").cps.toList=[59,32] by decide +kernel];simp
theorem oq (T:Tx K mg ad) (n:Nat) {f ff:Addr} {fd fdf:FuncData} (F:Gn K mg "turn_text" cp ["turn"] f fd) (IJ:Gn K mg "form_text" cq ["sort","thing"] ff fdf)
  (IW:FnOk P w K mg base CX0 (3*n+9+1) ff fdf ["sort","thing"] (sFT K n)):FnOk P w K mg base CX0 (3*(n+1)+8) f fd ["turn"] (sTT K (n+1)):=by
 obtain ⟨f3,d3,Ii⟩:=T.with_commas;have Iu:=dP (P:=P) (w:=w) (base:=base) T Ii;obtain ⟨f4,d4,IA⟩:=T.pair_text;have IY:=fe (P:=P) (w:=w) (base:=base) T IA;refine F.F.ok dq (fun vs H Q E h=>?_) (fun cdv A outer s H vs Q E hr h=>?_)
 ·obtain ⟨d,x,ws,rfl,_⟩:=h
  rfl
 obtain ⟨d,x,ws,rfl,hx,tw,hz,q⟩:=h;refine ⟨_,(@pss_cons _ _ _ _ _ (@ps_set _ _ 1 _ _ _ _ dq.nd rfl (Or.inl rfl) (@pi1 K _ _ _ _ _ _ _ rfl (pv 0)) (by rfl) (.inl rfl)) (@pss_cons _ _ _ _ _ (@ps_if _ _ _ _ _ _ _ _ (pt_cmpR op_eq (pv 1) pe_str (nomark _)) (@pss_cons _ _ _ _ _ (@ps_set _ _ 2 _ _ _ _ dq.nd rfl (Or.inl rfl) (pcl Ii Iu (hr.mono (by lia)) rfl (@pa1 _ _ _ (pe_callTy (gO (K:=K) rfl) rfl T.z_list boot_list (@pa1 _ _ _ (@pi1 K _ _ _ _ _ _ _ rfl (pv 0)) (by rfl))) (by rfl))) (by rfl) (.inl rfl)) (@pss_cons _ _ _ _ _ (@ps_set _ _ 3 _ _ _ _ dq.nd rfl (Or.inl rfl) (pcl Ii Iu (hr.mono (by lia)) rfl (@pa1 _ _ _ (pe_comp rfl (cs0 (NL:=["behind","elder"]) rfl (by decide +kernel) (by decide +kernel)) (pi_tupN (K:=K) rfl (@pi1 K _ _ _ _ _ _ _ rfl (pv 0))) (fun _ _ _ _=>(kg (K:=K) (n:=2) rfl rfl (aG (ai (i:=0) (show List.Nodup (α:=Str) ["behind","elder"] by decide +kernel) rfl (Or.inl rfl)) (aG (ai (i:=1) (show List.Nodup (α:=Str) ["behind","elder"] by decide +kernel) rfl (Or.inl rfl)) di)))) (fun _ _ _ _=>(pcl IA IY (hr.mono (by lia)) rfl (@pa2 _ _ _ _ _ (pv 0) (pv 1) (by rfl) (by rfl))))) (by rfl))) (by rfl) (.inl rfl)) (@pss_one _ _ _ (@ps_ret _ _ _ _ (nF (gW (pv 1) (ji pe_str (gW (pv 2) (ji pe_str (gW (pv 3) (ji pe_str qU))))))))))) pss_nil) (@pss_one _ _ _ (@ps_ret _ _ _ _ (pcl IJ IW (hr.mono (by lia)) rfl (@pa2 _ _ _ _ _ pe_str (pv 0) (by rfl) (by rfl))))))),?_⟩;have key:(∃ (wd:Str) (ds:List Dt) (fs:List Str) (wss:List (List Str)),d=.tup (.str wd :: ds)∧ws=brW wd (sepW wss)∧NmC wd∧¬ wd= "words" ∧aK "turn" wd=some fs∧ds.length=fs.length∧wss.length=fs.length ∧
   (∀ (i:Nat) (s:Str) (d:Dt) (z:Str),fs[i]?=some s→ds[i]?=some d→(wss.map aj)[i]?=some z→PT n s d z))∨(∃ (fo:List Str) (bk:List (Str×Str)),d=.tup [.str "words",.tup (fo.map Dt.str),.tup (bk.map wyD)]∧ws=brW "words" ((sepW (fo.map fun z=>[z])++[(";" : Str)])++sepW (bk.map wyW))∧fo.length≤8∧bk.length≤8∧(∀ z∈fo,NmC z)∧∀ p∈bk,NmC p.1∧NmC p.2):=by
  cases tw with
  | nums _ w js hw nw hf hj =>
   refine .inl ⟨w,_,_,js.map (fun i=>[aH i]),rfl,rfl,hw,nw,hf,by rw [aAa,aAa],by rw [aAa,aAa],fun i s d z h1 h2 h3=>?_⟩;rw [aAf] at h1 h2;rw [aAf,aAf] at h3;obtain ⟨j,hj1,rfl⟩:=aAh.mp h2;rw [hj1] at h1 h3
   cases h1
   cases h3
   exact ⟨_,.num (hj j (aAr hj1)),rfl⟩
  | @items _ t tw' ht =>
   refine .inl ⟨"items",[t],["turn"],[tw'],rfl,rfl,dO.2,by decide +kernel,by decide +kernel,rfl,rfl,fun i s d z h1 h2 h3=>?_⟩
   match i,h1,h2,h3 with
   | 0,h1,h2,h3=>cases h1;cases h2;cases h3;exact ⟨_,.turn ht,rfl⟩
  | words _ fo bk _ _ f8 b8 hf hb=>exact .inr ⟨fo,bk,rfl,rfl,f8,b8,hf,hb⟩
 rcases key with ⟨wd,ds,fs,wss,rfl,rfl,hw,nw,hf,l1,l2,hp⟩ | ⟨fo,bk,rfl,rfl,f8,b8,hfo,hbk⟩
 ·have et:=dM hw.bk wss;refine ⟨_,rfl,_,_,_,hx,rfl,at0 _ _,isS ?_⟩;refine ⟨_,rfl,rfl,_,rfl,bj (aJ nw) ⟨_,rfl,"turn",wd,ds,fs,wss.map aj,x,rfl,hx,hf,l1,by rw [aAa];exact l2,hp,?_,fun H5 g5=>?_⟩⟩
  ·unfold gT;rw [et];exact hz
  ·unfold gT;rw [et];exact q H5 g5
 ·have et:=qh (fo.map fun z=>[z]) (bk.map wyW);rw [gd hfo] at et;have el:=congrArg Str.length et;simp only [aAd] at el;refine ⟨_,rfl,_,_,_,hx,rfl,at0 _ _,isS ?_⟩;refine ⟨_,rfl,rfl,_,rfl,bW ⟨_,rfl,_,_,_,hx,rfl,rfl,fun v2 hv2=>?_⟩⟩;obtain ⟨b,xs,rfl,hb,_,rb⟩:=hv2.unref;obtain rfl:=cE rb;refine ⟨b,_,rfl,.inr hb,fun l hl=>?_⟩;refine ⟨l,fo,rfl,SqL.of aa,by lia,by lia,?_⟩;have g1:=ag (H:=H) hl (.lst (fo.map V.str));refine ⟨_,rfl,_,_,_,hx.same g1,rfl,rfl,fun v3 hv3=>?_⟩;obtain ⟨c,ys,rfl,hc,_,rc⟩:=hv3.unref;have ly:=rc.length;rw [aAa] at ly;refine ⟨c,rfl,⟨_,hc⟩,fun l2 hl2=>?_⟩;refine eL (K:=K) (xs:=ys) (fun i zs σ H'=>zs=(((bk.map wyW).map aj).take i).map V.str∧Same (upd H l (.lst (fo.map V.str))) H'∧H' l2=some (.lst zs)∧∃ w1 w2,σ=[w1,w2]) ⟨rfl,ag hl2 _,aa,_,_,rfl⟩ (fun i zs σ H' _ p=>p.2.1.tup hc) ?_ ?_
  ·rintro i y zs σ H2 N hy ⟨rfl,g2,f2,w1,w2,rfl⟩ next;obtain ⟨d0,hd0,hdy⟩:=rc.get' hy;rw [aAf] at hd0;obtain ⟨p,hp,rfl⟩:=aAh.mp hd0;have hpm:=aAr hp;have hz0:((bk.map wyW).map aj)[i]?=some (aj (wyW p)):=by rw [aAf,aAf,hp];rfl
   obtain ⟨e,e1,e2,rfl,he,he1,he2⟩:=dI hdy;obtain rfl:=bq he1;obtain rfl:=bq he2;have:=(hbk p hpm).1.2.2;have:=(hbk p hpm).2.2.2;refine ⟨e,_,rfl,g2.tup he,rfl,_,_,rfl,_,_,rfl,rfl,?_⟩;refine ⟨_,rfl,_,rfl,_,_,rfl,by lia,by lia,?_⟩;rw [wt (hbk p hpm).1 (hbk p hpm).2];refine ⟨f2,?_,next _ _ _ ⟨?_,bM hl2 g2,aa,_,_,rfl⟩⟩
   ·rw [aAa,aAE,aAa,aAa];exact av (by lia)
   ·rw [aAC,hz0,aAt]
    rfl
  rintro zs σ H2 ⟨rfl,g2,f2,w1,w2,rfl⟩;have ll:((bk.map wyW).map aj).length=bk.length:=by rw [aAa,aAa]
  rw [aAy (by lia)] at f2;refine ⟨l2,(bk.map wyW).map aj,rfl,SqL.of f2,by lia,by lia,?_⟩;have l0:Str.empty.length=0:=rfl;refine ⟨_,rfl,_,rfl,bX (by lia),bR (by simp only [aAd];lia),_,rfl,bX (by lia),bR (by simp only [aAd];lia),_,rfl,_,rfl,bX (by lia),bR (by simp only [aAd];lia),_,rfl,bX (by lia),bR (by simp only [aAd];lia),_,rfl,_,rfl,bX (by lia),bR (by simp only [aAd];lia),_,rfl,bX (by lia),bR (by simp only [aAd];lia),bR (by simp only [aAd];lia),?_⟩;rw [oj,et];exact q H2 (g1.trans g2)
theorem jx (T:Tx K mg ad) {f ff fp ft:Addr} {fd fdf fdp fdt:FuncData} (D:Gn K mg "kind_text" cQ ["kind"] f fd) (Df:Gn K mg "form_text" cq ["sort","thing"] ff fdf) (Dp:Gn K mg "part_text" cR ["part","sort"] fp fdp) (Dt':Gn K mg "turn_text" cp ["turn"] ft fdt):∀ n,FnOk P w K mg base CX0 (3*n+8) f fd ["kind"] (sKT K n)∧FnOk P w K mg base CX0 (3*n+8) ft fdt ["turn"] (sTT K n)
 | 0=>⟨(fn_none fun _ _ _ _ h=>by obtain ⟨_,_,_,_,_,kw,_⟩:=h;cases kw),(fn_none fun _ _ _ _ h=>by obtain ⟨_,_,_,_,_,kw,_⟩:=h;cases kw)⟩
 | n+1 =>
  have ih:=jx T D Df Dp Dt' n;have G:=iQ T n Df Dp (iR T n Dp D Dt' ih.1 ih.2)
  ⟨om T n D Df ih.1 G,oq T n Dt' Df G⟩
def ou (K:W.Frag) (_:Ads):Sp:=sTT K 5
theorem md (T:Tx K mg ad) {f:Addr} {fd:FuncData} (F:Gn K mg "turn_text" cp ["turn"] f fd):FnOk P w K mg base CX0 23 f fd ["turn"] (ou K ad):=by
 obtain ⟨f1,d1,D1⟩:=T.kind_text;obtain ⟨f2,d2,D2⟩:=T.form_text;obtain ⟨f3,d3,D3⟩:=T.part_text;exact (jx (P:=P) (w:=w) (base:=base) T D1 D2 D3 F 5).2
def me (K:W.Frag) (_:Ads):Sp:=fun vs H Q _=>∃ (d:Dt) (x:V) (ws:List Str),vs=[x]∧IsP K H d x∧PW d ws∧(aj ws).length≤100000∧∀ H',Same H H'→Q (.str (aj ws)) H'
theorem mf (T:Tx K mg ad) {f:Addr} {fd:FuncData} (F:Gn K mg "piece_text" fh ["piece"] f fd):FnOk P w K mg base CX0 26 f fd ["piece"] (me K ad):=by
 obtain ⟨f1,d1,D1⟩:=T.kind_text;obtain ⟨f2,d2,IJ⟩:=T.form_text;obtain ⟨f3,d3,D3⟩:=T.part_text;obtain ⟨f4,d4,D4⟩:=T.turn_text;have ih:=jx (P:=P) (w:=w) (base:=base) T D1 IJ D3 D4 5;have IW:=iQ (P:=P) (w:=w) (base:=base) T 5 IJ D3 (iR T 5 D3 D1 D4 ih.1 ih.2);refine F.F.ok mi (fun vs H Q E h=>?_) (fun cdv A outer s H vs Q E hr h=>?_)
 ·obtain ⟨d,x,ws,rfl,_⟩:=h
  rfl
 obtain ⟨d,x,ws,rfl,hx,⟨w,fs,its,hw,hf,hl,hp,rfl,rfl⟩,hz,q⟩:=h;refine ⟨_,(@pss_one _ _ _ (@ps_ret _ _ _ _ (pcl IJ IW (hr.mono (by lia)) rfl (@pa2 _ _ _ _ _ pe_str (pv 0) (by rfl) (by rfl))))),?_⟩;have et:=dM hw.bk (its.map (·.2));refine ⟨_,rfl,"piece",w,its.map (·.1),fs,(its.map (·.2)).map aj,x,rfl,hx,hf,by rw [aAa,hl],by rw [aAa,aAa,hl],fun i s d z h1 h2 h3=>?_,?_,fun H5 g5=>?_⟩
 ·rw [aAf] at h2;obtain ⟨it,hit,rfl⟩:=aAh.mp h2;rw [aAf,aAf,hit] at h3
  cases h3
  exact ⟨_,hp (s,it) (aAr ((aAT (z:=(s,it))).mpr ⟨h1,hit⟩)),rfl⟩
 ·unfold gT;rw [et];exact hz
 ·unfold gT;rw [et];exact q H5 g5
theorem ge {a b:TS} {D:Ends} {σ:L2.St} {H:Hp} (h:∀ k:L2.St→Hp→Prop,(∀ σ H,b D σ H→k σ H)→a { D with nx:=k } σ H):Gb a b D σ H:=h _ fun _ _ h=>h
def az (wss:List (List Str)):List Str:=wss.flatMap fun x=>x++[("," : Str)]
theorem cF:∀ (x:List Str) (r:List (List Str)),az (x :: r)=sepW (x :: r)++[("," : Str)]
 | x,[]=>by simp [az,sepW]
 | x,y :: r=>by
  have:=cF y r;show (x++[("," : Str)])++az (y :: r)=((x++[("," : Str)])++sepW (y :: r))++_;rw [this,aAJ (x++[("," : Str)])]
theorem bz (wss:List (List Str)) (x:List Str):az (wss++[x])=az wss++(x++[("," : Str)]):=by simp [az]
theorem ow {α:Type} (l:List α) (a:α):atI (l++[a]) (-1)=some a:=by
 unfold atI ixN;rw [aAc,aA1,if_neg (by decide),if_pos (by lia),show ((-1:Int)+((l.length+1:Nat):Int)).toNat=l.length by lia];simp
theorem lN (l:List V) (a:V):kA (l++[a]) none (some (-1))=l:=by
 unfold kA HT.sIx;dsimp only;rw [aAc,aA1,if_pos (by decide),show ((-1:Int)+((l.length+1:Nat):Int)).toNat=l.length by lia];simp
theorem cv {K:W.Frag} {H:Hp} {l b:Addr} {xs ys:List Str} {Q:VK} (hl:H l=some (.lst (xs.map V.str))) (hb:H b=some (.lst (ys.map V.str))) (hn:xs.length+ys.length≤200000) (q:∀ p H',H p=none→Same H H'→H' p=some (.lst ((xs++ys).map V.str))→Q (.ref p) H'):ICatS K (.ref l) (.ref b) H Q :=
 ⟨l,b,_,_,rfl,rfl,SqL.of hl,SqL.of hb,by rw [aAa,aAa];exact bR (by lia),fun p hp=>q p _ hp (ag hp _) (by rw [aa,aAt])⟩
theorem a7 {K:W.Frag} {H:Hp} {l:Addr} {xs:List Str} (ys:List Str) {Q:VK} (hl:H l=some (.lst (xs.map V.str))) (hn:xs.length+ys.length≤200000) (q:∀ p H',H p=none→Same H H'→H' p=some (.lst ((xs++ys).map V.str))→Q (.ref p) H'):∀ b,H b=none→ICatS K (.ref l) (.ref b) (upd H b (.lst (ys.map V.str))) Q:=fun b hb =>
 cv (by rw [ac (ah hl hb)];exact hl) aa hn fun p H' hp g h=>q p H' (by
  cases c:H p with
  | none=>rfl
  | some o=>rw [ag hb _ _ _ c] at hp;cases hp) ((ag hb _).trans g) h
theorem none_of {H H':Hp} {p:Addr} (g:Same H H') (h:H' p=none):H p=none:=by
 cases c:H p with
 | none=>rfl
 | some o=>rw [g _ _ c] at h;cases h
theorem kj {x:List Str}:∀ {wss:List (List Str)},x∈wss→aB x≤aB (sepW wss)
 | [y],h=>by rw [aAq.mp h];exact aAp _
 | y :: z :: r,h=>by
  show _≤aB ((y++[("," : Str)])++sepW (z :: r));rw [aY,aY];rcases aAm.mp h with rfl | h
  ·lia
  ·have:=kj h;lia
theorem dv (wss:List (List Str)) (i:Nat):(az (wss.take i)).length≤(sepW wss).length+1:=by
 have h:(az (wss.take i)).length≤(az wss).length:=by
  conv=>rhs;rw [← List.take_append_drop i wss]
  unfold az;rw [List.flatMap_append,aAc];lia
 cases wss with
 | nil=>simp [az]
 | cons x r =>
  rw [cF,aAc] at h;exact h
def Bc (K:W.Frag) (n:Nat):Sp:=fun vs H Q _=>∃ (d:Dt) (x:V) (ws:List Str),vs=[x]∧IsP K H d x∧KW n d ws∧aB ws≤50000∧∀ l H',H l=none→Same H H'→H' l=some (.lst (ws.map V.str))→Q (.ref l) H'
theorem iS (T:Tx K mg ad) (n:Nat) {f:Addr} {fd:FuncData} (Im:Gn K mg "_law_kind_words" bS ["kind"] f fd) (IB:FnOk P w K mg base CX0 (n+2) f fd ["kind"] (Bc K n)):FnOk P w K mg base CX0 (n+3) f fd ["kind"] (Bc K (n+1)):=by
 refine Im.F.ok ao (fun vs H Q E h=>?_) (fun cdv A outer s H vs Q E hr h=>?_)
 ·obtain ⟨d,x,ws,rfl,_⟩:=h
  rfl
 obtain ⟨d,x,ws,rfl,hx,kw,hz,q⟩:=h;refine ⟨_,(@pss_cons _ _ _ _ _ (@ps_set _ _ 1 _ _ _ _ ao.nd rfl (Or.inl rfl) (@pi1 K _ _ _ _ _ _ _ rfl (pv 0)) (by rfl) (.inl rfl)) (@pss_cons _ _ _ _ _ (@ps_set _ _ 2 _ _ _ _ ao.nd rfl (Or.inl rfl) (@pe_lst _ _ _ _ (@pa2 _ _ _ _ _ (pv 1) pe_str (by rfl) (by rfl))) (by rfl) (.inl rfl)) (@pss_cons _ _ _ _ _ (@ps_if _ _ _ _ _ _ _ _ (pt_cmpR op_eq (pv 1) pe_str (nomark _)) (@pss_one _ _ _ (ps_for PassesOwn.never rfl (pi_tupN (K:=K) rfl (@pi1 K _ _ _ _ _ _ _ rfl (pv 0))) (ja rfl (aG (ai (i:=3) ao.nd rfl (Or.inl rfl)) (aG (ai (i:=4) ao.nd rfl (Or.inl rfl)) di)))
    (@pss_one _ _ _ (@ps_set _ _ 2 _ _ _ _ ao.nd rfl (Or.inl rfl) (@pe_op _ _ _ _ _ _ _ _ (au (K:=K) rfl) (@pe_op _ _ _ _ _ _ _ _ (au (K:=K) rfl) (@pe_op _ _ _ _ _ _ _ _ (au (K:=K) rfl) (pv 2) (@pe_lst _ _ _ _ (@pa2 _ _ _ _ _ (pv 3) pe_str (by rfl) (by rfl)))) (pcl Im IB (hr.mono (by lia)) rfl (@pa1 _ _ _ (pv 4) (by rfl)))) (@pe_lst _ _ _ _ (@pa1 _ _ _ pe_str (by rfl)))) (by rfl) (.inl rfl))))) (@pss_one _ _ _ (@ps_if _ _ _ _ _ _ _ _ (pt_cmpR op_eq (pv 1) pe_str (nomark _)) (@pss_one _ _ _ (ps_for PassesOwn.never rfl (pi_tupN (K:=K) rfl (@pi1 K _ _ _ _ _ _ _ rfl (pv 0))) (ai (i:=3) ao.nd rfl (Or.inl rfl))
    (@pss_one _ _ _ (@ps_set _ _ 2 _ _ _ _ ao.nd rfl (Or.inl rfl) (@pe_op _ _ _ _ _ _ _ _ (au (K:=K) rfl) (pv 2) (@pe_lst _ _ _ _ (@pa2 _ _ _ _ _ (pv 3) pe_str (by rfl) (by rfl)))) (by rfl) (.inl rfl))))) (@pss_one _ _ _ (@ps_if _ _ _ _ _ _ _ _ (pt_cmpR op_eq (pv 1) pe_str (nomark _)) (@pss_one _ _ _ (@ps_set _ _ 2 _ _ _ _ ao.nd rfl (Or.inl rfl) (@pe_op _ _ _ _ _ _ _ _ (au (K:=K) rfl) (@pe_op _ _ _ _ _ _ _ _ (au (K:=K) rfl) (@pe_op _ _ _ _ _ _ _ _ (au (K:=K) rfl) (pv 2) (@pe_lst _ _ _ _ (@pa2 _ _ _ _ _ (pe_callTy call_str_int rfl T.z_str boot_str (@pa1 _ _ _ (@pi1 K _ _ _ _ _ _ _ rfl (pv 0)) (by rfl))) pe_str (by rfl) (by rfl)))) (pcl Im IB (hr.mono (by lia)) rfl (@pa1 _ _ _ (@pi1 K _ _ _ _ _ _ _ rfl (pv 0)) (by rfl)))) (@pe_lst _ _ _ _ (@pa1 _ _ _ pe_str (by rfl)))) (by rfl) (.inl rfl))) (@pss_one _ _ _ (@ps_if _ _ _ _ _ _ _ _ (pt_cmpR op_eq (pv 1) pe_str (nomark _)) (@pss_one _ _ _ (@ps_set _ _ 2 _ _ _ _ ao.nd rfl (Or.inl rfl) (@pe_op _ _ _ _ _ _ _ _ (au (K:=K) rfl) (@pe_op _ _ _ _ _ _ _ _ (au (K:=K) rfl) (@pe_op _ _ _ _ _ _ _ _ (au (K:=K) rfl) (pv 2) (@pe_lst _ _ _ _ (@aq _ _ _ _ _ (@pi1 K _ _ _ _ _ _ _ rfl (pv 0)) (@pa3 _ _ _ _ _ _ _ pe_str (pe_callTy call_str_int rfl T.z_str boot_str (@pa1 _ _ _ (@pi1 K _ _ _ _ _ _ _ rfl (pv 0)) (by rfl))) pe_str (by rfl) (by rfl) (by rfl)) (by rfl)))) (pcl Im IB (hr.mono (by lia)) rfl (@pa1 _ _ _ (@pi1 K _ _ _ _ _ _ _ rfl (pv 0)) (by rfl)))) (@pe_lst _ _ _ _ (@pa1 _ _ _ pe_str (by rfl)))) (by rfl) (.inl rfl))) (@pss_one _ _ _ (ps_for PassesOwn.never rfl (pi_tupN (K:=K) rfl (pe_slice (eM (K:=K) rfl) (pv 0) (po_some pe_int) ce)) (ai (i:=5) ao.nd rfl (Or.inl rfl))
    (@pss_one _ _ _ (@ps_set _ _ 2 _ _ _ _ ao.nd rfl (Or.inl rfl) (@pe_op _ _ _ _ _ _ _ _ (au (K:=K) rfl) (pv 2) (@pe_lst _ _ _ _ (@pa2 _ _ _ _ _ (pe_callTy call_str_int rfl T.z_str boot_str (@pa1 _ _ _ (pv 5) (by rfl))) pe_str (by rfl) (by rfl)))) (by rfl) (.inl rfl)))))))))))) (@pss_cons _ _ _ _ _ (@ps_if _ _ _ _ _ _ _ _ (pt_cmpR op_eq (@pe_ix _ _ _ _ _ _ _ (aD (K:=K) rfl) (pv 2) (@pe_un _ _ _ _ _ _ un_neg pe_int) (fun _ _=>rfl)) pe_str (nomark _)) (@pss_one _ _ _ (@ps_set _ _ 2 _ _ _ _ ao.nd rfl (Or.inl rfl) (pe_slice (iE (K:=K) rfl) (pv 2) ce (po_some (@pe_un _ _ _ _ _ _ un_neg pe_int))) (by rfl) (.inl rfl))) pss_nil) (@pss_one _ _ _ (@ps_ret _ _ _ _ (@pe_op _ _ _ _ _ _ _ _ (au (K:=K) rfl) (pv 2) (@pe_lst _ _ _ _ (@pa1 _ _ _ pe_str (by rfl)))))))))),?_⟩
 obtain ⟨wd,ds,wss,hd,rfl,alt⟩:∃ wd ds wss,d=.tup (.str wd :: ds)∧ws=brW wd (sepW wss)∧((wd= "record" ∧∃ gs:List G3,ds=[.tup (gs.map pr3)]∧wss=gs.map fw3∧∀ g∈gs,KW n g.2.1 g.2.2)∨(wd= "choice" ∧∃ zs:List Str,ds=[.tup (zs.map Dt.str)]∧wss=zs.map fun z=>[z]) ∨
   (wd= "list" ∧∃ k0 kw i,ds=[k0,.int i]∧wss=[[aH i],kw]∧KW n k0 kw∧i.natAbs < 10 ^ 60)∨(wd= "rows" ∧∃ z k0 kw i,ds=[.str z,k0,.int i]∧wss=[[z],[aH i],kw]∧KW n k0 kw∧i.natAbs < 10 ^ 60) ∨
   ((¬ wd= "record" ∧¬ wd= "choice" ∧¬ wd= "list" ∧¬ wd= "rows")∧∃ js:List Int,ds=js.map Dt.int∧wss=js.map (fun i=>[aH i])∧∀ i∈js,i.natAbs < 10 ^ 60)):=by
  cases kw with
  | number _ i j hi hj=>exact ⟨_,_,[[aH i],[aH j]],rfl,rfl,.inr (.inr (.inr (.inr ⟨by decide +kernel,[i,j],rfl,rfl,fun k hk=>by
    rcases aAm.mp hk with rfl | hk
    ·exact hi
    ·rw [aAq.mp hk];exact hj⟩)))⟩
  | text _ i hi=>exact ⟨_,_,[[aH i]],rfl,rfl,.inr (.inr (.inr (.inr ⟨by decide +kernel,[i],rfl,rfl,fun k hk=>by rw [aAq.mp hk];exact hi⟩)))⟩
  | list hk hi=>exact ⟨_,_,_,rfl,rfl,.inr (.inr (.inl ⟨rfl,_,_,_,rfl,rfl,hk,hi⟩))⟩
  | rows hz0 hk hi=>exact ⟨_,_,_,rfl,rfl,.inr (.inr (.inr (.inl ⟨rfl,_,_,_,_,rfl,rfl,hk,hi⟩)))⟩
  | choice _ zs h0 h8 hzs=>exact ⟨_,_,_,rfl,rfl,.inr (.inl ⟨rfl,zs,rfl,rfl⟩)⟩
  | rcd h8 hzs hk=>exact ⟨_,_,_,rfl,rfl,.inl ⟨rfl,_,rfl,rfl,hk⟩⟩
 have wl:=bE (brW wd (sepW wss));rw [cX] at wl;refine ⟨_,rfl,_,_,_,(hd ▸ hx),rfl,at0 _ _,isS ?_⟩;refine ⟨_,rfl,sz2,fun l hl=>?_⟩;dsimp only [dC];refine ge fun k hk=>?_;have fin:∀ (l':Addr) (H':Hp) (v3 v4 v5:Option V),Same H H'→H l'=none→H' l'=some (.lst (([wd,"("]++az wss).map V.str))→k [some x,some (.str wd),some (.ref l'),v3,v4,v5] H':=fun l' H' v3 v4 v5 g hn hl'=>hk _ _ (by
  have ret:∀ (l1:Addr) (H1:Hp),Same H H1→H1 l1=some (.lst (([wd,"("]++sepW wss).map V.str))→Az (tOp (rV K) (ik 2) (s9 (bI (tC (V.str (Str.ofString ")"))) iq))) { nx:=fun x H'=>Q V.non H',rt:=Q } [some x,some (V.str wd),some (V.ref l1),v3,v4,v5] H1:=fun l1 H1 g1 h1 =>
   ⟨_,rfl,sz1,a7 [(")" : Str)] h1 (by simp only [aAc,aAb,aAn];lia) fun p H2 hp g2 h2=>q p H2 (none_of g1 hp) (g1.trans g2) h2⟩
  cases wss with
  | nil=>exact ⟨_,rfl,_,rfl,l',_,_,_,rfl,rfl,SqL.of hl',rfl,rfl,_,rfl,bj (aJ (by decide +kernel)) (ret l' H' g hl')⟩
  | cons y r =>
   rw [cF,← aAJ,aAt] at hl';refine ⟨_,rfl,_,rfl,l',_,_,_,rfl,rfl,SqL.of hl',ow _ _,rfl,_,rfl,bW ⟨_,rfl,_,rfl,_,rfl,l',_,rfl,SqL.of hl',fun p hp=>?_⟩⟩;refine ret p _ (g.trans (ag hp _)) ?_;rw [aa];exact congrArg (fun z=>some (HO.lst z)) (lN _ _))
 have hx':IsP K H (.tup (.str wd :: ds)) x:=hd ▸ hx;have g1:Same H (upd H l (.lst [V.str wd,V.str "("])):=ag hl _;have h1:(upd H l (.lst [V.str wd,V.str "("])) l=some (.lst (([wd,"("]++az (wss.take 0)).map V.str)):=aa
 revert g1 h1
 generalize upd H l (.lst [V.str wd,V.str "("])=H1
 intro g1 h1;have win:∀ {y:List Str},y∈wss→aB y≤50000:=fun hy=>by
  have:=kj hy;rw [bQ] at hz;lia
 have cl:=dv wss;have sl:(sepW wss).length≤100000:=by lia
 have size:∀ (i:Nat) (m:Nat),m≤10→([wd,"("]++az (wss.take i)).length+m≤200000:=fun i m hm=>by
  have:=cl i;simp only [aAc,aAb,aAn];lia
 refine ⟨_,rfl,rfl,_,rfl,?_⟩;rcases alt with ⟨rfl,gs,rfl,rfl,hk⟩ | ⟨rfl,zs,rfl,rfl⟩ | ⟨rfl,k0,kz,i,rfl,rfl,hk,hi⟩ | ⟨rfl,z,k0,kz,i,rfl,rfl,hk,hi⟩ | ⟨⟨n1,n2,n3,n4⟩,js,rfl,rfl,hjs⟩
 ·refine bW ⟨_,rfl,_,_,_,hx'.same g1,rfl,rfl,fun v2 hv2=>?_⟩;obtain ⟨b,xs,rfl,hb,_,rb⟩:=hv2.unref;refine ⟨b,rfl,⟨_,hb⟩,dj (K:=K) (xs:=xs) (fun i σ H'=>∃ l' v3 v4,Same H1 H'∧H l'=none∧H' l'=some (.lst (([("record" : Str),"("]++az ((gs.map fw3).take i)).map V.str))∧σ=[some x,some (.str "record"),some (.ref l'),v3,v4,none]) ⟨l,_,_,Same.refl _,hl,h1,rfl⟩ (fun i σ H' _ p=>by obtain ⟨_,_,_,g,_⟩:=p;exact g.tup hb) ?_ ?_⟩
  ·rintro i y σ H2 hy ⟨l',v3,v4,g2,hn,hl',rfl⟩;obtain ⟨d0,hd0,hdy⟩:=rb.get' hy;rw [aAf] at hd0;obtain ⟨g,hg,rfl⟩:=aAh.mp hd0;obtain ⟨c,c1,c2,rfl,hc,hc1,hc2⟩:=dI (show IsP K H1 (.tup [.str g.1,g.2.1]) y from hdy);obtain rfl:=bq hc1;have hgm:=aAr hg;have tk:(gs.map fw3).take (i+1)=(gs.map fw3).take i++[fw3 g]:=by rw [aAC,aAf,hg];rfl
   have wg:aB g.2.2≤50000:=by
    have:=win (aBy (f:=fw3) hgm);rw [aY] at this;lia
   have lg:=bE g.2.2;have ci:=cl i;refine ⟨c,_,rfl,g2.tup hc,rfl,_,_,rfl,_,_,rfl,rfl,?_⟩;refine ⟨_,rfl,_,rfl,sz2,a7 [g.1,":"] hl' (size i 2 (by decide)) fun p1 H3 hp1 g3 h3=>?_⟩;refine ⟨_,rfl,g.2.1,c2,g.2.2,rfl,(hc2.same g2).same g3,hk g hgm,wg,fun b1 H4 hb1 g4 h4=>cv (g4 _ _ h3) h4 (by simp only [aAc,aAb,aAn];lia) fun p2 H5 hp2 g5 h5=>?_⟩;refine ⟨sz1,a7 [("," : Str)] h5 (by simp only [aAc,aAb,aAn];lia) fun p3 H6 hp3 g6 h6=>?_⟩;have gg:=((g2.trans g3).trans g4).trans (g5.trans g6);refine ⟨p3,_,_,gg,none_of (g1.trans (((g2.trans g3).trans g4).trans g5)) hp3,?_,rfl⟩;rw [h6,tk,bz];simp
  ·rintro σ H2 ⟨l',v3,v4,g2,hn,hl',rfl⟩;have lx:=rb.length;rw [aAa] at lx;rw [aAy (by rw [aAa];lia)] at hl';exact fin l' H2 _ _ _ (g1.trans g2) hn hl'
 ·refine bj (aJ (by decide +kernel)) ⟨_,rfl,rfl,_,rfl,bW ⟨_,rfl,_,_,_,hx'.same g1,rfl,rfl,fun v2 hv2=>?_⟩⟩;obtain ⟨b,xs,rfl,hb,_,rb⟩:=hv2.unref;obtain rfl:=cE rb;refine ⟨b,rfl,⟨_,hb⟩,dj (K:=K) (xs:=zs.map V.str) (fun i σ H'=>∃ l' v3,Same H1 H'∧H l'=none∧H' l'=some (.lst (([("choice" : Str),"("]++az ((zs.map fun z=>[z]).take i)).map V.str))∧σ=[some x,some (.str "choice"),some (.ref l'),v3,none,none]) ⟨l,_,Same.refl _,hl,h1,rfl⟩ (fun i σ H' _ p=>by obtain ⟨_,_,g,_⟩:=p;exact g.tup hb) ?_ ?_⟩
  ·rintro i y σ H2 hy ⟨l',v3,g2,hn,hl',rfl⟩;rw [aAf] at hy;obtain ⟨z,hz',rfl⟩:=aAh.mp hy;have tk:(zs.map fun z=>[z]).take (i+1)=(zs.map fun z=>[z]).take i++[[z]]:=by rw [aAC,aAf,hz'];rfl
   refine ⟨_,rfl,_,rfl,sz2,a7 [z,","] hl' (size i 2 (by decide)) fun p1 H3 hp1 g3 h3=>?_⟩;refine ⟨p1,_,g2.trans g3,none_of (g1.trans g2) hp1,?_,rfl⟩;rw [h3,tk,bz];simp
  ·rintro σ H2 ⟨l',v3,g2,hn,hl',rfl⟩;rw [aAy (by rw [aAa,aAa];exact aAp _)] at hl';exact fin l' H2 _ _ _ (g1.trans g2) hn hl'
 ·have wk:=win (y:=kz) (by simp);have lk:=bE kz;refine bj (aJ (by decide +kernel)) ⟨_,rfl,rfl,_,rfl,bj (aJ (by decide +kernel)) ⟨_,rfl,rfl,_,rfl,bW ?_⟩⟩;refine ⟨_,rfl,_,rfl,_,_,_,hx'.same g1,rfl,rfl,isI ?_⟩;refine ⟨i,rfl,lJ (aAj hi (by decide +kernel)),sz2,a7 [aH i,","] h1 (size 0 2 (by decide)) fun p1 H3 hp1 g3 h3=>?_⟩;refine ⟨_,rfl,_,_,_,(hx'.same g1).same g3,rfl,rfl,fun v3 hv3=>?_⟩;refine ⟨k0,v3,kz,rfl,hv3,hk,wk,fun b1 H4 hb1 g4 h4=>cv (g4 _ _ h3) h4 (by simp only [aAc,aAb,aAn,az,aBA,aBt];lia) fun p2 H5 hp2 g5 h5=>?_⟩;refine ⟨sz1,a7 [("," : Str)] h5 (by simp only [aAc,aAb,aAn,az,aBA,aBt];lia) fun p3 H6 hp3 g6 h6=>?_⟩;refine fin p3 H6 _ _ _ (g1.trans ((g3.trans g4).trans (g5.trans g6))) (none_of (g1.trans ((g3.trans g4).trans g5)) hp3) ?_;rw [h6];simp [az]
 ·have wk:=win (y:=kz) (by simp);have lk:=bE kz;refine bj (aJ (by decide +kernel)) ⟨_,rfl,rfl,_,rfl,bj (aJ (by decide +kernel)) ⟨_,rfl,rfl,_,rfl,bj (aJ (by decide +kernel)) ⟨_,rfl,rfl,_,rfl,bW ?_⟩⟩⟩;refine ⟨_,rfl,_,rfl,_,_,_,hx'.same g1,rfl,rfl,isS ?_⟩;refine ⟨_,rfl,_,_,_,hx'.same g1,rfl,rfl,isI ?_⟩;refine ⟨i,rfl,lJ (aAj hi (by decide +kernel)),(by show 4≤sizeLine;decide),a7 [z,",",aH i,","] h1 (size 0 4 (by decide)) fun p1 H3 hp1 g3 h3=>?_⟩;refine ⟨_,rfl,_,_,_,(hx'.same g1).same g3,rfl,rfl,fun v3 hv3=>?_⟩;refine ⟨k0,v3,kz,rfl,hv3,hk,wk,fun b1 H4 hb1 g4 h4=>cv (g4 _ _ h3) h4 (by simp only [aAc,aAb,aAn,az,aBA,aBt];lia) fun p2 H5 hp2 g5 h5=>?_⟩;refine ⟨sz1,a7 [("," : Str)] h5 (by simp only [aAc,aAb,aAn,az,aBA,aBt];lia) fun p3 H6 hp3 g6 h6=>?_⟩;refine fin p3 H6 _ _ _ (g1.trans ((g3.trans g4).trans (g5.trans g6))) (none_of (g1.trans ((g3.trans g4).trans g5)) hp3) ?_;rw [h6];simp [az]
 ·refine bj (aJ n1) ⟨_,rfl,rfl,_,rfl,bj (aJ n2) ⟨_,rfl,rfl,_,rfl,bj (aJ n3) ⟨_,rfl,rfl,_,rfl,bj (aJ n4) ?_⟩⟩⟩;refine ⟨_,rfl,_,rfl,_,hx'.same g1,fun v2 H2 g2 hv2=>?_⟩;rw [vV] at hv2;obtain ⟨b,xs,rfl,hb,_,rb⟩:=hv2.unref;refine ⟨b,rfl,⟨_,hb⟩,dj (K:=K) (xs:=xs) (fun i σ H'=>∃ l' v5,Same H2 H'∧H l'=none∧H' l'=some (.lst (([wd,"("]++az ((js.map fun i=>[aH i]).take i)).map V.str))∧σ=[some x,some (.str wd),some (.ref l'),none,none,v5]) ⟨l,_,Same.refl _,hl,g2 _ _ h1,rfl⟩ (fun i σ H' _ p=>by obtain ⟨_,_,g,_⟩:=p;exact g.tup hb) ?_ ?_⟩
  ·rintro i y σ H3 hy ⟨l',v5,g3,hn,hl',rfl⟩;obtain ⟨d0,hd0,hdy⟩:=rb.get' hy;rw [aAf] at hd0;obtain ⟨j,hj,rfl⟩:=aAh.mp hd0;obtain rfl:=kT hdy;have tk:(js.map fun i=>[aH i]).take (i+1)=(js.map fun i=>[aH i]).take i++[[aH j]]:=by rw [aAC,aAf,hj];rfl
   refine ⟨_,rfl,_,rfl,j,rfl,lJ (aAj (hjs j (aAr hj)) (by decide +kernel)),sz2,a7 [aH j,","] hl' (size i 2 (by decide)) fun p1 H4 hp1 g4 h4=>?_⟩;refine ⟨p1,_,g3.trans g4,none_of ((g1.trans g2).trans g3) hp1,?_,rfl⟩;rw [h4,tk,bz];simp
  ·rintro σ H3 ⟨l',v5,g3,hn,hl',rfl⟩;have lx:=rb.length;rw [aAa] at lx;rw [aAy (by rw [aAa];lia)] at hl';exact fin l' H3 _ _ _ ((g1.trans g2).trans g3) hn hl'
theorem sM (T:Tx K mg ad) {f:Addr} {fd:FuncData} (D:Gn K mg "_law_kind_words" bS ["kind"] f fd):∀ n,FnOk P w K mg base CX0 (n+2) f fd ["kind"] (Bc K n)
 | 0=>fn_none fun _ _ _ _ h=>by obtain ⟨_,_,_,_,_,kw,_⟩:=h;cases kw
 | n+1=>iS T n D (sM T D n)
def xB (K:W.Frag) (n:Nat):Sp:=fun vs H Q _=>∃ (d:Dt) (x:V) (ws:List Str),vs=[x]∧IsP K H d x∧VW n d ws∧aB ws≤50000∧∀ l H',H l=none→Same H H'→H' l=some (.lst (ws.map V.str))→Q (.ref l) H'
theorem dQ (T:Tx K mg ad) (n:Nat) {f:Addr} {fd:FuncData} (Ir:Gn K mg "_law_value_words" bL ["value"] f fd) (G:∀ m,n=m+1→FnOk P w K mg base CX0 (m+3) f fd ["value"] (xB K m)):FnOk P w K mg base CX0 (n+3) f fd ["value"] (xB K n):=by
 have IL:FnOk P w K mg base CX0 (n+2) f fd ["value"] (fun vs H Q E=>∃ m,n=m+1∧xB K m vs H Q E):=by
  cases n with
  | zero=>exact fn_none fun _ _ _ _ h=>by obtain ⟨m,h,_⟩:=h;cases h
  | succ m=>exact (G m rfl).imp fun vs H Q E h=>by obtain ⟨m',e,h⟩:=h;cases e;exact h
 refine Ir.F.ok sc_law_value_words (fun vs H Q E h=>?_) (fun cdv A outer s H vs Q E hr h=>?_)
 ·obtain ⟨d,x,ws,rfl,_⟩:=h
  rfl
 obtain ⟨d,x,ws,rfl,hx,vw,hz,q⟩:=h;refine ⟨_,(@pss_cons _ _ _ _ _ (@ps_if _ _ _ _ _ _ _ _ (@pt_val _ _ _ (pe_callB (call_isiN' (K:=K) rfl) rfl T.z_isinstance boot_isinstance (@pa2 _ _ _ _ _ (pv 0) (nv rfl T.z_str boot_str) (by rfl) (by rfl))) (by intro _;rfl)) (@pss_one _ _ _ (@ps_ret _ _ _ _ (@pe_lst _ _ _ _ (@pa1 _ _ _ (@pe_op _ _ _ _ _ _ _ _ op_add_str (@pe_op _ _ _ _ _ _ _ _ op_add_str pe_str (pv 0)) pe_str) (by rfl))))) pss_nil) (@pss_cons _ _ _ _ _ (@ps_if _ _ _ _ _ _ _ _ (@pt_val _ _ _ (pe_callB (call_isiN' (K:=K) rfl) rfl T.z_isinstance boot_isinstance (@pa2 _ _ _ _ _ (pv 0) (nv rfl T.z_int boot_int) (by rfl) (by rfl))) (by intro _;rfl)) (@pss_one _ _ _ (@ps_ret _ _ _ _ (@pe_lst _ _ _ _ (@pa1 _ _ _ (pe_callTy call_str_int rfl T.z_str boot_str (@pa1 _ _ _ (pv 0) (by rfl))) (by rfl))))) pss_nil) (@pss_cons _ _ _ _ _ (@ps_set _ _ 1 _ _ _ _ sc_law_value_words.nd rfl (Or.inl rfl) (@pe_lst _ _ _ _ pa_nil) (by rfl) (.inl rfl)) (@pss_cons _ _ _ _ _ (ps_for PassesOwn.never rfl (pi_tupN (K:=K) rfl (@pi1 K _ _ _ _ _ _ _ rfl (pv 0))) (ai (i:=2) sc_law_value_words.nd rfl (Or.inl rfl))
    (@pss_one _ _ _ (@ps_if _ _ _ _ _ _ _ _ (pt_cmpR op_eq (@pi1 K _ _ _ _ _ _ _ rfl (pv 0)) pe_str (nomark _)) (@pss_one _ _ _ (@ps_set _ _ 1 _ _ _ _ sc_law_value_words.nd rfl (Or.inl rfl) (@pe_op _ _ _ _ _ _ _ _ (au (K:=K) rfl) (@pe_op _ _ _ _ _ _ _ _ (au (K:=K) rfl) (@pe_op _ _ _ _ _ _ _ _ (au (K:=K) rfl) (pv 1) (@pe_lst _ _ _ _ (@pa2 _ _ _ _ _ (@pi1 K _ _ _ _ _ _ _ rfl (pv 2)) pe_str (by rfl) (by rfl)))) (pcl Ir IL (hr.mono (by lia)) rfl (@pa1 _ _ _ (@pi1 K _ _ _ _ _ _ _ rfl (pv 2)) (by rfl)))) (@pe_lst _ _ _ _ (@pa1 _ _ _ pe_str (by rfl)))) (by rfl) (.inl rfl))) (@pss_one _ _ _ (@ps_set _ _ 1 _ _ _ _ sc_law_value_words.nd rfl (Or.inl rfl) (@pe_op _ _ _ _ _ _ _ _ (au (K:=K) rfl) (@pe_op _ _ _ _ _ _ _ _ (au (K:=K) rfl) (pv 1) (pcl Ir IL (hr.mono (by lia)) rfl (@pa1 _ _ _ (pv 2) (by rfl)))) (@pe_lst _ _ _ _ (@pa1 _ _ _ pe_str (by rfl)))) (by rfl) (.inl rfl)))))) (@pss_cons _ _ _ _ _ (@ps_set _ _ 3 _ _ _ _ sc_law_value_words.nd rfl (Or.inl rfl) (@wX _ _ _ _ _ _ (u1 hr.units) (@wZ _ _ _ _ _ (@kG _ _ _ _ _ _ _ _ _ pe_str (@pe_lst _ _ _ _ (@pa2 _ _ _ _ _ pe_str pe_str (by rfl) (by rfl))) (@kG _ _ _ _ _ _ _ _ _ pe_str (@pe_lst _ _ _ _ (@pa2 _ _ _ _ _ pe_str pe_str (by rfl) (by rfl))) (@kG _ _ _ _ _ _ _ _ _ pe_str (@pe_lst _ _ _ _ (@pa2 _ _ _ _ _ pe_str pe_str (by rfl) (by rfl))) (@wY _ _)))) rfl rfl (List.cons_ne_nil _ _) (show 3≤15 by decide)) (@pi1 K _ _ _ _ _ _ _ rfl (pv 0)) (fun _ _=>rfl)) (by rfl) (.inl rfl)) (@pss_one _ _ _ (@ps_ret _ _ _ _ (@pe_op _ _ _ _ _ _ _ _ (au (K:=K) rfl) (@pe_op _ _ _ _ _ _ _ _ (au (K:=K) rfl) (@pe_lst _ _ _ _ (@pa1 _ _ _ (@pe_ix _ _ _ _ _ _ _ (aD (K:=K) rfl) (pv 3) pe_int (fun _ _=>rfl)) (by rfl))) (pe_slice (iE (K:=K) rfl) (pv 1) ce (po_some (pe_callB (mr rfl) rfl T.z_max boot_max (@pa2 _ _ _ _ _ pe_int (@pe_op _ _ _ _ _ _ _ _ bV (pe_callB (bp (K:=K) rfl) rfl T.z_len PySem.boot_len (@pa1 _ _ _ (pv 1) (by rfl))) pe_int) (by rfl) (by rfl)))))) (@pe_lst _ _ _ _ (@pa1 _ _ _ (@pe_ix _ _ _ _ _ _ _ (aD (K:=K) rfl) (pv 3) pe_int (fun _ _=>rfl)) (by rfl))))))))))),?_⟩
 have key:(∃ i:Int,d=.int i∧ws=[aH i]∧i.natAbs < 10 ^ 60)∨(∃ z:Str,d=.str z∧ws=[quo z]∧z.length≤60)∨∃ (m:Nat) (wd a b:Str) (ds:List Dt) (wss:List (List Str)),n=m+1∧d=.tup [.str wd,.tup ds]∧ws=enc a (sepW wss) b∧((wd= "list" ∧a= "[" ∧b= "]")∨(wd= "rows" ∧a= "(" ∧b= ")")∨(wd= "record" ∧a= "{" ∧b= "}"))∧ds.length≤8∧wss.length=ds.length ∧
   ∀ (i:Nat) (e:Dt) (y:List Str),ds[i]?=some e→wss[i]?=some y→(¬ wd= "record" ∧VW m e y)∨(wd= "record" ∧∃ (z:Str) (e':Dt) (y':List Str),e=.tup [.str z,e']∧y=[z,":"]++y'∧VW m e' y'):=by
  cases vw with
  | int _ i hi=>exact .inl ⟨i,rfl,rfl,hi⟩
  | str _ z _ hl=>exact .inr (.inl ⟨z,rfl,rfl,hl⟩)
  | @list m its h8 hk=>exact .inr (.inr ⟨m,_,_,_,_,_,rfl,rfl,rfl,.inl ⟨rfl,rfl,rfl⟩,by rw [aAa];exact h8,by rw [aAa,aAa],fun i e y h1 h2=>by
    rw [aAf] at h1 h2;obtain ⟨it,hit,rfl⟩:=aAh.mp h1;rw [hit] at h2
    cases h2
    exact .inl ⟨by decide +kernel,hk it (aAr hit)⟩⟩)
  | @rows m its h8 hk=>exact .inr (.inr ⟨m,_,_,_,_,_,rfl,rfl,rfl,.inr (.inl ⟨rfl,rfl,rfl⟩),by rw [aAa];exact h8,by rw [aAa,aAa],fun i e y h1 h2=>by
    rw [aAf] at h1 h2;obtain ⟨it,hit,rfl⟩:=aAh.mp h1;rw [hit] at h2
    cases h2
    exact .inl ⟨by decide +kernel,hk it (aAr hit)⟩⟩)
  | @rcd m gs h8 hzs hk=>exact .inr (.inr ⟨m,_,_,_,_,_,rfl,rfl,rfl,.inr (.inr ⟨rfl,rfl,rfl⟩),by rw [aAa];exact h8,by rw [aAa,aAa],fun i e y h1 h2=>by
    rw [aAf] at h1 h2;obtain ⟨g,hg,rfl⟩:=aAh.mp h1;rw [hg] at h2
    cases h2
    exact .inr ⟨rfl,_,_,_,rfl,rfl,hk g (aAr hg)⟩⟩)
 rcases key with ⟨i,rfl,rfl,hi⟩ | ⟨z,rfl,rfl,hl⟩ | ⟨m,wd,a,b,ds,wss,rfl,rfl,rfl,ab,l8,lw,each⟩
 ·obtain rfl:=kT hx;exact ⟨_,rfl,_,_,_,rfl,.int_str,_,rfl,cg ⟨_,rfl,_,_,_,rfl,.int_int,_,rfl,dY ⟨_,rfl,i,rfl,lJ (aAj hi (by decide +kernel)),sz1,fun l hl=>q l _ hl (ag hl _) aa⟩⟩⟩
 ·obtain rfl:=bq hx;refine ⟨_,rfl,_,_,_,rfl,.str_str,_,rfl,dY ⟨_,rfl,_,_,rfl,rfl,bR (by rw [wn.2];lia),_,_,rfl,rfl,bR (by rw [aAd,wn.2];lia),sz1,fun l hl=>q l _ hl (ag hl _) aa⟩⟩
 obtain ⟨ax,u1,u2,rfl,hax,hu1,hu2⟩:=dI hx;obtain rfl:=bq hu1;refine ⟨_,rfl,_,_,_,rfl,.tup_str hax,_,rfl,cg ⟨_,rfl,_,_,_,rfl,.tup_int hax,_,rfl,cg ?_⟩⟩;refine ⟨(by show 0≤sizeLine;decide),fun l hl=>?_⟩;have g1:Same H (upd H l (.lst [])):=ag hl _;have h1:(upd H l (.lst [])) l=some (.lst ((az (wss.take 0)).map V.str)):=aa;dsimp only [dC]
 revert g1 h1
 generalize upd H l (.lst [])=H1
 intro g1 h1;have wl:=bE (enc a (sepW wss) b);rw [ki] at wl;have cl:=dv wss;have win:∀ {y:List Str},y∈wss→aB y≤50000:=fun hy=>by
  have h1:=kj hy;have h2:aB (sepW wss)≤aB (enc a (sepW wss) b):=by
   unfold enc;rw [aY,aY];lia
  lia
 refine ⟨_,rfl,_,_,_,hx.same g1,rfl,rfl,fun v2 hv2=>?_⟩;obtain ⟨bx,xs,rfl,hb,_,rb⟩:=hv2.unref;have lx:=rb.length;refine ⟨bx,rfl,⟨_,hb⟩,dj (K:=K) (xs:=xs) (fun i σ H'=>∃ l' v2,Same H1 H'∧H l'=none∧H' l'=some (.lst ((az (wss.take i)).map V.str))∧σ=[some (.ref ax),some (.ref l'),v2,none]) ⟨l,_,Same.refl _,hl,h1,rfl⟩ (fun i σ H' _ p=>by obtain ⟨_,_,g,_⟩:=p;exact g.tup hb) ?_ ?_⟩
 ·rintro i y σ H2 hy ⟨l',v2,g2,hn,hl',rfl⟩;obtain ⟨d0,hd0,hdy⟩:=rb.get' hy;have il:=(aAk.mp hd0).1;obtain ⟨y0,hy0⟩:∃ y0,wss[i]?=some y0:=⟨_,aAv (by lia)⟩;have tk:wss.take (i+1)=wss.take i++[y0]:=by rw [aAC,hy0];rfl
  have wy:=win (aAr hy0);have ly:=bE y0;have ci:=cl i;have hx2:=(hx.same g1).same g2;refine ⟨_,rfl,_,_,_,hx2,rfl,at0 _ _,isS ?_⟩;refine ⟨rfl,_,rfl,?_⟩;rcases each i d0 y0 hd0 hy0 with ⟨nr,vw0⟩ | ⟨rfl,z,e',y',rfl,rfl,vw0⟩
  ·refine bj (aJ nr) ⟨_,rfl,_,rfl,m,rfl,d0,y,y0,rfl,hdy.same g2,vw0,wy,fun b1 H4 hb1 g4 h4=>cv (g4 _ _ hl') h4 (by lia) fun p2 H5 hp2 g5 h5=>?_⟩;refine ⟨sz1,a7 [("," : Str)] h5 (by simp only [aAc,aAb,aAn];lia) fun p3 H6 hp3 g6 h6=>?_⟩;refine ⟨p3,_,(g2.trans g4).trans (g5.trans g6),none_of (g1.trans ((g2.trans g4).trans g5)) hp3,?_,rfl⟩;rw [h6,tk,bz];simp
  ·have wy':aB y'≤50000:=by
    rw [aY] at wy;lia
   have ly':=bE y';obtain ⟨c,c1,c2,rfl,hc,hc1,hc2⟩:=dI hdy;obtain rfl:=bq hc1;refine bW ⟨_,rfl,_,rfl,_,_,_,hdy.same g2,rfl,at0 _ _,isS ?_⟩;refine ⟨sz2,a7 [z,":"] hl' (by simp only [aAb,aAn];lia) fun p1 H3 hp1 g3 h3=>?_⟩;refine ⟨_,rfl,_,_,_,(hdy.same g2).same g3,rfl,rfl,fun v5 hv5=>?_⟩;refine ⟨m,rfl,e',v5,y',rfl,hv5,vw0,wy',fun b1 H4 hb1 g4 h4=>cv (g4 _ _ h3) h4 (by simp only [aAc,aAb,aAn] at *;lia) fun p2 H5 hp2 g5 h5=>?_⟩;refine ⟨sz1,a7 [("," : Str)] h5 (by simp only [aAc,aAb,aAn] at *;lia) fun p3 H6 hp3 g6 h6=>?_⟩;refine ⟨p3,_,((g2.trans g3).trans g4).trans (g5.trans g6),none_of (g1.trans (((g2.trans g3).trans g4).trans g5)) hp3,?_,rfl⟩;rw [h6,tk,bz];simp
 rintro σ H2 ⟨l',v2,g2,hn,hl',rfl⟩;rw [aAy (by lia)] at hl';intro p hp;refine ⟨sz2,fun l1 k1=>⟨sz2,fun l2 k2=>⟨sz2,fun l3 k3=>?_⟩⟩⟩;have n1:p≠l1:=ah aa k1;have n2:p≠l2:=fun c=>by rw [← c,ac n1,aa] at k2;cases k2
 have n12:l1≠l2:=ah aa k2;have n3:p≠l3:=fun c=>by rw [← c,ac n2,ac n1,aa] at k3;cases k3
 have n13:l1≠l3:=fun c=>by rw [← c,ac n12,aa] at k3;cases k3
 have n23:l2≠l3:=ah aa k3;refine ⟨by rw [ac n3,ac n2,ac n1,aa],[(Sum.inr "list",.ref l1),(Sum.inr "record",.ref l2),(Sum.inr "rows",.ref l3)],rfl,(by show 3≤15;decide),?_⟩;have S0:Same H2 (upd (upd (upd (upd H2 p (.dK [])) l1 (.lst [V.str "[",V.str "]"])) l2 (.lst [V.str "{",V.str "}"])) l3 (.lst [V.str "(",V.str ")"])):=(((ag hp _).trans (ag k1 _)).trans (ag k2 _)).trans (ag k3 _);obtain ⟨li,ev,el,ni⟩:∃ li,gK (dF [] [(Sum.inr "list",.ref l1),(Sum.inr "record",.ref l2),(Sum.inr "rows",.ref l3)]) (Sum.inr wd)=some (.ref li)∧(upd (upd (upd (upd H2 p (.dK [])) l1 (.lst [V.str "[",V.str "]"])) l2 (.lst [V.str "{",V.str "}"])) l3 (.lst [V.str "(",V.str ")"])) li=some (.lst [V.str a,V.str b])∧li≠p:=by
  rcases ab with ⟨rfl,rfl,rfl⟩ | ⟨rfl,rfl,rfl⟩ | ⟨rfl,rfl,rfl⟩
  ·exact ⟨l1,by rfl,by rw [ac n13,ac n12,aa],n1.symm⟩
  ·exact ⟨l3,by rfl,aa,n3.symm⟩
  ·exact ⟨l2,by rfl,by rw [ac n23,aa],n2.symm⟩
 revert S0 el
 generalize upd (upd (upd (upd H2 p (.dK [])) l1 (.lst [V.str "[",V.str "]"])) l2 (.lst [V.str "{",V.str "}"])) l3 (.lst [V.str "(",V.str ")"])=H3
 intro S0 el;have S1:Same H2 (upd H3 p (.dK (dF [] [(Sum.inr "list",.ref l1),(Sum.inr "record",.ref l2),(Sum.inr "rows",.ref l3)]))):=bM hp S0;have el':(upd H3 p (.dK (dF [] [(Sum.inr "list",.ref l1),(Sum.inr "record",.ref l2),(Sum.inr "rows",.ref l3)]))) li=some (.lst ([a,b].map V.str)):=by rw [ac ni];exact el
 have ep:(upd H3 p (.dK (dF [] [(Sum.inr "list",.ref l1),(Sum.inr "record",.ref l2),(Sum.inr "rows",.ref l3)]))) p=some (.dK (dF [] [(Sum.inr "list",.ref l1),(Sum.inr "record",.ref l2),(Sum.inr "rows",.ref l3)])):=aa
 revert S1 el' ep
 generalize upd H3 p (.dK (dF [] [(Sum.inr "list",.ref l1),(Sum.inr "record",.ref l2),(Sum.inr "rows",.ref l3)]))=H4
 intro S1 el' ep;have S4:=(g1.trans g2).trans S1;refine ⟨_,rfl,_,_,_,hx.same S4,rfl,at0 _ _,isS ?_⟩;refine ⟨p,.ref li,rfl,ev ▸ DGet.k (k:=Sum.inr wd) ep,?_⟩;have hw4:=S1 _ _ hl';refine ⟨_,rfl,li,_,_,_,rfl,rfl,SqL.of el',rfl,sz1,fun q1 hq1=>?_⟩;have G1:=ag (H:=H4) hq1 (.lst [V.str a]);have cutE:kA ((az wss).map V.str) none (some (if (((az wss).map V.str).length:Int) - 1 > 0 then (((az wss).map V.str).length:Int) - 1 else 0))=(sepW wss).map V.str:=by
  cases wss with
  | nil=>rfl
  | cons y r =>
   rw [cF,aAt];have e:(if ((((sepW (y :: r)).map V.str++[("," : Str)].map V.str).length:Nat):Int) - 1 > 0 then ((((sepW (y :: r)).map V.str++[("," : Str)].map V.str).length:Nat):Int) - 1 else 0)=(((sepW (y :: r)).map V.str).length:Int):=by
    simp only [aAc,aAa,aAb,aAn]
    split <;> lia
   rw [e];unfold kA;rw [HT.sIx_none,HT.sIx_nat];simp
 refine ⟨_,rfl,_,rfl,l',_,rfl,.inl (SqL.of (G1 _ _ hw4)),_,_,rfl,rfl,_,_,rfl,_,rfl,l',_,rfl,SqL.of (G1 _ _ hw4),fun q2 hq2=>?_⟩;rw [cutE];have nq:q1≠q2:=ah aa hq2;have G2:=G1.trans (ag hq2 (.lst ((sepW wss).map V.str)));refine cv (xs:=[a]) (ys:=sepW wss) (by rw [ac nq,aa];rfl) aa (by simp only [aAb,aAn];lia) fun p5 H5 hp5 g5 h5=>?_;have S5:=(S4.trans G2).trans g5;refine ⟨_,rfl,li,_,_,_,rfl,rfl,SqL.of (g5 _ _ (G2 _ _ el')),rfl,sz1,a7 [b] h5 (by simp only [aAc,aAb,aAn];lia) fun p6 H6 hp6 g6 h6=>?_⟩;exact q p6 H6 (none_of S5 hp6) (S5.trans g6) h6
theorem sN (T:Tx K mg ad) {f:Addr} {fd:FuncData} (D:Gn K mg "_law_value_words" bL ["value"] f fd):∀ n,FnOk P w K mg base CX0 (n+3) f fd ["value"] (xB K n)
 | 0=>dQ T 0 D fun m h=>by cases h
 | n+1=>dQ T (n+1) D fun m h=>by cases h;exact sN T D n
def bw (p:Str×Nat):Str:=p.1++cC (List.replicate p.2 32)
theorem lO:∀ zs:List Str,(Str.join (Str.ofString "") zs).cps.toList=zs.flatMap fun z=>z.cps.toList
 | []=>rfl
 | [x]=>by simp [Str.join]
 | x :: y :: r=>by
  have:=lO (y :: r);rw [PyProof.Rows.join_cons_cons,aX,aX,this];simp [show (Str.ofString "").cps.toList=[] from rfl]
theorem jy:∀ (ws:List Str) (bs:List Nat),(((ws.zip bs).map bw).flatMap fun z=>z.cps.toList)=aV ws bs
 | [],_=>by simp [aV]
 | _ :: _,[]=>by simp [aV]
 | w :: ws,b :: bs=>by
  rw [aBc,aAo,aBq,jy ws bs];simp only [aV,bw,aX,dJ,aAJ]
theorem rq:∀ (ws:List Str) (bs:List Nat),(∀ b∈bs,b≤2)→(((ws.zip bs).map bw).map (·.length)).sum≤aB ws
 | [],_,_=>by simp
 | _ :: _,[],_=>by simp
 | w :: ws,b :: bs,h=>by
  have:=rq ws bs fun x hx=>h x (aAg _ hx);have hb:=h b aAi;rw [aBc,aAo,aAo,aAW,aw];have e:(bw (w,b)).length=w.length+b:=by
   unfold bw;rw [aAd,← ak (cC _),dJ,aA0]
  lia
theorem rA (w:Str):blk w≤2:=by
 unfold blk
 split <;> decide
theorem jz {z:Str} {n:Nat} (h:z.cps.toList=(List.replicate ((n:Nat):Int).toNat (Str.ofString " ").cps.toList).flatten):z=cC (List.replicate n 32):=by
 rw [aBf,show (Str.ofString " ").cps.toList=[32] by decide +kernel] at h;apply cf;rw [h,dJ]
 clear h
 induction n with
 | zero=>rfl
 | succ n ih=>rw [aA8,aA8,List.flatten_cons,ih];rfl
def ox (K:W.Frag) (_:Ads):Sp:=fun vs H Q _=>∃ (l:Addr) (ws:List Str),vs=[.ref l]∧H l=some (.lst (ws.map V.str))∧aB ws≤50000∧∀ H',Same H H'→Q (.str (aj ws)) H'
theorem oy (T:Tx K mg ad) {f:Addr} {fd:FuncData} (F:Gn K mg "_law_tight" gx ["words"] f fd):FnOk P w K mg base CX0 1 f fd ["words"] (ox K ad):=by
 refine F.F.ok oK (fun vs H Q E h=>?_) (fun cdv A outer s H vs Q E hr h=>?_)
 ·obtain ⟨l,ws,rfl,_⟩:=h
  rfl
 obtain ⟨l,ws,rfl,hl,hw,q⟩:=h;refine ⟨_,(@pss_one _ _ _ (@ps_ret _ _ _ _ (pe_bm PySem.F.plainAttrs_str PySem.F.slot_str_join PySem.F.type_str_join fR pe_str (@pa1 _ _ _ (pe_comp rfl (cs0 (NL:=["word"]) rfl (by decide +kernel) (by decide +kernel)) (fN (K:=K) rfl (pv 0)) (fun _ _ _ _=>(ai (i:=0) (show List.Nodup (α:=Str) ["word"] by decide +kernel) rfl (Or.inl rfl))) (fun _ _ _ _=>(@pe_op _ _ _ _ _ _ _ _ op_add_str (pv 0) (@pe_op _ _ _ _ _ _ _ _ gX pe_str (pe_callTy mv rfl T.z_int boot_int (@pa1 _ _ _ (gC (e7 (K:=K) rfl) (pv 0) (@pe_lst _ _ _ _ (@pa3 _ _ _ _ _ _ _ pe_str pe_str pe_str (by rfl) (by rfl) (by rfl))) rfl) (by rfl))))))) (by rfl))))),?_⟩;have lw:=bE ws;refine ⟨rfl,_,rfl,l,rfl,⟨_,SqL.of hl⟩,fun p hp=>?_⟩;refine kK (K:=K) (xs:=ws.map V.str) (fun i zs σ H'=>zs=(((ws.zip (ws.map blk)).map bw).take i).map V.str∧Same H H'∧H' p=some (.lst zs)∧∃ w1,σ=[w1]) ⟨rfl,ag hp _,aa,_,rfl⟩ (fun i zs σ H' _ r=>SqL.of (r.2.1 _ _ hl)) ?_ ?_
 ·rintro i y zs σ H1 N hy ⟨rfl,g1,f1,w1,rfl⟩ next;rw [aAf] at hy;obtain ⟨z,hz,rfl⟩:=aAh.mp hy;have hzm:=qa (aAr hz);have hb0:((ws.zip (ws.map blk)).map bw)[i]?=some (bw (z,blk z)):=by
   rw [aAf,(aAT (z:=(z,blk z))).mpr ⟨hz,by rw [aAf,hz];rfl⟩]
   rfl
  refine ⟨_,rfl,_,rfl,sz3,fun b hb=>?_⟩;have eb:(if inV (V.str z) ([(",": Str),":",";"].map V.str)=true then (1:Int) else 0)=((blk z:Nat):Int):=by
   rw [rh];unfold blk
   by_cases h:z= "," ∨z= ":" ∨z= ";"
   ·rw [if_pos (decide_eq_true (by simpa using h)),if_pos h]
    rfl
   ·rw [if_neg (by simpa using h),if_neg h]
    rfl
  refine ⟨b,[(",": Str),":",";"].map V.str,rfl,.inl (SqL.of aa),rfl,rfl,.inr ⟨_,rfl,_,_,rfl,rfl,by decide +kernel,by decide +kernel,?_,?_,fun z' hz'=>?_⟩⟩
  ·show (0:Int)≤if inV (V.str z) _=true then 1 else 0
   split <;> decide
  ·show (if inV (V.str z) _=true then (1:Int) else 0)≤100
   split <;> decide
  obtain rfl:z'=cC (List.replicate (blk z) 32):=jz (by rw [← eb];exact hz');have ll:(cC (List.replicate (blk z) 32)).length≤2:=by
   rw [← ak,dJ,aA0];exact rA z
  refine ⟨_,_,rfl,rfl,bR (by lia),?_⟩;have nb:p≠b:=ah f1 hb;refine ⟨by rw [ac nb];exact f1,?_,next _ _ _ ⟨?_,bM hp (g1.trans (ag hb _)),aa,_,rfl⟩⟩
  ·rw [aAa,aAE,aAa,aBn,aAa];exact aBb (Nat.min_le_right _ _) (aBb (show min ws.length ws.length≤50000 by lia) (by decide))
  ·rw [aAC,hb0,aAt]
   rfl
 rintro zs σ H1 ⟨rfl,g1,f1,w1,rfl⟩;have ll:((ws.zip (ws.map blk)).map bw).length=ws.length:=by rw [aAa,aBn,aAa,aBP]
 rw [aAy (by rw [ll];exact aBK (aAa _).symm)] at f1;have bl:=rq ws (ws.map blk) fun b hb=>by
  obtain ⟨z,_,rfl⟩:=aAl.mp hb;exact rA z
 refine ⟨_,p,(ws.zip (ws.map blk)).map bw,rfl,rfl,.inl (SqL.of f1),by rw [ll,show (Str.ofString "").length=0 from rfl];lia,?_⟩;rw [iP,show Str.join (Str.ofString "") ((ws.zip (ws.map blk)).map bw)=aj ws from cf ((lO _).trans (jy _ _))];exact q H1 g1
def oz (K:W.Frag) (_:Ads):Sp:=fun vs H Q _=>∃ (l r:Addr) (n:Int) (ws:List Str),vs=[.ref l,.ref r]∧l≠r∧H l=some (.lst (ws.map V.str))∧H r=some (.lst [.int n])∧aB ws≤50000 ∧
 ∀ (z:Str) (b:Nat) (bs:List Nat) (n':Int) H',But r H H'→H' r=some (.lst [.int n'])→bs.length=ws.length→z.cps.toList=List.replicate b 32++aV ws bs→z.length≤50002→Q (.str z) H'
theorem oA (T:Tx K mg ad) {f:Addr} {fd:FuncData} (F:Gn K mg "_law_loose" em ["words","row"] f fd):FnOk P w K mg base CX0 2 f fd ["words","row"] (oz K ad):=by
 obtain ⟨_,_,HM⟩:=T.law_digit;have HN:=aE (P:=P) (w:=w) (base:=base) T HM;refine F.F.ok oM (fun vs H Q E h=>?_) (fun cdv A outer s H vs Q E hr h=>?_)
 ·obtain ⟨l,r,n,ws,rfl,_⟩:=h
  rfl
 obtain ⟨l,r,n,ws,rfl,hlr,hl,hr0,hw,q⟩:=h;refine ⟨_,(@pss_one _ _ _ (@ps_ret _ _ _ _ (@pe_op _ _ _ _ _ _ _ _ op_add_str (@pe_op _ _ _ _ _ _ _ _ gX pe_str (pcl HM HN (hr.mono (by lia)) rfl (@pa2 _ _ _ _ _ (pv 1) pe_int (by rfl) (by rfl)))) (pe_bm PySem.F.plainAttrs_str PySem.F.slot_str_join PySem.F.type_str_join fR pe_str (@pa1 _ _ _ (pe_comp rfl (csR (sc:=ae em) (NL:=["word"]) (N:=["words","row"]) (ρ:=[1]) (N':=["word","row"]) rfl rfl rfl (by decide +kernel) (by decide +kernel) (by decide +kernel) rfl (by decide +kernel)) (fN (K:=K) rfl (pv 0)) (fun _ _ _ _=>(ai (i:=0) (show List.Nodup (α:=Str) ["word","row"] by decide +kernel) rfl (Or.inl rfl))) (fun _ _ _ _=>(@pe_op _ _ _ _ _ _ _ _ op_add_str (pv 0) (@pe_op _ _ _ _ _ _ _ _ gX pe_str (pcl HM HN (hr.mono (by lia)) rfl (@pa2 _ _ _ _ _ (pv 1) pe_int (by rfl) (by rfl))))))) (by rfl)))))),?_⟩;have lw:=bE ws;obtain ⟨m0,m1⟩:=mod_lt n (m:=3) (by decide);obtain ⟨b0,hb0⟩:∃ b0:Nat,n % 3=(b0:Int):=⟨(n % 3).toNat,by lia⟩;refine ⟨_,rfl,r,n,3,rfl,hr0,by decide,by decide,_,_,rfl,rfl,by decide +kernel,by decide +kernel,by lia,by lia,fun z0 hz0=>?_⟩;rw [hb0] at hz0 m1;obtain rfl:=jz hz0;have B1:But r H (upd H r (.lst [.int (n / 3)])):=But.put;have R1:(upd H r (.lst [.int (n / 3)])) r=some (.lst [.int (n / 3)]):=aa
 revert B1 R1
 generalize upd H r (.lst [.int (n / 3)])=H1
 generalize n / 3=n1
 intro B1 R1;refine ⟨rfl,_,rfl,l,rfl,⟨_,SqL.of (B1 _ _ hlr hl)⟩,fun p hp=>?_⟩;have npr:p≠r:=fun c=>by rw [c,R1] at hp;cases hp
 have hpH:H p=none:=by
  cases c:H p with
  | none=>rfl
  | some o=>rw [B1 _ _ npr c] at hp;cases hp
 refine kK (K:=K) (xs:=ws.map V.str) (fun i zs σ H'=>∃ (bs:List Nat) (k:Int),bs.length=i∧(∀ b∈bs,b≤2)∧zs=((((ws.take i).zip bs).map bw)).map V.str∧But r H H'∧H' r=some (.lst [.int k])∧H' p=some (.lst zs)∧∃ w1,σ=[w1,some (.ref r)]) ⟨[],n1,rfl,(fun _ h=>nomatch h),rfl,bJ B1 hpH,by rw [ac (Ne.symm npr)];exact R1,aa,_,rfl⟩ (fun i zs σ H' _ ⟨_,_,_,_,_,g,_⟩=>SqL.of (g _ _ hlr hl)) ?_ ?_
 ·rintro i y zs σ H2 N hy ⟨bs,k,lb,hb2,rfl,g2,r2,f2,w1,rfl⟩ next;rw [aAf] at hy;obtain ⟨z,hz,rfl⟩:=aAh.mp hy;have hzm:=qa (aAr hz);have hi:=(aAk.mp hz).1;obtain ⟨k0,k1⟩:=mod_lt k (m:=3) (by decide);obtain ⟨c,hc⟩:∃ c:Nat,k % 3=(c:Int):=⟨(k % 3).toNat,by lia⟩;refine ⟨_,rfl,_,rfl,r,k,3,rfl,r2,by decide,by decide,_,_,rfl,rfl,by decide +kernel,by decide +kernel,by lia,by lia,fun z' hz'=>?_⟩;rw [hc] at hz';obtain rfl:=jz hz';have lc:(cC (List.replicate c 32)).length=c:=by rw [← ak,dJ,aA0]
  refine ⟨_,_,rfl,rfl,bR (by lia),?_⟩;refine ⟨by rw [ac npr];exact f2,?_,next _ _ _ ⟨bs++[c],k / 3,by rw [aAc,lb];rfl,fun b hb=>?_,?_,bJ (g2.trans But.put) hpH,by rw [ac (Ne.symm npr),aa],aa,_,rfl⟩⟩
  ·rw [aAa,aAa,aBn,aAE];exact aBb (show min (min i ws.length) bs.length≤50000 by lia) (by decide)
  ·rcases aAG.mp hb with h | h
   ·exact hb2 b h
   ·rw [aAq.mp h];lia
  ·rw [aAC,hz];show _=((((ws.take i)++[z]).zip (bs++[c])).map bw).map V.str;rw [List.zip_append (by rw [aAE,lb];lia),aAt,aAt]
   rfl
 rintro zs σ H2 ⟨bs,k,lb,hb2,rfl,g2,r2,f2,w1,rfl⟩;rw [aAa] at lb;rw [aAy (by rw [aAa];exact aAp _)] at f2;have bl:=rq ws bs hb2;have sl:=h9 ws bs hb2;have ll:((ws.zip bs).map bw).length=ws.length:=by rw [aAa,aBn,lb,aBP]
 refine ⟨_,p,(ws.zip bs).map bw,rfl,rfl,.inl (SqL.of f2),by rw [ll,show (Str.ofString "").length=0 from rfl];lia,?_⟩;have ej:(Str.join (Str.ofString "") ((ws.zip bs).map bw)).cps.toList=aV ws bs:=(lO _).trans (jy _ _);have lj:(Str.join (Str.ofString "") ((ws.zip bs).map bw)).length≤50000:=by
  rw [← ak,ej];lia
 have l0:(cC (List.replicate b0 32)).length=b0:=by rw [← ak,dJ,aA0]
 rw [iP];refine ⟨_,_,rfl,rfl,bR (by lia),?_⟩;refine q _ b0 bs k H2 g2 r2 lb ?_ ?_
 ·rw [aX,ej,dJ]
 ·show (cC (List.replicate b0 32)++Str.join (Str.ofString "") ((ws.zip bs).map bw)).length≤_;rw [aAd];lia
theorem xC {α:Type} (l:List α) (a:α):ixN (l++[a]).length (-1)=some l.length:=by
 unfold ixN;rw [aAc,aA1,if_neg (by decide),if_pos (by lia),show ((-1:Int)+((l.length+1:Nat):Int)).toNat=l.length by lia]
theorem ww {α:Type} (l:List α) (a b:α):(l++[a]).set l.length b=l++[b]:=by simp
def Bd (K:W.Frag) (n:Nat):Sp:=fun vs H Q _=>∃ (d:Dt) (x:V) (ws:List Str),vs=[x]∧IsP K H d x∧TW n d ws∧aB ws≤50000∧∀ l H',H l=none→Same H H'→H' l=some (.lst (ws.map V.str))→Q (.ref l) H'
theorem iT (T:Tx K mg ad) (n:Nat) {f:Addr} {fd:FuncData} (Ih:Gn K mg "_law_turn_words" bT ["turn"] f fd) (IE:FnOk P w K mg base CX0 (n+2) f fd ["turn"] (Bd K n)):FnOk P w K mg base CX0 (n+3) f fd ["turn"] (Bd K (n+1)):=by
 refine Ih.F.ok ay (fun vs H Q E h=>?_) (fun cdv A outer s H vs Q E hr h=>?_)
 ·obtain ⟨d,x,ws,rfl,_⟩:=h
  rfl
 obtain ⟨d,x,ws,rfl,hx,tw,hz,q⟩:=h;refine ⟨_,(@pss_cons _ _ _ _ _ (@ps_set _ _ 1 _ _ _ _ ay.nd rfl (Or.inl rfl) (@pe_lst _ _ _ _ (@pa2 _ _ _ _ _ (@pi1 K _ _ _ _ _ _ _ rfl (pv 0)) pe_str (by rfl) (by rfl))) (by rfl) (.inl rfl)) (@pss_cons _ _ _ _ _ (@ps_if _ _ _ _ _ _ _ _ (pt_cmpR op_eq (@pi1 K _ _ _ _ _ _ _ rfl (pv 0)) pe_str (nomark _)) (@pss_one _ _ _ (@ps_ret _ _ _ _ (@pe_op _ _ _ _ _ _ _ _ (au (K:=K) rfl) (@pe_op _ _ _ _ _ _ _ _ (au (K:=K) rfl) (pv 1) (pcl Ih IE (hr.mono (by lia)) rfl (@pa1 _ _ _ (@pi1 K _ _ _ _ _ _ _ rfl (pv 0)) (by rfl)))) (@pe_lst _ _ _ _ (@pa1 _ _ _ pe_str (by rfl)))))) pss_nil) (@pss_cons _ _ _ _ _ (@ps_if _ _ _ _ _ _ _ _ (pt_cmpR op_eq (@pi1 K _ _ _ _ _ _ _ rfl (pv 0)) pe_str (nomark _)) (@pss_cons _ _ _ _ _ (ps_for PassesOwn.never rfl (pi_tupN (K:=K) rfl (@pi1 K _ _ _ _ _ _ _ rfl (pv 0))) (ai (i:=2) ay.nd rfl (Or.inl rfl))
    (@pss_one _ _ _ (@ps_set _ _ 1 _ _ _ _ ay.nd rfl (Or.inl rfl) (@pe_op _ _ _ _ _ _ _ _ (au (K:=K) rfl) (pv 1) (@pe_lst _ _ _ _ (@pa2 _ _ _ _ _ (pv 2) pe_str (by rfl) (by rfl)))) (by rfl) (.inl rfl)))) (@pss_cons _ _ _ _ _ (m5 pe_str (qq (pv 1) (@pe_un _ _ _ _ _ _ un_neg pe_int) kB)) (@pss_one _ _ _ (ps_for PassesOwn.never rfl (pi_tupN (K:=K) rfl (@pi1 K _ _ _ _ _ _ _ rfl (pv 0))) (ja rfl (aG (ai (i:=3) ay.nd rfl (Or.inl rfl)) (aG (ai (i:=4) ay.nd rfl (Or.inl rfl)) di)))
    (@pss_one _ _ _ (@ps_set _ _ 1 _ _ _ _ ay.nd rfl (Or.inl rfl) (@pe_op _ _ _ _ _ _ _ _ (au (K:=K) rfl) (pv 1) (@pe_lst _ _ _ _ (@aq _ _ _ _ _ (pv 3) (@pa3 _ _ _ _ _ _ _ pe_str (pv 4) pe_str (by rfl) (by rfl) (by rfl)) (by rfl)))) (by rfl) (.inl rfl))))))) (@pss_one _ _ _ (ps_for PassesOwn.never rfl (pi_tupN (K:=K) rfl (pe_slice (eM (K:=K) rfl) (pv 0) (po_some pe_int) ce)) (ai (i:=5) ay.nd rfl (Or.inl rfl))
    (@pss_one _ _ _ (@ps_set _ _ 1 _ _ _ _ ay.nd rfl (Or.inl rfl) (@pe_op _ _ _ _ _ _ _ _ (au (K:=K) rfl) (pv 1) (@pe_lst _ _ _ _ (@pa2 _ _ _ _ _ (pe_callTy call_str_int rfl T.z_str boot_str (@pa1 _ _ _ (pv 5) (by rfl))) pe_str (by rfl) (by rfl)))) (by rfl) (.inl rfl)))))) (@pss_cons _ _ _ _ _ (@ps_if _ _ _ _ _ _ _ _ (pt_cmpR op_eq (@pe_ix _ _ _ _ _ _ _ (aD (K:=K) rfl) (pv 1) (@pe_un _ _ _ _ _ _ un_neg pe_int) (fun _ _=>rfl)) pe_str (nomark _)) (@pss_one _ _ _ (@ps_set _ _ 1 _ _ _ _ ay.nd rfl (Or.inl rfl) (pe_slice (iE (K:=K) rfl) (pv 1) ce (po_some (@pe_un _ _ _ _ _ _ un_neg pe_int))) (by rfl) (.inl rfl))) pss_nil) (@pss_one _ _ _ (@ps_ret _ _ _ _ (@pe_op _ _ _ _ _ _ _ _ (au (K:=K) rfl) (pv 1) (@pe_lst _ _ _ _ (@pa1 _ _ _ pe_str (by rfl)))))))))),?_⟩
 obtain ⟨wd,ds,hd,alt⟩:∃ wd ds,d=.tup (.str wd :: ds)∧((wd= "items" ∧∃ t tw,ds=[t]∧ws=brW "items" tw∧TW n t tw)∨(wd= "words" ∧∃ (fo:List Str) (bk:List (Str×Str)),ds=[.tup (fo.map Dt.str),.tup (bk.map wyD)]∧ws=brW "words" ((sepW (fo.map fun z=>[z])++[(";" : Str)])++sepW (bk.map wyW))∧fo≠[]) ∨
   ((¬ wd= "items" ∧¬ wd= "words")∧∃ js:List Int,ds=js.map Dt.int∧ws=brW wd (sepW (js.map fun i=>[aH i]))∧∀ i∈js,i.natAbs < 10 ^ 60)):=by
  cases tw with
  | nums _ w js hw n1 hf hj=>exact ⟨_,_,rfl,.inr (.inr ⟨⟨fun c=>by
    rw [c,show aK "turn" "items" = some [("turn" : Str)] by decide +kernel] at hf
    cases js with
    | nil=>cases hf
    | cons a r=>exact absurd (List.cons.inj (Option.some.inj hf)).1 (show ¬ (Str.ofString "turn" = Str.ofString "number") by decide +kernel),n1⟩,js,rfl,rfl,hj⟩)⟩
  | items ht=>exact ⟨_,_,rfl,.inl ⟨rfl,_,_,rfl,rfl,ht⟩⟩
  | words _ fo bk h0 _ _ _ _ _=>exact ⟨_,_,rfl,.inr (.inl ⟨rfl,fo,bk,rfl,rfl,h0⟩)⟩
 have wl:=aAA (bE ws) hz;have hx':IsP K H (.tup (.str wd :: ds)) x:=hd ▸ hx;refine ⟨_,rfl,_,_,_,hx',rfl,at0 _ _,isS ?_⟩;refine ⟨sz2,fun l hl=>?_⟩;dsimp only [dC];have g1:Same H (upd H l (.lst [V.str wd,V.str "("])):=ag hl _;have h1:(upd H l (.lst [V.str wd,V.str "("])) l=some (.lst ([wd,"("].map V.str)):=aa
 revert g1 h1
 generalize upd H l (.lst [V.str wd,V.str "("])=H1
 intro g1 h1;refine ⟨_,rfl,_,_,_,hx'.same g1,rfl,at0 _ _,isS ?_⟩;refine ⟨rfl,_,rfl,?_⟩;rcases alt with ⟨rfl,t,tz,rfl,rfl,ht⟩ | alt
 ·rw [cX] at wl;rw [bQ] at hz;refine bW ⟨_,rfl,_,rfl,_,_,_,hx'.same g1,rfl,rfl,fun v2 hv2=>?_⟩;refine ⟨t,v2,tz,rfl,hv2,ht,by lia,fun b1 H4 hb1 g4 h4=>cv (g4 _ _ h1) h4 (by simp only [aAb,aAn];lia) fun p2 H5 hp2 g5 h5=>?_⟩;refine ⟨sz1,a7 [(")" : Str)] h5 (by simp only [aAc,aAb,aAn];lia) fun p3 H6 hp3 g6 h6=>?_⟩;exact q p3 H6 (none_of (g1.trans (g4.trans g5)) hp3) (g1.trans (g4.trans (g5.trans g6))) h6
 have ni:¬ wd= "items" :=by
  rcases alt with ⟨rfl,_⟩ | ⟨⟨h,_⟩,_⟩
  ·decide +kernel
  ·exact h
 refine bj (aJ ni) ?_;dsimp only [xL];refine ge fun k hk=>?_;have fin:∀ (pre:List Str) (c:Str) (wss:List (List Str)) (l':Addr) (H':Hp) (v2 v3 v4 v5:Option V),c≠ "," →ws=((pre++[c])++sepW wss)++[(")" : Str)]→Same H H'→H l'=none→H' l'=some (.lst (((pre++[c])++az wss).map V.str))→k [some x,some (.ref l'),v2,v3,v4,v5] H':=fun pre c wss l' H' v2 v3 v4 v5 hc hw g hn hl'=>hk _ _ (by
  have wl':(pre++[c]++sepW wss).length+1≤50000:=by
   have:ws.length=(pre++[c]++sepW wss).length+1:=by rw [hw,aAc];rfl
   lia
  have ret:∀ (l1:Addr) (H1:Hp),Same H H1→H1 l1=some (.lst (((pre++[c])++sepW wss).map V.str))→Az (tOp (rV K) (ik 1) (s9 (bI (tC (V.str (Str.ofString ")"))) iq))) { nx:=fun x H'=>Q V.non H',rt:=Q } [some x,some (V.ref l1),v2,v3,v4,v5] H1:=fun l1 H1 g1 h1 =>
   ⟨_,rfl,sz1,a7 [(")" : Str)] h1 (by simp only [aAb,aAn] at *;lia) fun p H2 hp g2 h2=>q p H2 (none_of g1 hp) (g1.trans g2) (hw ▸ h2)⟩
  cases wss with
  | nil =>
   have hl2:H' l'=some (.lst (pre.map V.str++[V.str c])):=by rw [hl'];simp [az]
   exact ⟨_,rfl,_,rfl,l',_,_,_,rfl,rfl,SqL.of hl2,ow _ _,rfl,_,rfl,bj (aJ hc) (ret l' H' g (by rw [hl'];rfl))⟩
  | cons y r =>
   rw [cF,← aAJ,aAt] at hl';refine ⟨_,rfl,_,rfl,l',_,_,_,rfl,rfl,SqL.of hl',ow _ _,rfl,_,rfl,bW ⟨_,rfl,_,rfl,_,rfl,l',_,rfl,SqL.of hl',fun p hp=>?_⟩⟩;refine ret p _ (g.trans (ag hp _)) ?_;rw [aa];exact congrArg (fun z=>some (HO.lst z)) (lN _ _))
 refine ⟨_,rfl,_,_,_,hx'.same g1,rfl,at0 _ _,isS ?_⟩;refine ⟨rfl,_,rfl,?_⟩;rcases alt with ⟨rfl,fo,bk,rfl,rfl,h0⟩ | ⟨⟨_,n2⟩,js,rfl,rfl,hjs⟩
 ·rw [cX,aAc,aAc] at wl;refine bW (ge fun k2 hk2=>?_);refine ⟨_,rfl,_,_,_,hx'.same g1,rfl,rfl,fun v2 hv2=>?_⟩;obtain ⟨b,xs,rfl,hb,_,rb⟩:=hv2.unref;obtain rfl:=cE rb;have cl:=dv (fo.map fun z=>[z]);refine ⟨b,rfl,⟨_,hb⟩,dj (K:=K) (xs:=fo.map V.str) (fun i σ H'=>∃ l' v3,Same H1 H'∧H l'=none∧H' l'=some (.lst (([("words" : Str),"("]++az ((fo.map fun z=>[z]).take i)).map V.str))∧σ=[some x,some (.ref l'),v3,none,none,none]) ⟨l,_,Same.refl _,hl,h1,rfl⟩ (fun i σ H' _ p=>by obtain ⟨_,_,g,_⟩:=p;exact g.tup hb) ?_ ?_⟩
  ·rintro i y σ H2 hy ⟨l',v3,g2,hn,hl',rfl⟩;rw [aAf] at hy;obtain ⟨z,hz',rfl⟩:=aAh.mp hy;have ci:=cl i;have tk:(fo.map fun z=>[z]).take (i+1)=(fo.map fun z=>[z]).take i++[[z]]:=by rw [aAC,aAf,hz'];rfl
   refine ⟨_,rfl,_,rfl,sz2,a7 [z,","] hl' (by simp only [aAc,aAb,aAn];lia) fun p1 H3 hp1 g3 h3=>?_⟩;refine ⟨p1,_,g2.trans g3,none_of (g1.trans g2) hp1,?_,rfl⟩;rw [h3,tk,bz];simp
  rintro σ H2 ⟨l',v3,g2,hn,hl',rfl⟩;rw [aAy (by rw [aAa,aAa];exact aAp _)] at hl';refine hk2 _ _ ?_;obtain ⟨f0,fr,rfl⟩:∃ f0 fr,fo=f0 :: fr:=by
   cases fo with
   | nil=>exact absurd rfl h0
   | cons a r=>exact ⟨a,r,rfl⟩
  rw [aAo,cF,← aAJ,aAt] at hl';rw [aAo] at wl;have hl2:H2 l'=some (.lst (([("words" : Str),"("]++sepW ([f0] :: fr.map fun z=>[z])).map V.str++[V.str ","])):=hl';refine ⟨_,rfl,_,rfl,l',_,_,_,rfl,rfl,hl2,xC _ _,?_⟩;rw [ww];have S2:=bM hn (g1.trans g2) (o:=.lst (([("words" : Str),"("]++sepW ([f0] :: fr.map fun z=>[z])).map V.str++[V.str ";"]));have h2:(upd H2 l' (.lst (([("words" : Str),"("]++sepW ([f0] :: fr.map fun z=>[z])).map V.str++[V.str ";"]))) l'=some (.lst ((([("words" : Str),"("]++sepW ([f0] :: fr.map fun z=>[z]))++[(";" : Str)]).map V.str)):=by rw [aa];simp
  revert S2 h2
  generalize upd H2 l' (.lst (([("words" : Str),"("]++sepW ([f0] :: fr.map fun z=>[z])).map V.str++[V.str ";"]))=H3
  intro S2 h2;refine ⟨_,rfl,_,_,_,hx'.same S2,rfl,rfl,fun v2 hv2=>?_⟩;obtain ⟨b',xs,rfl,hb',_,rb'⟩:=hv2.unref;have cl:=dv (bk.map wyW);refine ⟨b',rfl,⟨_,hb'⟩,dj (K:=K) (xs:=xs) (fun i σ H'=>∃ l' v3 v4 v5,Same H3 H'∧H l'=none∧H' l'=some (.lst ((([("words" : Str),"("]++sepW ([f0] :: fr.map fun z=>[z]))++[(";" : Str)]++az ((bk.map wyW).take i)).map V.str))∧σ=[some x,some (.ref l'),v3,v4,v5,none]) ⟨l',_,_,_,Same.refl _,hn,by rw [h2];simp [az],rfl⟩ (fun i σ H' _ p=>by obtain ⟨_,_,_,_,g,_⟩:=p;exact g.tup hb') ?_ ?_⟩
  ·rintro i y σ H4 hy ⟨l',v3,v4,v5,g4,hn,hl',rfl⟩;obtain ⟨d0,hd0,hdy⟩:=rb'.get' hy;rw [aAf] at hd0;obtain ⟨g,hg,rfl⟩:=aAh.mp hd0;obtain ⟨c,c1,c2,rfl,hc,hc1,hc2⟩:=dI (show IsP K H3 (.tup [.str g.1,.str g.2]) y from hdy);obtain rfl:=bq hc1;obtain rfl:=bq hc2;have ci:=cl i;have tk:(bk.map wyW).take (i+1)=(bk.map wyW).take i++[wyW g]:=by rw [aAC,aAf,hg];rfl
   refine ⟨c,_,rfl,g4.tup hc,rfl,_,_,rfl,_,_,rfl,rfl,?_⟩;refine ⟨_,rfl,_,rfl,_,rfl,(by show 4≤sizeLine;decide),a7 [g.1,":",g.2,","] hl' (by simp only [aAc,aAb,aAn] at *;lia) fun p1 H5 hp1 g5 h5=>?_⟩;refine ⟨p1,_,_,_,g4.trans g5,none_of (S2.trans g4) hp1,?_,rfl⟩;rw [h5,tk,bz];simp
  rintro σ H4 ⟨l',v3,v4,v5,g4,hn,hl',rfl⟩;have lx:=rb'.length;rw [aAa] at lx;rw [aAy (by rw [aAa];lia)] at hl';exact fin _ _ _ l' H4 _ _ _ _ (by decide +kernel) (by simp [brW]) (S2.trans g4) hn hl'
 ·refine bj (aJ n2) ?_;rw [cX] at wl;have cl:=dv (js.map fun i=>[aH i]);refine ⟨_,rfl,_,rfl,_,hx'.same g1,fun v2 H2 g2 hv2=>?_⟩;rw [vV] at hv2;obtain ⟨b,xs,rfl,hb,_,rb⟩:=hv2.unref;refine ⟨b,rfl,⟨_,hb⟩,dj (K:=K) (xs:=xs) (fun i σ H'=>∃ l' v5,Same H2 H'∧H l'=none∧H' l'=some (.lst ((([wd]++[("(" : Str)])++az ((js.map fun i=>[aH i]).take i)).map V.str))∧σ=[some x,some (.ref l'),none,none,none,v5]) ⟨l,_,Same.refl _,hl,g2 _ _ h1,rfl⟩ (fun i σ H' _ p=>by obtain ⟨_,_,g,_⟩:=p;exact g.tup hb) ?_ ?_⟩
  ·rintro i y σ H3 hy ⟨l',v5,g3,hn,hl',rfl⟩;obtain ⟨d0,hd0,hdy⟩:=rb.get' hy;rw [aAf] at hd0;obtain ⟨j,hj,rfl⟩:=aAh.mp hd0;obtain rfl:=kT hdy;have ci:=cl i;have tk:(js.map fun i=>[aH i]).take (i+1)=(js.map fun i=>[aH i]).take i++[[aH j]]:=by rw [aAC,aAf,hj];rfl
   refine ⟨_,rfl,_,rfl,j,rfl,lJ (aAj (hjs j (aAr hj)) (by decide +kernel)),sz2,a7 [aH j,","] hl' (by simp only [aAc,aAb,aAn];lia) fun p1 H4 hp1 g4 h4=>?_⟩;refine ⟨p1,_,g3.trans g4,none_of ((g1.trans g2).trans g3) hp1,?_,rfl⟩;rw [h4,tk,bz];simp
  ·rintro σ H3 ⟨l',v5,g3,hn,hl',rfl⟩;have lx:=rb.length;rw [aAa] at lx;rw [aAy (by rw [aAa];lia)] at hl';exact fin _ _ _ l' H3 _ _ _ _ (by decide +kernel) (by simp [brW]) ((g1.trans g2).trans g3) hn hl'
theorem oB (T:Tx K mg ad) {f:Addr} {fd:FuncData} (D:Gn K mg "_law_turn_words" bT ["turn"] f fd):∀ n,FnOk P w K mg base CX0 (n+2) f fd ["turn"] (Bd K n)
 | 0=>fn_none fun _ _ _ _ h=>by obtain ⟨_,_,_,_,_,kw,_⟩:=h;cases kw
 | n+1=>iT T n D (oB T D n)
theorem a8 {A B:Prop} {p:Prop} [Decidable p] (h1:p→A) (h2:¬ p→B):if decide p=true then A else B:=by
 by_cases c:p
 ·rw [if_pos (decide_eq_true c)];exact h1 c
 ·rw [if_neg (fun e=>c (of_decide_eq_true e))];exact h2 c
def pcS (w:Str) (k:Int):Str:=if w= "put" ∧k=2 then "kind" else if (w= "put" ∨w= "drop")∧1 < k then "value" else if w= "turn" ∧k=2 then "turn" else if (w= "split" ∧k=2)∨(w= "join" ∧k=3) then "text" else ""
theorem lP {k:Str} {fs:List Str}:∀ {F:List (Str×List Str)},dh k F=some fs→(k,fs)∈F
 | [],h=>nomatch h
 | (x,b) :: F,h=>by
  unfold dh at h
  by_cases e:k=x
  ·rw [if_pos e] at h;cases h;rw [e];exact aAi
  ·rw [if_neg e] at h;exact aAg _ (lP h)
theorem Be:∀ p∈pieceF,∀ i∈List.range 6,∀ s∈p.2[i]?,if pcS p.1 ((i:Nat)+1:Int)= "" then s= "word" ∨s= "number" else s=pcS p.1 ((i:Nat)+1:Int):=by decide +kernel
theorem rB:∀ p∈pieceF,p.2.length≤6∧p.2≠[]:=by decide +kernel
theorem xD {wd s:Str} {fs:List Str} {i:Nat} (h:aK "piece" wd=some fs) (hs:fs[i]?=some s):if pcS wd ((i:Nat)+1:Int)= "" then s= "word" ∨s= "number" else s=pcS wd ((i:Nat)+1:Int):=by
 have hm:(wd,fs)∈pieceF:=lP h;have hl:=(rB _ hm).1;have il:=(aAk.mp hs).1;exact Be _ hm i (aBz.mpr (aAj il hl)) s hs
theorem oC {α:Type} [BEq α] [LawfulBEq α] [DecidableEq α] (a b:α):(a == b)=decide (b=a):=by
 by_cases h:b=a
 ·subst h;simp
 ·rw [decide_eq_false h,beq_eq_false_iff_ne];exact Ne.symm h
theorem yb {K:W.Frag} {H:Hp} {x y l':V} {wd:Str} {ds:List Dt} {j:Int} {Q:Bool→Hp→Prop} (c:Str) (m:Int) (hx:IsP K H (.tup (.str wd :: ds)) x) (q1:wd=c∧j=m→Q true H) (q2:¬ (wd=c∧j=m)→Q false H) :
  Ax (mq (tOp rEq (tOp (vd K) (ik 0) (tC (V.int 0))) (tC (V.str c)))) (mq (tOp rEq (ik 2) (tC (V.int m)))) [some x,some l',some (.int j),some y] H Q:=by
 refine ⟨_,rfl,_,_,_,hx,rfl,at0 _ _,isS ?_⟩;refine ⟨rfl,_,rfl,a8 (fun e=>⟨_,rfl,rfl,_,rfl,?_⟩) fun e=>q2 fun c=>e (congrArg V.str c.1)⟩
 by_cases ej:j=m
 ·rw [show (decide (V.int j=V.int m))=true from decide_eq_true (congrArg V.int ej)];exact q1 ⟨V.str.inj e,ej⟩
 ·rw [show (decide (V.int j=V.int m))=false from decide_eq_false fun c=>ej (V.int.inj c)];exact q2 fun c=>ej c.2
theorem Hc {K:W.Frag} {H:Hp} {x y l':V} {wd:Str} {ds:List Dt} {j:Int} {Q:Bool→Hp→Prop} (hx:IsP K H (.tup (.str wd :: ds)) x) (q1:(wd= "put" ∨wd= "drop")∧1 < j→∀ H',Same H H'→Q true H') (q2:¬ ((wd= "put" ∨wd= "drop")∧1 < j)→∀ H',Same H H'→Q false H') :
  Ax (mq (tOp (rIn K false) (tOp (vd K) (ik 0) (tC (V.int 0))) (s9 (bI (tC (V.str (Str.ofString "put"))) (bI (tC (V.str (Str.ofString "drop"))) iq))))) (mq (tOp (rI0 fun i j=>V.bl (decide (j < i))) (ik 2) (tC (V.int 1)))) [some x,some l',some (.int j),some y] H Q:=by
 refine ⟨_,rfl,_,_,_,hx,rfl,at0 _ _,isS ?_⟩;refine ⟨sz2,fun p hp=>⟨p,_,rfl,.inl (SqL.of aa),rfl,rfl,_,rfl,?_⟩⟩;have g:=ag hp (.lst [V.str "put",V.str "drop"]);have e0:inV (V.str wd) [V.str "put",V.str "drop"]=decide (wd= "put" ∨wd= "drop"):=by
  by_cases a:wd= "put"
  ·subst a;decide +kernel
  ·by_cases b:wd= "drop"
   ·subst b;decide +kernel
   ·rw [decide_eq_false (by rintro (h | h);exact a h;exact b h)];show (Str.ofString "put" == wd || (Str.ofString "drop" == wd || false))=false;rw [beq_eq_false_iff_ne.mpr (Ne.symm a),beq_eq_false_iff_ne.mpr (Ne.symm b)]
    rfl
 show if inV (V.str wd) [V.str "put",V.str "drop"]=true then _ else _
 rw [e0];refine a8 (fun e=>⟨_,rfl,_,_,rfl,rfl,_,rfl,?_⟩) fun e=>q2 (fun c=>e c.1) _ g
 by_cases ej:1 < j
 ·rw [decide_eq_true ej];exact q1 ⟨e,ej⟩ _ g
 ·rw [decide_eq_false ej];exact q2 (fun c=>ej c.2) _ g
theorem Bf {K:W.Frag} {H:Hp} {x y l':V} {wd:Str} {ds:List Dt} {j:Int} {Q:Bool→Hp→Prop} (hx:IsP K H (.tup (.str wd :: ds)) x) (q1:(wd= "split" ∧j=2)∨(wd= "join" ∧j=3)→∀ H',Same H H'→Q true H') (q2:¬ ((wd= "split" ∧j=2)∨(wd= "join" ∧j=3))→∀ H',Same H H'→Q false H') :
  mq (tOp (GQ K) (u8 K (bI (tOp (vd K) (ik 0) (tC (V.int 0))) (bI (ik 2) iq))) (s9 (bI (AG (bI (tC (V.str (Str.ofString "split"))) (bI (tC (V.int 2)) iq))) (bI (AG (bI (tC (V.str (Str.ofString "join"))) (bI (tC (V.int 3)) iq))) iq)))) [some x,some l',some (.int j),some y] H Q:=by
 refine ⟨_,rfl,_,_,_,hx,rfl,at0 _ _,isS ?_⟩;refine ⟨_,rfl,[.str wd,.int j],.cons .str (.cons .int .nil),sz2,fun v H1 g1 hv=>?_⟩;refine ⟨sz2,fun p1 h1=>⟨sz2,fun p2 h2=>⟨sz2,fun p3 h3=>?_⟩⟩⟩;have n12:p1≠p2:=ah aa h2;have k1:(upd (upd H1 p1 (.tup [V.str "split",V.int 2])) p2 (.tup [V.str "join",V.int 3])) p1=some (.tup [V.str "split",V.int 2]):=by rw [ac n12,aa]
 have G:=((ag h1 (.tup [V.str "split",V.int 2])).trans (ag h2 (.tup [V.str "join",V.int 3]))).trans (ag h3 (.lst [V.ref p1,V.ref p2]));have e1:=ag h3 (.lst [V.ref p1,V.ref p2]) _ _ k1;have e2:=ag h3 (.lst [V.ref p1,V.ref p2]) _ _ (aa (H:=upd H1 p1 (.tup [V.str "split",V.int 2])) (a:=p2) (o:=.tup [V.str "join",V.int 3]));refine ⟨p3,[p1,p2],[.tup [.str "split",.int 2],.tup [.str "join",.int 3]],.tup [.str wd,.int j],rfl,SqL.of aa,by simp [n12],.cons (.tup (SqT.of e1) (.cons .str (.cons .int .nil))) (.cons (.tup (SqT.of e2) (.cons .str (.cons .int .nil))) .nil),(hv.same G).d,by decide,_,rfl,?_⟩;have e0:([Dt.tup [.str "split",.int 2],Dt.tup [.str "join",.int 3]].any fun e=>eqD e (.tup [.str wd,.int j]))=decide ((wd= "split" ∧j=2)∨(wd= "join" ∧j=3)):=by
  simp [eqD,iz,Bool.decide_or,Bool.decide_and,oC]
 rw [e0]
 by_cases e:(wd= "split" ∧j=2)∨(wd= "join" ∧j=3)
 ·rw [decide_eq_true e];exact q1 e _ (g1.trans G)
 ·rw [decide_eq_false e];exact q2 e _ (g1.trans G)
theorem km {H:Hp} {l:Addr} {ws:List Str} {z:Str} {Q:VK} (hl:H l=some (.lst (ws.map V.str))) (hn:ws.length≤200000) (q:∀ H',(∀ G:Hp,G l=none→Same G H→Same G H')→H' l=some (.lst ((ws++[z]).map V.str))→Q .non H'):rM (.ref l) [.str z] H Q :=
 ⟨l,_,_,rfl,rfl,hl,by rw [aAa];exact aBb hn (by decide),q _ (fun G hg g=>bM hg g) (by rw [aa,aAt];rfl)⟩
def ia (K:W.Frag) (_:Ads):Sp:=fun vs H Q _=>∃ (d:Dt) (x:V) (ws:List Str),vs=[x]∧IsP K H d x∧PW d ws∧aB ws≤50000∧∀ l H',H l=none→Same H H'→H' l=some (.lst (ws.map V.str))→Q (.ref l) H'
theorem ib (T:Tx K mg ad) {f:Addr} {fd:FuncData} (F:Gn K mg "_law_piece_words" cy ["piece"] f fd):FnOk P w K mg base CX0 8 f fd ["piece"] (ia K ad):=by
 obtain ⟨f1,d1,Im⟩:=T.law_kind_words;have IB:=sM (P:=P) (w:=w) (base:=base) T Im 5;obtain ⟨f2,d2,Ir⟩:=T.law_value_words;have IL:=sN (P:=P) (w:=w) (base:=base) T Ir 4;obtain ⟨f3,d3,Ih⟩:=T.law_turn_words;have IE:=oB (P:=P) (w:=w) (base:=base) T Ih 5;refine F.F.ok aL (fun vs H Q E h=>?_) (fun cdv A outer s H vs Q E hr h=>?_)
 ·obtain ⟨d,x,ws,rfl,_⟩:=h
  rfl
 obtain ⟨d,x,ws,rfl,hx,pw,hz,q⟩:=h;refine ⟨_,(@pss_cons _ _ _ _ _ (@ps_set _ _ 1 _ _ _ _ aL.nd rfl (Or.inl rfl) (@pe_lst _ _ _ _ (@pa2 _ _ _ _ _ (@pi1 K _ _ _ _ _ _ _ rfl (pv 0)) pe_str (by rfl) (by rfl))) (by rfl) (.inl rfl)) (@pss_cons _ _ _ _ _ (ps_for PassesOwn.never rfl (sW rfl T.z_range (@pa2 _ _ _ _ _ pe_int (pe_callB (kM (K:=K) rfl) rfl T.z_len PySem.boot_len (@pa1 _ _ _ (pv 0) (by rfl))) (by rfl) (by rfl))) (ai (i:=2) aL.nd rfl (Or.inl rfl))
    (@pss_cons _ _ _ _ _ (@ps_set _ _ 3 _ _ _ _ aL.nd rfl (Or.inl rfl) (@pe_ix _ _ _ _ _ _ _ (iC (K:=K) rfl) (pv 0) (pv 2) (fun _ _=>rfl)) (by rfl) (.inl rfl)) (@pss_cons _ _ _ _ _ (@ps_if _ _ _ _ _ _ _ _ (PW.pt (@pw_and _ _ _ _ _ _ _ (pt_cmpR op_eq (@pi1 K _ _ _ _ _ _ _ rfl (pv 0)) pe_str (nomark _)) (@pw_and1 _ _ _ _ (pt_cmpR op_eq (pv 2) pe_int (nomark _))))) (@pss_one _ _ _ (@ps_set _ _ 1 _ _ _ _ aL.nd rfl (Or.inl rfl) (@pe_op _ _ _ _ _ _ _ _ (au (K:=K) rfl) (pv 1) (pcl Im IB (hr.mono (by lia)) rfl (@pa1 _ _ _ (pv 3) (by rfl)))) (by rfl) (.inl rfl))) (@pss_one _ _ _ (@ps_if _ _ _ _ _ _ _ _ (PW.pt (@pw_and _ _ _ _ _ _ _ (pt_cmpR (e7 (K:=K) rfl) (@pi1 K _ _ _ _ _ _ _ rfl (pv 0)) (@pe_lst _ _ _ _ (@pa2 _ _ _ _ _ pe_str pe_str (by rfl) (by rfl))) rfl) (@pw_and1 _ _ _ _ (pt_cmpR mo (pv 2) pe_int (nomark _))))) (@pss_one _ _ _ (@ps_set _ _ 1 _ _ _ _ aL.nd rfl (Or.inl rfl) (@pe_op _ _ _ _ _ _ _ _ (au (K:=K) rfl) (pv 1) (pcl Ir IL (hr.mono (by lia)) rfl (@pa1 _ _ _ (pv 3) (by rfl)))) (by rfl) (.inl rfl))) (@pss_one _ _ _ (@ps_if _ _ _ _ _ _ _ _ (PW.pt (@pw_and _ _ _ _ _ _ _ (pt_cmpR op_eq (@pi1 K _ _ _ _ _ _ _ rfl (pv 0)) pe_str (nomark _)) (@pw_and1 _ _ _ _ (pt_cmpR op_eq (pv 2) pe_int (nomark _))))) (@pss_one _ _ _ (@ps_set _ _ 1 _ _ _ _ aL.nd rfl (Or.inl rfl) (@pe_op _ _ _ _ _ _ _ _ (au (K:=K) rfl) (pv 1) (pcl Ih IE (hr.mono (by lia)) rfl (@pa1 _ _ _ (pv 3) (by rfl)))) (by rfl) (.inl rfl))) (@pss_one _ _ _ (@ps_if _ _ _ _ _ _ _ _ (pt_cmpR (A2 (K:=K) rfl hr.units) (@pe_tupPK _ K _ _ _ _ rfl (@pa2 _ _ _ _ _ (@pi1 K _ _ _ _ _ _ _ rfl (pv 0)) (pv 2) (by rfl) (by rfl))) (@pe_lst _ _ _ _ (@pa2 _ _ _ _ _ (uK (@pa2 _ _ _ _ _ pe_str pe_int (by rfl) (by rfl))) (uK (@pa2 _ _ _ _ _ pe_str pe_int (by rfl) (by rfl))) (by rfl) (by rfl))) rfl) (@pss_one _ _ _ (@ps_expr _ _ _ _ (pe_bm PySem.F.plainAttrs_list PySem.F.slot_list_append PySem.F.type_list_append bP (pv 1) (@pa1 _ _ _ (@pe_op _ _ _ _ _ _ _ _ op_add_str (@pe_op _ _ _ _ _ _ _ _ op_add_str pe_str (pv 3)) pe_str) (by rfl))) (by rfl))) (@pss_one _ _ _ (@ps_expr _ _ _ _ (pe_bm PySem.F.plainAttrs_list PySem.F.slot_list_append PySem.F.type_list_append bP (pv 1) (@pa1 _ _ _ (pe_callTy qV rfl T.z_str boot_str (@pa1 _ _ _ (pv 3) (by rfl))) (by rfl))) (by rfl)))))))))) (@pss_one _ _ _ (@ps_expr _ _ _ _ (pe_bm PySem.F.plainAttrs_list PySem.F.slot_list_append PySem.F.type_list_append bP (pv 1) (@pa1 _ _ _ pe_str (by rfl))) (by rfl)))))) (@pss_one _ _ _ (@ps_ret _ _ _ _ (@pe_op _ _ _ _ _ _ _ _ (au (K:=K) rfl) (pe_slice (iE (K:=K) rfl) (pv 1) ce (po_some (@pe_un _ _ _ _ _ _ un_neg pe_int))) (@pe_lst _ _ _ _ (@pa1 _ _ _ pe_str (by rfl)))))))),?_⟩
 obtain ⟨wd,fs,its,nm,hf,lf,hp,rfl,rfl⟩:=pw;have hm:(wd,fs)∈pieceF:=lP hf;obtain ⟨l6,l0⟩:=rB _ hm;dsimp only at l6 l0;have wl:=aAA (bE _) hz;rw [cX] at wl;refine ⟨_,rfl,_,_,_,hx,rfl,at0 _ _,isS ?_⟩;refine ⟨sz2,fun l hl=>?_⟩;dsimp only [dC];have g1:Same H (upd H l (.lst [V.str wd,V.str "("])):=ag hl _;have h1:(upd H l (.lst [V.str wd,V.str "("])) l=some (.lst (([wd,"("]++az ((its.map (·.2)).take 0)).map V.str)):=aa
 revert g1 h1
 generalize upd H l (.lst [V.str wd,V.str "("])=H1
 intro g1 h1;have en:((((Dt.str wd :: its.map (·.1)).length:Nat):Int) - 1).toNat=its.length:=by
  rw [aAb,aAa];lia
 have cl:=dv (its.map (·.2));have win:∀ {y:List Str},y∈its.map (·.2)→aB y≤50000:=fun hy=>by
  have:=kj hy;rw [bQ] at hz;lia
 refine ⟨_,rfl,x,_,rfl,(hx.same g1).d,1,_,rfl,⟨by decide,by decide,by rw [aAb,aAa];lia,by rw [aAb,aAa];lia⟩,gB (lo:=1) (fun i σ H'=>∃ l' v2 v3,Same H H'∧H l'=none∧H' l'=some (.lst (([wd,"("]++az ((its.map (·.2)).take i)).map V.str))∧σ=[some x,some (.ref l'),v2,v3]) ⟨l,_,_,g1,hl,h1,rfl⟩ ?_ ?_⟩
 ·rintro i σ H2 hi ⟨l',v2,v3,g2,hn,hl',rfl⟩;rw [en] at hi;obtain ⟨⟨d0,w0⟩,hit⟩:∃ it,its[i]?=some it:=⟨_,aAv hi⟩;obtain ⟨so,hso⟩:∃ so,fs[i]?=some so:=⟨_,aAv (by lia)⟩;have pt:PartW 5 so d0 w0:=hp (so,(d0,w0)) (aAr ((aAT (z:=(so,(d0,w0)))).mpr ⟨hso,hit⟩));have ps:=xD hf hso;have ej:(1:Int)+(i:Int)=((i:Nat)+1:Int):=by lia
  have wi:=win (aBy (f:=(·.2)) (aAr hit));dsimp only at wi;have li:=bE w0;have ci:=cl i;have tk:(its.map (·.2)).take (i+1)=(its.map (·.2)).take i++[w0]:=by rw [aAC,aAf,hit];rfl
  unfold dC;rw [ej];refine ⟨_,rfl,_,rfl,_,_,_,hx.same g2,rfl,eY (j:=i+1) (v:=d0) (by rw [List.getElem?_cons_succ,aAf,hit];rfl),fun y hy=>?_⟩;dsimp only [dC];refine ge fun k hk=>?_;have lb:([wd,("(" : Str)]++az ((its.map (·.2)).take i)).length≤60000:=by
   simp only [aAc,aAb,aAn];lia
  have fin:∀ l1 H3,Same H H3→H l1=none→H3 l1=some (.lst ((([wd,"("]++az ((its.map (·.2)).take i))++w0).map V.str))→k [some x,some (.ref l1),some (.int ((i:Nat)+1:Int)),some y] H3:=fun l1 H3 g3 hn3 h3=>hk _ _ ⟨_,rfl,.inl ⟨rfl,_,SqL.of h3⟩,km h3 (by rw [aAc];lia) fun H4 g4 h4=>⟨l1,_,_,g4 _ hn3 g3,hn3,by rw [h4,tk,bz];simp,rfl⟩⟩;refine yb _ _ (hx.same g2) (fun c=>?_) fun c1=>?_
  ·have e:pcS wd ((i:Nat)+1:Int)= "kind" :=by unfold pcS;rw [if_pos c]
   rw [e,if_neg (by decide +kernel)] at ps;subst ps
   cases pt with
   | kind kw=>exact ⟨_,rfl,_,rfl,d0,y,w0,rfl,hy,kw,wi,fun b1 H4 hb1 g4 h4=>cv (g4 _ _ hl') h4 (by lia) fun p2 H5 hp2 g5 h5=>fin p2 H5 ((g2.trans g4).trans g5) (none_of (g2.trans g4) hp2) h5⟩
  refine Hc (hx.same g2) (fun c H3 g3=>?_) fun c2 H3 g3=>?_
  ·have e:pcS wd ((i:Nat)+1:Int)= "value" :=by unfold pcS;rw [if_neg c1,if_pos c]
   rw [e,if_neg (by decide +kernel)] at ps;subst ps
   cases pt with
   | value vw=>exact ⟨_,rfl,_,rfl,d0,y,w0,rfl,hy.same g3,vw,wi,fun b1 H4 hb1 g4 h4=>cv (g4 _ _ (g3 _ _ hl')) h4 (by lia) fun p2 H5 hp2 g5 h5=>fin p2 H5 (((g2.trans g3).trans g4).trans g5) (none_of ((g2.trans g3).trans g4) hp2) h5⟩
  refine yb _ _ (hx.same (g2.trans g3)) (fun c=>?_) fun c3=>?_
  ·have e:pcS wd ((i:Nat)+1:Int)= "turn" :=by unfold pcS;rw [if_neg c1,if_neg c2,if_pos c]
   rw [e,if_neg (by decide +kernel)] at ps;subst ps
   cases pt with
   | turn tw=>exact ⟨_,rfl,_,rfl,d0,y,w0,rfl,hy.same g3,tw,wi,fun b1 H4 hb1 g4 h4=>cv (g4 _ _ (g3 _ _ hl')) h4 (by lia) fun p2 H5 hp2 g5 h5=>fin p2 H5 (((g2.trans g3).trans g4).trans g5) (none_of ((g2.trans g3).trans g4) hp2) h5⟩
  refine Bf (hx.same (g2.trans g3)) (fun c H4 g4=>?_) fun c4 H4 g4=>?_
  ·have e:pcS wd ((i:Nat)+1:Int)= "text" :=by unfold pcS;rw [if_neg c1,if_neg c2,if_neg c3,if_pos c]
   rw [e,if_neg (by decide +kernel)] at ps;subst ps
   cases pt with
   | @text z ht hz60 =>
    obtain rfl:=bq hy;have q1:(Str.ofString "\"").length=1:=rfl;have q2:(Str.ofString "\"" ++z).length=1+z.length:=by rw [aAd,q1]
    refine ⟨_,rfl,.inl ⟨rfl,_,SqL.of (g4 _ _ (g3 _ _ hl'))⟩,_,rfl,_,_,rfl,rfl,bR (by lia),_,_,rfl,rfl,bR (by lia),km (g4 _ _ (g3 _ _ hl')) (by lia) fun H5 g5 h5=>fin _ _ (g5 _ hn ((g2.trans g3).trans g4)) hn ?_⟩;rw [h5]
    rfl
  ·have e:pcS wd ((i:Nat)+1:Int)= "" :=by unfold pcS;rw [if_neg c1,if_neg c2,if_neg c3,if_neg c4]
   rw [e,if_pos rfl] at ps;rcases ps with rfl | rfl
   ·cases pt with
    | @word z hw =>
     obtain rfl:=bq hy;exact ⟨_,rfl,.inl ⟨rfl,_,SqL.of (g4 _ _ (g3 _ _ hl'))⟩,_,rfl,.inr ⟨z,rfl,km (g4 _ _ (g3 _ _ hl')) (by lia) fun H5 g5 h5=>fin _ _ (g5 _ hn ((g2.trans g3).trans g4)) hn h5⟩⟩
   ·cases pt with
    | @num z hw =>
     obtain rfl:=kT hy;exact ⟨_,rfl,.inl ⟨rfl,_,SqL.of (g4 _ _ (g3 _ _ hl'))⟩,_,rfl,.inl ⟨z,rfl,lJ (aAj hw (by decide +kernel)),km (g4 _ _ (g3 _ _ hl')) (by lia) fun H5 g5 h5=>fin _ _ (g5 _ hn ((g2.trans g3).trans g4)) hn h5⟩⟩
 ·rintro σ H2 ⟨l',v2,v3,g2,hn,hl',rfl⟩;rw [en,aAy (by rw [aAa];exact aAp _)] at hl';obtain ⟨y,r,er⟩:∃ y r,its.map (·.2)=y :: r:=by
   cases its with
   | nil=>exact absurd (aA3.mp lf.symm) l0
   | cons y r=>exact ⟨_,_,rfl⟩
  rw [er] at hl' wl q;rw [cF,← aAJ,aAt] at hl';refine ⟨_,rfl,_,rfl,_,rfl,l',_,rfl,SqL.of hl',fun p hp=>?_⟩;have h3:(upd H2 p (.lst (kA (([wd,"("]++sepW (y :: r)).map V.str++[("," : Str)].map V.str) none (some (-1))))) p=some (.lst (([wd,"("]++sepW (y :: r)).map V.str)):=by
   rw [aa];exact congrArg (fun z=>some (HO.lst z)) (lN _ _)
  refine ⟨sz1,a7 [(")" : Str)] h3 (by simp only [aAc,aAb,aAn];lia) fun p5 H5 hp5 g5 h5=>q p5 H5 (none_of (g2.trans (ag hp _)) hp5) ((g2.trans (ag hp _)).trans g5) h5⟩
inductive IDg (vs:List V) (H:Hp) (Q:VK):Prop
 | mk (r:Addr) (n m:Int):(vs=[.ref r,.int m])→(H r=some (.lst [.int n]))→(0 < m)→(m < 10000000000000000000000000000000000000000000000000000000000000)→(∀ d n' H',0≤d→d < m→But r H H'→H' r=some (.lst [.int n'])→Q (.int d) H')→IDg vs H Q
def sDg:Sp:=fun vs H Q _=>IDg vs H Q
theorem lQ {ad:Ads} (vs:List V) (H:Hp) (Q:VK) (E:XK) (h:sDg vs H Q E):iF K ad vs H Q E:=by
 obtain ⟨r,n,m,e,hr,h0,h1,q⟩:=h;exact ⟨r,n,m,e,hr,h0,h1,q _ _ _ (mod_lt n h0).1 (mod_lt n h0).2 But.put aa⟩
theorem qi:∀ l:List Str,(∀ z∈l,z.length=1)→(l.map (·.length)).sum=l.length
 | [],_=>rfl
 | z :: l,h=>by
  rw [aAo,aAW,qi l fun x hx=>h x (aAg _ hx),h z aAi,aAb];lia
theorem gf {r p:Addr} {H H':Hp} (n:p≠r) (B:But r H H') (hp:H' p=none):H p=none:=by
 cases c:H p with
 | none=>rfl
 | some o=>rw [B _ _ n c] at hp;cases hp
abbrev wordL:List Str:=["each","number","text","record","words","put","name","list"]
abbrev tailL:List Str:=["","","s","x"]
abbrev abcS:Str:= "abcdefghijklmnopqrstuvwxyz"
theorem xE:∀ z∈wordL,∀ t∈tailL,NmC (z++t)∧z.length+t.length≤8:=by unfold NmC;decide +kernel
theorem Bg:∀ c∈abcS.cps.toList,aM letS c=true:=by decide +kernel
inductive I_sp_law_word (vs:List V) (H:Hp) (Q:VK):Prop
 | mk (r:Addr) (c:Int):(vs=[.ref r])→(H r=some (.lst [.int c]))→(∀ z c' H',But r H H'→H' r=some (.lst [.int c'])→NmC z→Q (.str z) H')→I_sp_law_word vs H Q
def qj (_:W.Frag) (_:Ads):Sp:=fun vs H Q _=>I_sp_law_word vs H Q
theorem gh (T:Tx K mg ad) {f:Addr} {fd:FuncData} (F:Gn K mg "_law_word" fq ["row"] f fd):FnOk P w K mg base CX0 2 f fd ["row"] (qj K ad):=by
 obtain ⟨_,_,HM⟩:=T.law_digit;have HN:=aE (P:=P) (w:=w) (base:=base) T HM;refine F.F.ok jW (fun vs H Q E h=>?_) (fun cdv A outer s H vs Q E hr h=>?_)
 ·obtain ⟨r,c,rfl,_⟩:=h
  rfl
 obtain ⟨r,c,rfl,hr0,q⟩:=h;have HN:=HN.imp lQ;refine ⟨_,(@pss_cons _ _ _ _ _ (@ps_if _ _ _ _ _ _ _ _ (pt_cmpR op_eq (pcl HM HN (hr.mono (by lia)) rfl (@pa2 _ _ _ _ _ (pv 0) pe_int (by rfl) (by rfl))) pe_int (nomark _)) (@pss_cons _ _ _ _ _ (@ps_set _ _ 1 _ _ _ _ jW.nd rfl (Or.inl rfl) (@pe_ix _ _ _ _ _ _ _ (aD (K:=K) rfl) (@pe_lst _ _ _ _ (@aq _ _ _ _ _ pe_str (@aq _ _ _ _ _ pe_str (@aq _ _ _ _ _ pe_str (@aq _ _ _ _ _ pe_str (@aq _ _ _ _ _ pe_str (@pa3 _ _ _ _ _ _ _ pe_str pe_str pe_str (by rfl) (by rfl) (by rfl)) (by rfl)) (by rfl)) (by rfl)) (by rfl)) (by rfl))) (pcl HM HN (hr.mono (by lia)) rfl (@pa2 _ _ _ _ _ (pv 0) pe_int (by rfl) (by rfl))) (fun _ _=>rfl)) (by rfl) (.inl rfl)) (@pss_one _ _ _ (@ps_ret _ _ _ _ (@pe_op _ _ _ _ _ _ _ _ op_add_str (pv 1) (@pe_ix _ _ _ _ _ _ _ (aD (K:=K) rfl) (@pe_lst _ _ _ _ (@aq _ _ _ _ _ pe_str (@pa3 _ _ _ _ _ _ _ pe_str pe_str pe_str (by rfl) (by rfl) (by rfl)) (by rfl))) (pcl HM HN (hr.mono (by lia)) rfl (@pa2 _ _ _ _ _ (pv 0) pe_int (by rfl) (by rfl))) (fun _ _=>rfl)))))) pss_nil) (@pss_one _ _ _ (@ps_ret _ _ _ _ (pe_bm PySem.F.plainAttrs_str PySem.F.slot_str_join PySem.F.type_str_join fR pe_str (@pa1 _ _ _ (pe_comp rfl (csR (sc:=ae fq) (NL:=["k"]) (N:=["row","word"]) (ρ:=[0]) (N':=["k","row"]) rfl rfl rfl (by decide +kernel) (by decide +kernel) (by decide +kernel) rfl (by decide +kernel)) (bf rfl T.z_range (@pa1 _ _ _ (@pe_op _ _ _ _ _ _ _ _ aS pe_int (pcl HM HN (hr.mono (by lia)) rfl (@pa2 _ _ _ _ _ (pv 0) pe_int (by rfl) (by rfl)))) (by rfl))) (fun _ _ _ _=>(ai (i:=0) (show List.Nodup (α:=Str) ["k","row"] by decide +kernel) rfl (Or.inl rfl))) (fun _ _ _ _=>(@pe_ix _ _ _ _ _ _ _ ix_str pe_str (pcl HM HN (hr.mono (by lia)) rfl (@pa2 _ _ _ _ _ (pv 1) pe_int (by rfl) (by rfl))) (fun _ _=>rfl)))) (by rfl)))))),?_⟩;refine ⟨_,rfl,r,_,_,rfl,hr0,by decide,by decide,fun d n1 H1 d0 d1 B1 R1=>⟨rfl,_,rfl,a8 (fun _=>?_) fun _=>?_⟩⟩
 ·refine ⟨(by show 8≤sizeLine;decide),fun p hp=>?_⟩;have np:p≠r:=fun c=>by rw [c,R1] at hp;cases hp
  refine ⟨_,rfl,r,n1,_,rfl,(by rw [ac np.symm];exact R1),by decide,by decide,fun d n2 H2 d0 d1 B2 R2=>?_⟩;obtain ⟨v,hv,ev⟩:=kW (xs:=wordL.map V.str) d0 d1;obtain ⟨z,hz,rfl⟩:=aAl.mp hv;refine ⟨p,_,_,_,rfl,rfl,SqL.of (B2 _ _ np aa),ev,?_⟩;have B3:But r H H2:=(B1.trans (But.same (ag hp _))).trans B2;dsimp only [dC];refine ⟨_,rfl,(by show 4≤sizeLine;decide),fun p' hp'=>?_⟩;have np':p'≠r:=fun c=>by rw [c,R2] at hp';cases hp'
  refine ⟨_,rfl,r,n2,_,rfl,(by rw [ac np'.symm];exact R2),by decide,by decide,fun d n3 H3 d0 d1 B4 R3=>?_⟩;obtain ⟨v,hv,ev⟩:=kW (xs:=tailL.map V.str) d0 d1;obtain ⟨t,ht,rfl⟩:=aAl.mp hv;obtain ⟨ok,ol⟩:=xE z hz t ht;exact ⟨p',_,_,_,rfl,rfl,SqL.of (B4 _ _ np' aa),ev,_,_,rfl,rfl,bR (by lia),q _ _ _ ((B3.trans (But.same (ag hp' _))).trans B4) R3 ok⟩
 ·refine ⟨rfl,_,rfl,r,_,_,rfl,R1,by decide,by decide,fun d n2 H2 d0 d1 B2 R2=>⟨_,_,rfl,rfl,_,rfl,by lia,by lia,fun l hln=>?_⟩⟩;have nl:l≠r:=fun c=>by rw [c,R2] at hln;cases hln
  have lH:=gf nl (B1.trans B2) hln;refine bi (lo:=0) (n:=(1+d).toNat) (fun j ys σ H'=>∃ (zs:List Str) (c':Int),But r H H'∧H' r=some (.lst [.int c'])∧H' l=some (.lst ys)∧ys=zs.map V.str∧(∀ z∈zs,z.length=1∧∀ c∈z.cps.toList,aM letS c=true)∧zs.length=j∧∃ v1,σ=[v1,some (.ref r)])
   ⟨[],n2,(B1.trans B2).trans (But.same (ag hln _)),(by rw [ac nl.symm];exact R2),aa,rfl,(by intro z hz;cases hz),rfl,none,rfl⟩ ?_ ?_
  ·rintro j ys σ H3 N hj ⟨zs,c',b1,e1,e2,rfl,hz,hle,v1,rfl⟩ next;refine ⟨_,rfl,r,_,_,rfl,e1,by decide,by decide,fun d' n4 H4 g0 g1 B4 R4=>?_⟩;obtain ⟨ch,hm,hc⟩:=x8 (z:=abcS) g0 g1;refine ⟨_,_,_,rfl,rfl,(by decide +kernel),hc,?_⟩;have e3:=B4 _ _ nl e2;refine ⟨e3,(by rw [aAa];exact av (by lia)),next _ _ _ ⟨zs++[⟨#[ch]⟩],n4,bJ (b1.trans B4) lH,(by rw [ac nl.symm];exact R4),aa,(by rw [aAt];rfl),fun z hz'=>?_,(by rw [aAc,hle];rfl),_,rfl⟩⟩;rcases aAG.mp hz' with h3 | h3
   ·exact hz z h3
   ·obtain rfl:=aAq.mp h3;refine ⟨rfl,fun c hc'=>?_⟩;obtain rfl:c=ch:=by simpa using hc'
    exact Bg c hm
  ·intro ys σ H3 hI9;obtain ⟨zs,c',b1,e1,e2,rfl,hz,hle,v1,rfl⟩:=hI9;have sm:(zs.map (·.length)).sum=zs.length:=qi zs fun z h=>(hz z h).1;refine ⟨_,l,zs,rfl,rfl,.inl (SqL.of e2),(by rw [show (Str.ofString "").length=0 from rfl];lia),?_⟩;have lj:=W.KT.join_ones zs fun z h=>(hz z h).1;refine q _ c' H3 b1 e1 ⟨aAO.mpr fun c hc=>?_,by lia,by lia⟩;rw [iP] at hc;obtain ⟨z,hz',h1⟩:=le hc;exact (hz z hz').2 c h1
abbrev e60:Int:=1000000000000000000000000000000000000000000000000000000000000
theorem p60:(10:Int) ^ (60:Int).toNat=e60:=by decide +kernel
theorem n60:10 ^ 60=e60.toNat:=by decide +kernel
inductive I_sp_law_any_number (vs:List V) (H:Hp) (Q:VK):Prop
 | mk (r:Addr) (c:Int):(vs=[.ref r])→(H r=some (.lst [.int c]))→(∀ i c' H',But r H H'→H' r=some (.lst [.int c'])→Int.natAbs i < 10 ^ 60→Q (.int i) H')→I_sp_law_any_number vs H Q
def eg (_:W.Frag) (_:Ads):Sp:=fun vs H Q _=>I_sp_law_any_number vs H Q
theorem cw (T:Tx K mg ad) {f:Addr} {fd:FuncData} (F:Gn K mg "_law_any_number" cI ["row"] f fd):FnOk P w K mg base CX0 2 f fd ["row"] (eg K ad):=by
 obtain ⟨_,_,HM⟩:=T.law_digit;have HN:=aE (P:=P) (w:=w) (base:=base) T HM;refine F.F.ok i7 (fun vs H Q E h=>?_) (fun cdv A outer s H vs Q E hr h=>?_)
 ·obtain ⟨r,c,rfl,_⟩:=h
  rfl
 obtain ⟨r,c,rfl,hr0,q⟩:=h;have HN:=HN.imp lQ;refine ⟨_,(@pss_cons _ _ _ _ _ (@ps_if _ _ _ _ _ _ _ _ (pt_cmpR op_eq (pcl HM HN (hr.mono (by lia)) rfl (@pa2 _ _ _ _ _ (pv 0) pe_int (by rfl) (by rfl))) pe_int (nomark _)) (@pss_one _ _ _ (@ps_ret _ _ _ _ (@pe_op _ _ _ _ _ _ _ _ aS (@pe_op _ _ _ _ _ _ _ _ bV (pcl HM HN (hr.mono (by lia)) rfl (@pa2 _ _ _ _ _ (pv 0) (@pe_op _ _ _ _ _ _ _ _ bV (@pe_op _ _ _ _ _ _ _ _ ny pe_int (@pe_op _ _ _ _ _ _ _ _ eB pe_int pe_int)) pe_int) (by rfl) (by rfl))) (@pe_op _ _ _ _ _ _ _ _ eB pe_int pe_int)) pe_int))) pss_nil) (@pss_one _ _ _ (@ps_ret _ _ _ _ (@pe_op _ _ _ _ _ _ _ _ bV (pcl HM HN (hr.mono (by lia)) rfl (@pa2 _ _ _ _ _ (pv 0) pe_int (by rfl) (by rfl))) pe_int)))),?_⟩;refine ⟨_,rfl,r,_,_,rfl,hr0,by decide,by decide,fun d n1 H1 d0 d1 B1 R1=>⟨rfl,_,rfl,a8 (fun _=>?_) fun _=>?_⟩⟩
 ·refine ⟨_,rfl,_,_,rfl,rfl,⟨by decide,by decide,by decide⟩,?_⟩;refine ⟨_,_,rfl,rfl,mulOk_of_bits (m:=2) (n:=200) (by decide +kernel) (by decide +kernel) (by decide),_,_,rfl,rfl,r,_,_,rfl,R1,by rw [p60];decide,by rw [p60];decide,fun d' n2 H2 g0 g1 B2 R2=>?_⟩;rw [p60] at g1;refine ⟨_,_,rfl,rfl,⟨by decide,by decide,by decide⟩,_,_,rfl,rfl,_,_,rfl,rfl,q _ _ _ (B1.trans B2) R2 ?_⟩;rw [p60,n60];show (d' - e60+1).natAbs < e60.toNat;lia
 ·refine ⟨_,rfl,r,_,_,rfl,R1,by decide,by decide,fun d' n2 H2 g0 g1 B2 R2=>⟨_,_,rfl,rfl,q _ _ _ (B1.trans B2) R2 (aAj (m:=100) (by lia) (by decide +kernel))⟩⟩
theorem mX {i:Int} (h:i.natAbs < 10 ^ 60):(aH i).length≤61:=by
 rw [← ak,fV];have:=nA 59 i.natAbs h;unfold eK
 split
 ·rw [aAb];lia
 ·lia
theorem VW.up {n:Nat} {d:Dt} {ws:List Str} (h:VW n d ws):VW (n+1) d ws:=by
 induction h with
 | int n i hi=>exact .int _ i hi
 | str n z h1 h2=>exact .str _ z h1 h2
 | list h8 _ ih=>exact .list h8 ih
 | rows h8 _ ih=>exact .rows h8 ih
 | rcd h8 hz _ ih=>exact .rcd h8 hz ih
theorem lR (a b:Str) (ws:List Str):aB (enc a ws b)=a.length+b.length+6+aB ws:=by
 unfold enc;rw [aY,aY,aw,aw];simp [aB];lia
theorem dz {b:Nat}:∀ {wss:List (List Str)},(∀ y∈wss,aB y≤b)→aB (sepW wss)≤wss.length*(b+4):=fun {wss} h=>aAA (cP wss) (by
 induction wss with
 | nil=>exact aAD _
 | cons y r ih =>
  have h1:=h y aAi;have h2:=ih fun y hy=>h y (aAg _ hy);rw [aAo,aAW,aAb,Nat.add_mul];lia)
theorem qk {K:W.Frag} {ad:Ads} {σ:L2.St} {H:Hp} {Q:VK} {r:Addr} {c way:Int} {n:Nat} (h0:σ[0]?=some (some (.ref r))) (h2:σ[2]?=some (some (.int way))) (hr:H r=some (.lst [.int c])) (q:∀ (d:Dt) (ws:List Str) (y:V) (c':Int) H',But r H H'→H' r=some (.lst [.int c'])→IsP K H' d y→VW n d ws→aB ws≤100→Q y H') :
  tOp (AI K) (s9 (bI (rK (eg K ad) [] E0 (bI (ik 0) iq)) (bI (rK (jP K ad) [] E0 (bI (ik 0) (bI (tC (V.int 9)) iq))) iq))) (tOp (rI (fun x j=>0 < j) fun i j=>V.int (i % j)) (ik 2) (tC (V.int 2))) σ H Q:=by
 refine ⟨_,h0,r,_,rfl,hr,fun i c1 H1 B1 R1 hi=>⟨_,h0,r,_,9,rfl,R1,by decide,by decide,fun z c2 H2 B2 R2 lz okz=>⟨sz2,fun p hp=>⟨_,h2,_,_,rfl,rfl,by decide,?_⟩⟩⟩⟩;have np:p≠r:=fun c=>by rw [c,R2] at hp;cases hp
 obtain ⟨w0,w1⟩:=mod_lt way (m:=2) (by decide);obtain ⟨v,hv,ev⟩:=kW (xs:=[V.int i,V.str z]) w0 w1;refine ⟨p,_,_,v,rfl,rfl,SqL.of aa,ev,?_⟩;have B:=(B1.trans B2).trans (But.same (ag hp (.lst [V.int i,V.str z])));have R:(upd H2 p (.lst [V.int i,V.str z])) r=some (.lst [.int c2]):=by rw [ac np.symm];exact R2
 rcases aAm.mp hv with rfl | hv
 ·have:=mX hi;exact q _ _ _ _ _ B R .int (.int n i hi) (by rw [aw];simp [aB];lia)
 ·obtain rfl:=aAq.mp hv;refine q _ _ _ _ _ B R .str (.str n z okz (by lia)) ?_;have q1:(quo z).length=z.length+2:=by
   unfold quo;rw [aAd,aAd,show (Str.ofString "\"").length=1 from rfl];lia
  rw [aw,q1];simp [aB];lia
def sAV (K:W.Frag) (n:Nat):Sp:=fun vs H Q _=>∃ (r:Addr) (c:Int),vs=[.ref r,.int n]∧H r=some (.lst [.int c])∧∀ (d:Dt) (ws:List Str) (y:V) (c':Int) H',But r H H'→H' r=some (.lst [.int c'])→IsP K H' d y→VW n d ws→aB ws≤100*4 ^ n→Q y H'
theorem eV (T:Tx K mg ad) (n:Nat) (hn:n≤3) {f:Addr} {fd:FuncData} (Iq:Gn K mg "_law_any_value" bg ["row","deep"] f fd) (G:∀ m,n=m+1→FnOk P w K mg base CX0 (m+5) f fd ["row","deep"] (sAV K m)):FnOk P w K mg base CX0 (n+5) f fd ["row","deep"] (sAV K n):=by
 obtain ⟨f1,d1,HM⟩:=T.law_digit;have HN:=(aE (P:=P) (w:=w) (base:=base) T HM).imp lQ;obtain ⟨f2,d2,HW⟩:=T.law_any_number;have Ig:=cw (P:=P) (w:=w) (base:=base) T HW;obtain ⟨f3,d3,Il⟩:=T.law_word;have Ix:=gh (P:=P) (w:=w) (base:=base) T Il;obtain ⟨f4,d4,IT⟩:=T.law_text;have Jk:=jQ (P:=P) (w:=w) (base:=base) T IT;have IG:FnOk P w K mg base CX0 (n+4) f fd ["row","deep"] (fun vs H Q E=>∃ m,n=m+1∧sAV K m vs H Q E):=by
  cases n with
  | zero=>exact fn_none fun _ _ _ _ h=>by obtain ⟨m,h,_⟩:=h;cases h
  | succ m=>exact (G m rfl).imp fun vs H Q E h=>by obtain ⟨m',e,h⟩:=h;cases e;exact h
 refine Iq.F.ok cL (fun vs H Q E h=>?_) (fun cdv A outer s H vs Q E hr h=>?_)
 ·obtain ⟨r,c,rfl,_⟩:=h
  rfl
 obtain ⟨r,c,rfl,hr0,q⟩:=h;refine ⟨_,(@pss_cons _ _ _ _ _ (@ps_set _ _ 2 _ _ _ _ cL.nd rfl (Or.inl rfl) (pcl HM HN (hr.mono (by lia)) rfl (@pa2 _ _ _ _ _ (pv 0) pe_int (by rfl) (by rfl))) (by rfl) (.inl rfl)) (@pss_cons _ _ _ _ _ (@ps_if _ _ _ _ _ _ _ _ (PW.pt (@io _ _ _ _ _ _ _ (pt_cmpR fz (pv 2) pe_int (nomark _)) (@i9 _ _ _ _ (pt_cmpR op_eq (pv 1) pe_int (nomark _))))) (@pss_one _ _ _ (@ps_ret _ _ _ _ (@pe_ix _ _ _ _ _ _ _ (aD (K:=K) rfl) (@pe_lst _ _ _ _ (@pa2 _ _ _ _ _ (pcl HW Ig (hr.mono (by lia)) rfl (@pa1 _ _ _ (pv 0) (by rfl))) (pcl IT Jk (hr.mono (by lia)) rfl (@pa2 _ _ _ _ _ (pv 0) pe_int (by rfl) (by rfl))) (by rfl) (by rfl))) (@pe_op _ _ _ _ _ _ _ _ dD (pv 2) pe_int) (fun _ _=>rfl)))) pss_nil) (@pss_cons _ _ _ _ _ (@ps_set _ _ 3 _ _ _ _ cL.nd rfl (Or.inl rfl) (pcl HM HN (hr.mono (by lia)) rfl (@pa2 _ _ _ _ _ (pv 0) pe_int (by rfl) (by rfl))) (by rfl) (.inl rfl)) (@pss_cons _ _ _ _ _ (@ps_if _ _ _ _ _ _ _ _ (pt_cmpR fz (pv 2) pe_int (nomark _)) (@pss_one _ _ _ (@ps_ret _ _ _ _ (@pe_tupPK _ K _ _ _ _ rfl (@pa2 _ _ _ _ _ (@pe_ix _ _ _ _ _ _ _ (aD (K:=K) rfl) (@pe_lst _ _ _ _ (@pa2 _ _ _ _ _ pe_str pe_str (by rfl) (by rfl))) (@pe_op _ _ _ _ _ _ _ _ bV (pv 2) pe_int) (fun _ _=>rfl)) (pe_callTy (aZ (K:=K) rfl) rfl T.z_tuple boot_tuple (@pa1 _ _ _ (pe_comp rfl (csR (sc:=ae bg) (NL:=["k"]) (N:=["row","deep","way","many"]) (ρ:=[0,1]) (N':=["k","row","deep"]) rfl rfl rfl (by decide +kernel) (by decide +kernel) (by decide +kernel) rfl (by decide +kernel)) (bf rfl T.z_range (@pa1 _ _ _ (pv 3) (by rfl))) (fun _ _ _ _=>(ai (i:=0) (show List.Nodup (α:=Str) ["k","row","deep"] by decide +kernel) rfl (Or.inl rfl))) (fun _ _ _ _=>(pcl Iq IG (hr.mono (by lia)) rfl (@pa2 _ _ _ _ _ (pv 1) (@pe_op _ _ _ _ _ _ _ _ bV (pv 2) pe_int) (by rfl) (by rfl))))) (by rfl))) (by rfl) (by rfl))))) pss_nil) (@pss_one _ _ _ (@ps_ret _ _ _ _ (@pe_tupPK _ K _ _ _ _ rfl (@pa2 _ _ _ _ _ pe_str (pe_callTy (aZ (K:=K) rfl) rfl T.z_tuple boot_tuple (@pa1 _ _ _ (pe_comp rfl (csR (sc:=ae bg) (NL:=["k"]) (N:=["row","deep","way","many"]) (ρ:=[0,1]) (N':=["k","row","deep"]) rfl rfl rfl (by decide +kernel) (by decide +kernel) (by decide +kernel) rfl (by decide +kernel)) (bf rfl T.z_range (@pa1 _ _ _ (pv 3) (by rfl))) (fun _ _ _ _=>(ai (i:=0) (show List.Nodup (α:=Str) ["k","row","deep"] by decide +kernel) rfl (Or.inl rfl))) (fun _ _ _ _=>(pe_tupPK (K:=K) rfl (@pa2 _ _ _ _ _ (pcl Il Ix (hr.mono (by lia)) rfl (@pa1 _ _ _ (pv 1) (by rfl))) (pcl Iq IG (hr.mono (by lia)) rfl (@pa2 _ _ _ _ _ (pv 1) (@pe_op _ _ _ _ _ _ _ _ bV (pv 2) pe_int) (by rfl) (by rfl))) (by rfl) (by rfl))))) (by rfl))) (by rfl) (by rfl))))))))),?_⟩;refine ⟨_,rfl,r,_,_,rfl,hr0,by decide,by decide,fun way n1 H1 d0 d1 B1 R1=>?_⟩;dsimp only [dC];have p4:100≤100*4 ^ n:=Nat.le_mul_of_pos_right _ (Nat.pow_pos (by decide));refine ⟨_,rfl,_,_,rfl,rfl,_,rfl,a8 (fun c1=>?_) fun c1=>⟨_,rfl,rfl,_,rfl,a8 (fun c2=>?_) fun c2=>?_⟩⟩
 ·dsimp only;rw [if_pos rfl];exact qk rfl rfl R1 fun d ws y c' H' B R hy vw hw=>q d ws y c' H' (B1.trans B) R hy vw (aAA hw p4)
 ·exact qk rfl rfl R1 fun d ws y c' H' B R hy vw hw=>q d ws y c' H' (B1.trans B) R hy vw (aAA hw p4)
 obtain ⟨m,rfl⟩:∃ m,n=m+1:=by
  cases n with
  | zero=>exact absurd rfl c2
  | succ m=>exact ⟨m,rfl⟩
 refine ⟨_,rfl,r,_,_,rfl,R1,by decide,by decide,fun many n2 H2 m0 m1 B2 R2=>?_⟩;dsimp only [dC];have B12:=B1.trans B2;have pw:100*4 ^ (m+1)=4*(100*4 ^ m):=by rw [Nat.pow_succ];lia
 have p1:1≤4 ^ m:=Nat.pow_pos (by decide);refine ⟨_,rfl,_,_,rfl,rfl,_,rfl,a8 (fun c3=>?_) fun c3=>?_⟩
 ·refine ⟨sz2,fun p hp=>⟨_,rfl,_,_,rfl,rfl,?_⟩⟩;have np:p≠r:=fun c=>by rw [c,R2] at hp;cases hp
  have c1':¬ way < 2:=c1;obtain ⟨v,hv,ev⟩:=kW (xs:=[V.str "list",V.str "rows"]) (d:=way - 2) (by lia) (by show way - 2 < 2;lia);obtain ⟨wd,rfl,hwd⟩:∃ wd,v=V.str wd∧(wd= "list" ∨wd= "rows"):=by
   rcases aAm.mp hv with rfl | hv
   ·exact ⟨_,rfl,.inl rfl⟩
   ·exact ⟨_,aAq.mp hv,.inr rfl⟩
  refine ⟨p,_,_,_,rfl,rfl,SqL.of aa,ev,?_⟩;have B3:=B12.trans (But.same (ag hp (.lst [V.str "list",V.str "rows"])));have R3:(upd H2 p (.lst [V.str "list",V.str "rows"])) r=some (.lst [.int n2]):=by rw [ac np.symm];exact R2
  revert B3 R3
  generalize upd H2 p (.lst [V.str "list",V.str "rows"])=H3
  intro B3 R3;refine ⟨_,rfl,_,rfl,by lia,by lia,fun l hln=>?_⟩;have nl:l≠r:=fun c=>by rw [c,R3] at hln;cases hln
  have lH:=gf nl B3 hln;refine bi (lo:=0) (n:=many.toNat) (fun j ys σ H'=>∃ (its:List (Dt×List Str)) (c':Int),But r H H'∧H' r=some (.lst [.int c'])∧H' l=some (.lst ys)∧IsPs K H' (its.map (·.1)) ys∧(∀ it∈its,VW m it.1 it.2∧aB it.2≤100*4 ^ m)∧its.length=j∧∃ v1,σ=[v1,some (.ref r),some (.int ((m+1:Nat):Int))])
   ⟨[],n2,bJ B3 lH,(by rw [ac nl.symm];exact R3),aa,.nil,(fun _ h=>nomatch h),rfl,none,rfl⟩ ?_ ?_
  ·rintro j ys σ H4 N hj ⟨its,c',b4,e4,f4,is4,hi4,hle,v1,rfl⟩ next;refine ⟨_,rfl,_,rfl,_,_,rfl,rfl,m,rfl,r,c',by rw [show ((m+1:Nat):Int) - 1=(m:Int) by lia];rfl,e4,fun d ws y c5 H5 B5 R5 hy vw hw=>?_⟩;have f5:=B5 _ _ nl f4;have l4:=is4.length;rw [aAa] at l4;refine ⟨f5,av (by lia),next _ _ _ ⟨its++[(d,ws)],c5,bJ (b4.trans B5) lH,(by rw [ac nl.symm];exact R5),aa,?_,fun it hit=>?_,(by rw [aAc,hle];rfl),_,rfl⟩⟩
   ·rw [aAt];exact ((is4.but e4 B5).append (.cons hy .nil)).but f5 But.put
   ·rcases aAG.mp hit with h | h
    ·exact hi4 it h
    ·rw [aAq.mp h];exact ⟨vw,hw⟩
  rintro ys σ H4 ⟨its,c',b4,e4,f4,is4,hi4,hle,v1,rfl⟩;refine ⟨l,ys,_,rfl,SqL.of f4,is4,fun v2 H5 g5 hv2=>⟨[.str wd,.tup (its.map (·.1))],.cons .str (.cons hv2 .nil),sz2,fun v3 H6 g6 hv3=>?_⟩⟩;have B6:=b4.trans (But.same (g5.trans g6));have R6:=g6 _ _ (g5 _ _ e4);have sw:=dz (wss:=its.map (·.2)) (b:=100*4 ^ m) fun y hy=>by
   obtain ⟨it,hit,rfl⟩:=aAl.mp hy;exact (hi4 it hit).2
  rw [aAa] at sw;have l3:its.length≤3:=by lia
  have sw':=aAA sw (Nat.mul_le_mul_right _ l3);rcases hwd with rfl | rfl
  ·exact q _ _ v3 _ H6 B6 R6 hv3 (.list (by lia) fun it h=>(hi4 it h).1) (by rw [lR,show (Str.ofString "[").length=1 from rfl,show (Str.ofString "]").length=1 from rfl];lia)
  ·exact q _ _ v3 _ H6 B6 R6 hv3 (.rows (by lia) fun it h=>(hi4 it h).1) (by rw [lR,show (Str.ofString "(").length=1 from rfl,show (Str.ofString ")").length=1 from rfl];lia)
 ·refine ⟨_,rfl,_,rfl,by lia,by lia,fun l hln=>?_⟩;have nl:l≠r:=fun c=>by rw [c,R2] at hln;cases hln
  have lH:=gf nl B12 hln;refine bi (lo:=0) (n:=many.toNat) (fun j ys σ H'=>∃ (gs:List G3) (c':Int),But r H H'∧H' r=some (.lst [.int c'])∧H' l=some (.lst ys)∧IsPs K H' (gs.map pr3) ys∧(∀ g∈gs,NmC g.1∧VW m g.2.1 g.2.2∧aB g.2.2≤100*4 ^ m)∧gs.length=j∧∃ v1,σ=[v1,some (.ref r),some (.int ((m+1:Nat):Int))])
   ⟨[],n2,bJ B12 lH,(by rw [ac nl.symm];exact R2),aa,.nil,(fun _ h=>nomatch h),rfl,none,rfl⟩ ?_ ?_
  ·rintro j ys σ H4 N hj ⟨gs,c',b4,e4,f4,is4,hi4,hle,v1,rfl⟩ next;refine ⟨_,rfl,r,c',rfl,e4,fun z c5 H5 B5 R5 nz=>⟨_,rfl,_,rfl,_,_,rfl,rfl,m,rfl,r,c5,by rw [show ((m+1:Nat):Int) - 1=(m:Int) by lia];rfl,R5,fun d ws y c6 H6 B6 R6 hy vw hw=>⟨[.str z,d],.cons .str (.cons hy .nil),sz2,fun v7 H7 g7 hv7=>?_⟩⟩⟩;have B7:=(B5.trans B6).trans (But.same g7);have f7:=B7 _ _ nl f4;have l4:=is4.length;rw [aAa] at l4;refine ⟨f7,av (by lia),next _ _ _ ⟨gs++[(z,d,ws)],c6,bJ (b4.trans B7) lH,(by rw [ac nl.symm];exact g7 _ _ R6),aa,?_,fun g hg=>?_,(by rw [aAc,hle];rfl),_,rfl⟩⟩
   ·rw [aAt];exact ((is4.but e4 B7).append (.cons hv7 .nil)).but f7 But.put
   ·rcases aAG.mp hg with h | h
    ·exact hi4 g h
    ·rw [aAq.mp h];exact ⟨nz,vw,hw⟩
  rintro ys σ H4 ⟨gs,c',b4,e4,f4,is4,hi4,hle,v1,rfl⟩;refine ⟨l,ys,_,rfl,SqL.of f4,is4,fun v2 H5 g5 hv2=>⟨[.str "record",.tup (gs.map pr3)],.cons .str (.cons hv2 .nil),sz2,fun v3 H6 g6 hv3=>?_⟩⟩;have sw:=dz (wss:=gs.map fw3) (b:=100*4 ^ m+15) fun y hy=>by
   obtain ⟨g,hg,rfl⟩:=aAl.mp hy;obtain ⟨h1,_,h2⟩:=hi4 g hg;have:=h1.2.2;rw [aY,aw,aw,ut.2.2.2,show aB []=0 from rfl];lia
  rw [aAa] at sw;have l3:gs.length≤3:=by lia
  have sw':=aAA sw (Nat.mul_le_mul_right _ l3);exact q _ _ v3 _ H6 (b4.trans (But.same (g5.trans g6))) (g6 _ _ (g5 _ _ e4)) hv3 (.rcd (by lia) (fun g h=>(hi4 g h).1) fun g h=>(hi4 g h).2.1) (by rw [lR,show (Str.ofString "{").length=1 from rfl,show (Str.ofString "}").length=1 from rfl];lia)
theorem wx (T:Tx K mg ad) {f:Addr} {fd:FuncData} (D:Gn K mg "_law_any_value" bg ["row","deep"] f fd):∀ n,n≤3→FnOk P w K mg base CX0 (n+5) f fd ["row","deep"] (sAV K n)
 | 0,h=>eV T 0 h D fun m h=>by cases h
 | n+1,h=>eV T (n+1) h D fun m e=>by cases e;exact wx T D n (by lia)
theorem TW.up {n:Nat} {d:Dt} {ws:List Str} (h:TW n d ws):TW (n+1) d ws:=by
 induction h with
 | nums n w js h1 h2 h3 h4=>exact .nums _ w js h1 h2 h3 h4
 | items _ ih=>exact .items ih
 | words n fo bk h1 h2 h3 h4 h5 h6=>exact .words _ fo bk h1 h2 h3 h4 h5 h6
abbrev twoL:List Str:=["bounds","number"]
abbrev sixL:List Str:=["scale","shrink","figures","cut","first","one"]
theorem Bh:∀ z∈twoL,NmC z∧¬ z= "words" ∧aK "turn" z=some [("number" : Str),"number"]:=by unfold NmC;decide +kernel
theorem Bi:∀ z∈sixL,NmC z∧¬ z= "words" ∧aK "turn" z=some [("number" : Str)]:=by unfold NmC;decide +kernel
theorem oE:NmC "out" ∧¬ (Str.ofString "out" = "words")∧aK "turn" "out" = some []:=by unfold NmC;decide +kernel
theorem ql {i:Int} (h:i.natAbs < 10 ^ 60):aB [aH i]≤64:=by
 have:=mX h;rw [aw,show aB []=0 from rfl];lia
theorem jA {js:List Int} (h:∀ i∈js,i.natAbs < 10 ^ 60) {w:Str} (hw:NmC w):aB (brW w (sepW (js.map fun i=>[aH i])))≤19+js.length*68:=by
 have sw:=dz (wss:=js.map fun i=>[aH i]) (b:=64) fun y hy=>by
  obtain ⟨i,hi,rfl⟩:=aAl.mp hy;exact ql (h i hi)
 rw [aAa] at sw;rw [bQ];have:=hw.2.2;lia
theorem HK {A B:Prop} {way:Int} (h1:way=0∨way=2→A) (h2:¬ (way=0∨way=2)→B):if inV (V.int way) [V.int 0,V.int 2]=true then A else B:=by
 have e:inV (V.int way) [V.int 0,V.int 2]=decide (way=0∨way=2):=by
  show ((0:Int) == way || ((2:Int) == way || false))=_;rw [oC,oC,aB1,Bool.decide_or]
 rw [e];exact a8 h1 h2
def sAT (K:W.Frag) (n:Nat):Sp:=fun vs H Q _=>∃ (r:Addr) (c:Int),vs=[.ref r,.int n]∧H r=some (.lst [.int c])∧∀ (d:Dt) (ws:List Str) (y:V) (c':Int) H',But r H H'→H' r=some (.lst [.int c'])→IsP K H' d y→TW (n+1) d ws→aB ws≤300*(n+1)→Q y H'
theorem fG (T:Tx K mg ad) (n:Nat) (hn:n≤3) {f:Addr} {fd:FuncData} (Ip:Gn K mg "_law_any_turn" bt ["row","deep"] f fd) (G:∀ m,n=m+1→FnOk P w K mg base CX0 (m+5) f fd ["row","deep"] (sAT K m)):FnOk P w K mg base CX0 (n+5) f fd ["row","deep"] (sAT K n):=by
 obtain ⟨f1,d1,HM⟩:=T.law_digit;have HN:=(aE (P:=P) (w:=w) (base:=base) T HM).imp lQ;obtain ⟨f2,d2,HW⟩:=T.law_any_number;have Ig:=cw (P:=P) (w:=w) (base:=base) T HW;obtain ⟨f3,d3,Il⟩:=T.law_word;have Ix:=gh (P:=P) (w:=w) (base:=base) T Il;have IQ:FnOk P w K mg base CX0 (n+4) f fd ["row","deep"] (fun vs H Q E=>∃ m,n=m+1∧sAT K m vs H Q E):=by
  cases n with
  | zero=>exact fn_none fun _ _ _ _ h=>by obtain ⟨m,h,_⟩:=h;cases h
  | succ m=>exact (G m rfl).imp fun vs H Q E h=>by obtain ⟨m',e,h⟩:=h;cases e;exact h
 refine Ip.F.ok de (fun vs H Q E h=>?_) (fun cdv A outer s H vs Q E hr h=>?_)
 ·obtain ⟨r,c,rfl,_⟩:=h
  rfl
 obtain ⟨r,c,rfl,hr0,q⟩:=h;refine ⟨_,(@pss_cons _ _ _ _ _ (@ps_set _ _ 2 _ _ _ _ de.nd rfl (Or.inl rfl) (pcl HM HN (hr.mono (by lia)) rfl (@pa2 _ _ _ _ _ (pv 0) pe_int (by rfl) (by rfl))) (by rfl) (.inl rfl)) (@pss_cons _ _ _ _ _ (@ps_if _ _ _ _ _ _ _ _ (PW.pt (@pw_and _ _ _ _ _ _ _ (pt_cmpR op_eq (pv 2) pe_int (nomark _)) (@pw_and1 _ _ _ _ (pt_cmpR mo (pv 1) pe_int (nomark _))))) (@pss_one _ _ _ (@ps_ret _ _ _ _ (@pe_tupPK _ K _ _ _ _ rfl (@pa2 _ _ _ _ _ pe_str (pcl Ip IQ (hr.mono (by lia)) rfl (@pa2 _ _ _ _ _ (pv 0) (@pe_op _ _ _ _ _ _ _ _ bV (pv 1) pe_int) (by rfl) (by rfl))) (by rfl) (by rfl))))) pss_nil) (@pss_cons _ _ _ _ _ (@ps_if _ _ _ _ _ _ _ _ (pt_cmpR op_eq (pv 2) pe_int (nomark _)) (@pss_cons _ _ _ _ _ (@ps_set _ _ 3 _ _ _ _ de.nd rfl (Or.inl rfl) (pe_callTy (aZ (K:=K) rfl) rfl T.z_tuple boot_tuple (@pa1 _ _ _ (pe_comp rfl (csR (sc:=ae bt) (NL:=["k"]) (N:=["row","deep","way","forth"]) (ρ:=[0]) (N':=["k","row"]) rfl rfl rfl (by decide +kernel) (by decide +kernel) (by decide +kernel) rfl (by decide +kernel)) (bf rfl T.z_range (@pa1 _ _ _ (@pe_op _ _ _ _ _ _ _ _ aS pe_int (pcl HM HN (hr.mono (by lia)) rfl (@pa2 _ _ _ _ _ (pv 0) pe_int (by rfl) (by rfl)))) (by rfl))) (fun _ _ _ _=>(ai (i:=0) (show List.Nodup (α:=Str) ["k","row"] by decide +kernel) rfl (Or.inl rfl))) (fun _ _ _ _=>(pcl Il Ix (hr.mono (by lia)) rfl (@pa1 _ _ _ (pv 1) (by rfl))))) (by rfl))) (by rfl) (.inl rfl)) (@pss_one _ _ _ (@ps_ret _ _ _ _ (@pe_tupPK _ K _ _ _ _ rfl (@pa3 _ _ _ _ _ _ _ pe_str (pv 3) (pe_callTy (aZ (K:=K) rfl) rfl T.z_tuple boot_tuple (@pa1 _ _ _ (pe_comp rfl (csR (sc:=ae bt) (NL:=["k"]) (N:=["row","deep","way","forth"]) (ρ:=[0]) (N':=["k","row"]) rfl rfl rfl (by decide +kernel) (by decide +kernel) (by decide +kernel) rfl (by decide +kernel)) (bf rfl T.z_range (@pa1 _ _ _ (@pe_op _ _ _ _ _ _ _ _ aS pe_int (pcl HM HN (hr.mono (by lia)) rfl (@pa2 _ _ _ _ _ (pv 0) pe_int (by rfl) (by rfl)))) (by rfl))) (fun _ _ _ _=>(ai (i:=0) (show List.Nodup (α:=Str) ["k","row"] by decide +kernel) rfl (Or.inl rfl))) (fun _ _ _ _=>(pe_tupPK (K:=K) rfl (@pa2 _ _ _ _ _ (pcl Il Ix (hr.mono (by lia)) rfl (@pa1 _ _ _ (pv 1) (by rfl))) (pcl Il Ix (hr.mono (by lia)) rfl (@pa1 _ _ _ (pv 1) (by rfl))) (by rfl) (by rfl))))) (by rfl))) (by rfl) (by rfl) (by rfl)))))) pss_nil) (@pss_cons _ _ _ _ _ (@ps_if _ _ _ _ _ _ _ _ (pt_cmpR (e7 (K:=K) rfl) (pv 2) (@pe_lst _ _ _ _ (@pa2 _ _ _ _ _ pe_int pe_int (by rfl) (by rfl))) rfl) (@pss_one _ _ _ (@ps_ret _ _ _ _ (@pe_tupPK _ K _ _ _ _ rfl (@pa1 _ _ _ pe_str (by rfl))))) pss_nil) (@pss_cons _ _ _ _ _ (@ps_if _ _ _ _ _ _ _ _ (pt_cmpR fz (pv 2) pe_int (nomark _)) (@pss_one _ _ _ (@ps_ret _ _ _ _ (@pe_tupPK _ K _ _ _ _ rfl (@pa3 _ _ _ _ _ _ _ (@pe_ix _ _ _ _ _ _ _ (aD (K:=K) rfl) (@pe_lst _ _ _ _ (@pa2 _ _ _ _ _ pe_str pe_str (by rfl) (by rfl))) (@pe_op _ _ _ _ _ _ _ _ bV (pv 2) pe_int) (fun _ _=>rfl)) (pcl HW Ig (hr.mono (by lia)) rfl (@pa1 _ _ _ (pv 0) (by rfl))) (pcl HW Ig (hr.mono (by lia)) rfl (@pa1 _ _ _ (pv 0) (by rfl))) (by rfl) (by rfl) (by rfl))))) pss_nil) (@pss_one _ _ _ (@ps_ret _ _ _ _ (@pe_tupPK _ K _ _ _ _ rfl (@pa2 _ _ _ _ _ (@pe_ix _ _ _ _ _ _ _ (aD (K:=K) rfl) (@pe_lst _ _ _ _ (@aq _ _ _ _ _ pe_str (@aq _ _ _ _ _ pe_str (@aq _ _ _ _ _ pe_str (@pa3 _ _ _ _ _ _ _ pe_str pe_str pe_str (by rfl) (by rfl) (by rfl)) (by rfl)) (by rfl)) (by rfl))) (@pe_op _ _ _ _ _ _ _ _ dD (@pe_op _ _ _ _ _ _ _ _ aS (pv 2) (pv 1)) pe_int) (fun _ _=>rfl)) (pcl HW Ig (hr.mono (by lia)) rfl (@pa1 _ _ _ (pv 0) (by rfl))) (by rfl) (by rfl)))))))))),?_⟩;refine ⟨_,rfl,r,_,_,rfl,hr0,by decide,by decide,fun way n1 H1 d0 d1 B1 R1=>?_⟩;dsimp only [dC];refine ge fun k hk=>?_;have rest:k [some (.ref r),some (.int (n:Int)),some (.int way),none] H1:=by
  refine hk _ _ ⟨_,rfl,rfl,_,rfl,a8 (fun c1=>?_) fun c1=>?_⟩
  ·refine ⟨_,rfl,r,_,_,rfl,R1,by decide,by decide,fun m1 n2 H2 g0 g1 B2 R2=>⟨_,_,rfl,rfl,_,rfl,by lia,by lia,fun l hln=>?_⟩⟩;have nl:l≠r:=fun c=>by rw [c,R2] at hln;cases hln
   have lH:=gf nl (B1.trans B2) hln;refine bi (lo:=0) (n:=(1+m1).toNat) (fun j ys σ H'=>∃ (zs:List Str) (c':Int),But r H H'∧H' r=some (.lst [.int c'])∧H' l=some (.lst ys)∧ys=zs.map V.str∧(∀ z∈zs,NmC z)∧zs.length=j∧∃ v1,σ=[v1,some (.ref r)])
    ⟨[],n2,bJ (B1.trans B2) lH,(by rw [ac nl.symm];exact R2),aa,rfl,(fun _ h=>nomatch h),rfl,none,rfl⟩ ?_ ?_
   ·rintro j ys σ H3 N hj ⟨zs,c',b3,e3,f3,rfl,hz,hle,v1,rfl⟩ next;refine ⟨_,rfl,r,c',rfl,e3,fun z c4 H4 B4 R4 nz=>?_⟩;refine ⟨B4 _ _ nl f3,(by rw [aAa];exact av (by lia)),next _ _ _ ⟨zs++[z],c4,bJ (b3.trans B4) lH,(by rw [ac nl.symm];exact R4),aa,(by rw [aAt];rfl),fun z' hz'=>?_,(by rw [aAc,hle];rfl),_,rfl⟩⟩;rcases aAG.mp hz' with h | h
    ·exact hz z' h
    ·rw [aAq.mp h];exact nz
   rintro ys σ H3 ⟨fo,c3,b3,e3,f3,rfl,hfo,hle,v1,rfl⟩;refine ⟨l,_,fo.map Dt.str,rfl,SqL.of f3,kh fo,fun vf H4 g4 hvf=>?_⟩;have B4:=b3.trans (But.same g4);have R4:=g4 _ _ e3;dsimp only [dC];refine ⟨_,rfl,_,rfl,r,_,_,rfl,R4,by decide,by decide,fun m2 n5 H5 h0 h1 B5 R5=>⟨_,_,rfl,rfl,_,rfl,by lia,by lia,fun l2 hl2=>?_⟩⟩;have nl2:l2≠r:=fun c=>by rw [c,R5] at hl2;cases hl2
   have lH2:=gf nl2 (B4.trans B5) hl2;have vf5:=hvf.but R4 B5;refine bi (lo:=0) (n:=(1+m2).toNat) (fun j ys σ H'=>∃ (ps:List (Str×Str)) (c':Int),But r H5 H'∧H' r=some (.lst [.int c'])∧H' l2=some (.lst ys)∧IsPs K H' (ps.map wyD) ys∧(∀ p∈ps,NmC p.1∧NmC p.2)∧ps.length=j∧∃ v1,σ=[v1,some (.ref r)])
    ⟨[],n5,But.same (ag hl2 _),(by rw [ac nl2.symm];exact R5),aa,.nil,(fun _ h=>nomatch h),rfl,none,rfl⟩ ?_ ?_
   ·rintro j ys σ H6 N hj ⟨ps,c',b6,e6,f6,is6,hp6,hle6,v1,rfl⟩ next;refine ⟨_,rfl,r,c',rfl,e6,fun z1 c7 H7 B7 R7 nz1=>⟨_,rfl,r,c7,rfl,R7,fun z2 c8 H8 B8 R8 nz2=>⟨[.str z1,.str z2],.cons .str (.cons .str .nil),sz2,fun v9 H9 g9 hv9=>?_⟩⟩⟩;have B9:=(B7.trans B8).trans (But.same g9);have f9:=B9 _ _ nl2 f6;have l6:=is6.length;rw [aAa] at l6;refine ⟨f9,av (by lia),next _ _ _ ⟨ps++[(z1,z2)],c8,bJ (b6.trans B9) hl2,(by rw [ac nl2.symm];exact g9 _ _ R8),aa,?_,fun p hp=>?_,(by rw [aAc,hle6];rfl),_,rfl⟩⟩
    ·rw [aAt];exact ((is6.but e6 B9).append (.cons hv9 .nil)).but f9 But.put
    ·rcases aAG.mp hp with h | h
     ·exact hp6 p h
     ·rw [aAq.mp h];exact ⟨nz1,nz2⟩
   rintro ys σ H6 ⟨bk,c6,b6,e6,f6,is6,hp6,hle6,v1,rfl⟩;refine ⟨l2,ys,_,rfl,SqL.of f6,is6,fun vb H7 g7 hvb=>⟨[.str "words",.tup (fo.map Dt.str),.tup (bk.map wyD)],.cons .str (.cons ((vf5.but R5 b6).same g7) (.cons hvb .nil)),sz3,fun v8 H8 g8 hv8=>?_⟩⟩;refine q _ _ v8 _ H8 (((B4.trans B5).trans b6).trans (But.same (g7.trans g8))) (g8 _ _ (g7 _ _ e6)) hv8 (.words n fo bk (fun c=>by rw [c] at hle;simp at hle;lia) (fun c=>by rw [c] at hle6;simp at hle6;lia) (by lia) (by lia) hfo hp6) ?_;have s1:=dz (wss:=fo.map fun z=>[z]) (b:=11) fun y hy=>by
    obtain ⟨z,hz,rfl⟩:=aAl.mp hy;have:=(hfo z hz).2.2;rw [aw,show aB []=0 from rfl];lia
   have s2:=dz (wss:=bk.map wyW) (b:=26) fun y hy=>by
    obtain ⟨p,hp,rfl⟩:=aAl.mp hy;have h1:=(hp6 p hp).1.2.2;have h2:=(hp6 p hp).2.2.2;rw [aw,aw,aw,ut.2.2.2,show aB []=0 from rfl];lia
   rw [aAa] at s1 s2;rw [bQ,aY,aY,aw,show (Str.ofString ";").length=1 from rfl,show (Str.ofString "words").length=5 from rfl,show aB []=0 from rfl];lia
  refine ⟨_,rfl,sz2,fun p hp=>⟨p,_,rfl,.inl (SqL.of aa),rfl,rfl,_,rfl,?_⟩⟩;have np:p≠r:=fun c=>by rw [c,R1] at hp;cases hp
  have B2:=B1.trans (But.same (ag hp (.lst [V.int 0,V.int 2])));have R2:(upd H1 p (.lst [V.int 0,V.int 2])) r=some (.lst [.int n1]):=by rw [ac np.symm];exact R1
  revert B2 R2
  show But r H (upd H1 p (.lst [V.int 0,V.int 2]))→_→if inV (V.int way) [V.int 0,V.int 2]=true then _ else _
  generalize upd H1 p (.lst [V.int 0,V.int 2])=H2
  intro B2 R2;refine HK (fun c2=>?_) fun c2=>?_
  ·refine ⟨[.str "out"],.cons .str .nil,sz1,fun v8 H8 g8 hv8=>q _ _ v8 _ H8 (B2.trans (But.same g8)) (g8 _ _ R2) hv8 (.nums n "out" [] oE.1 oE.2.1 oE.2.2 fun _ h=>nomatch h) (aAA (jA (js:=[]) (fun _ h=>nomatch h) oE.1) (by simp;lia))⟩
  refine ⟨_,rfl,_,_,rfl,rfl,_,rfl,a8 (fun c3=>?_) fun c3=>?_⟩
  ·refine ⟨sz2,fun p hp=>⟨_,rfl,_,_,rfl,rfl,?_⟩⟩;have np:p≠r:=fun c=>by rw [c,R2] at hp;cases hp
   have c1':¬ way=1:=fun c=>c1 (congrArg V.int c);obtain ⟨v,hv,ev⟩:=kW (xs:=twoL.map V.str) (d:=way - 3) (by lia) (by show way - 3 < 2;lia);obtain ⟨wd,hwd,rfl⟩:=aAl.mp hv;obtain ⟨k1,k2,k3⟩:=Bh wd hwd;refine ⟨p,_,_,_,rfl,rfl,SqL.of aa,ev,?_⟩;refine ⟨_,rfl,r,n1,rfl,(by rw [ac np.symm];exact R2),fun i c4 H4 B4 R4 hi=>⟨_,rfl,r,c4,rfl,R4,fun j c5 H5 B5 R5 hj=>⟨[.str wd,.int i,.int j],.cons .str (.cons .int (.cons .int .nil)),sz3,fun v8 H8 g8 hv8=>?_⟩⟩⟩;have hjs:∀ x∈[i,j],x.natAbs < 10 ^ 60:=fun x hx=>by
    rcases aAm.mp hx with rfl | hx
    ·exact hi
    ·rw [aAq.mp hx];exact hj
   exact q _ _ v8 _ H8 ((((B2.trans (But.same (ag hp _))).trans B4).trans B5).trans (But.same g8)) (g8 _ _ R5) hv8 (.nums n wd [i,j] k1 k2 k3 hjs) (aAA (jA hjs k1) (by simp only [aAb,aAn];lia))
  ·refine ⟨(by show 6≤sizeLine;decide),fun p hp=>⟨_,rfl,_,rfl,_,_,rfl,rfl,_,_,rfl,rfl,by decide,?_⟩⟩;have np:p≠r:=fun c=>by rw [c,R2] at hp;cases hp
   obtain ⟨w0,w1⟩:=mod_lt (way+(n:Int)) (m:=6) (by decide);obtain ⟨v,hv,ev⟩:=kW (xs:=sixL.map V.str) w0 w1;obtain ⟨wd,hwd,rfl⟩:=aAl.mp hv;obtain ⟨k1,k2,k3⟩:=Bi wd hwd;refine ⟨p,_,_,_,rfl,rfl,SqL.of aa,ev,?_⟩;refine ⟨_,rfl,r,n1,rfl,(by rw [ac np.symm];exact R2),fun i c4 H4 B4 R4 hi=>⟨[.str wd,.int i],.cons .str (.cons .int .nil),sz2,fun v8 H8 g8 hv8=>?_⟩⟩;have hjs:∀ x∈[i],x.natAbs < 10 ^ 60:=fun x hx=>by rw [aAq.mp hx];exact hi
   exact q _ _ v8 _ H8 (((B2.trans (But.same (ag hp _))).trans B4).trans (But.same g8)) (g8 _ _ R4) hv8 (.nums n wd [i] k1 k2 k3 hjs) (aAA (jA hjs k1) (by simp only [aAb,aAn];lia))
 refine ⟨_,rfl,rfl,_,rfl,a8 (fun c1=>⟨_,rfl,_,_,rfl,rfl,_,rfl,a8 (fun c2=>?_) fun c2=>rest⟩) fun c1=>?_⟩
 ·obtain ⟨m,rfl⟩:∃ m,n=m+1:=⟨n - 1,by lia⟩;refine ⟨_,rfl,_,rfl,_,_,rfl,rfl,m,rfl,r,n1,by rw [show ((m+1:Nat):Int) - 1=(m:Int) by lia];rfl,R1,fun d ws y c' H' B R hy tw hw=>⟨[.str "items",d],.cons .str (.cons hy .nil),sz2,fun v8 H8 g8 hv8=>?_⟩⟩;refine q _ _ v8 _ H8 ((B1.trans B).trans (But.same g8)) (g8 _ _ R) hv8 (.items tw) ?_;rw [bQ,show (Str.ofString "items").length=5 from rfl];show 5+11+aB ws≤_;lia
 ·dsimp only;rw [if_neg (by decide)];exact rest
theorem rC (T:Tx K mg ad) {f:Addr} {fd:FuncData} (D:Gn K mg "_law_any_turn" bt ["row","deep"] f fd):∀ n,n≤3→FnOk P w K mg base CX0 (n+5) f fd ["row","deep"] (sAT K n)
 | 0,h=>fG T 0 h D fun m h=>by cases h
 | n+1,h=>fG T (n+1) h D fun m e=>by cases e;exact rC T D n (by lia)
theorem Bj {k N:Nat} {f:Addr} {fd:FuncData} {ps:List Str} {sp:Nat→Sp} (h:∀ n,n≤N→FnOk P w K mg base CX0 k f fd ps (sp n)):FnOk P w K mg base CX0 k f fd ps (fun vs H Q E=>∃ n,n≤N∧sp n vs H Q E) :=
 ⟨fun vs H Q E ⟨n,hn,z⟩=>(h n hn).len vs H Q E z,fun A outer s H args us vs Q E hr e0 hb r ⟨n,hn,z⟩=>(h n hn).run A outer s H args us vs Q E hr e0 hb r z⟩
inductive PL (b:Nat):List Str→List (Dt×List Str)→Prop
 | nil:PL b [] []
 | cons {s:Str} {d:Dt} {w:List Str} {fs:List Str} {its:List (Dt×List Str)}:PartW 5 s d w→aB w≤b→PL b fs its→PL b (s :: fs) ((d,w) :: its)
theorem PL.all {b:Nat} {fs:List Str} {its:List (Dt×List Str)} (h:PL b fs its):its.length=fs.length∧(∀ x∈fs.zip its,PartW 5 x.1 x.2.1 x.2.2)∧∀ y∈its.map (·.2),aB y≤b:=by
 induction h with
 | nil=>exact ⟨rfl,(fun _ h=>nomatch h),fun _ h=>nomatch h⟩
 | cons h1 h2 _ ih =>
  obtain ⟨i1,i2,i3⟩:=ih;refine ⟨by rw [aAb,aAb,i1],fun x hx=>?_,fun y hy=>?_⟩
  ·rw [aBc] at hx;rcases aAm.mp hx with rfl | hx
   ·exact h1
   ·exact i2 x hx
  ·rw [aAo] at hy;rcases aAm.mp hy with rfl | hy
   ·exact h2
   ·exact i3 y hy
theorem Hd:∀ p∈pieceF,NmC p.1∧aK "piece" p.1=some p.2:=by unfold NmC;decide +kernel
theorem PL.pw {b:Nat} {wd:Str} {fs:List Str} {its:List (Dt×List Str)} (hm:(wd,fs)∈pieceF) (hb:fs.length*(b+4)≤39900) (h:PL b fs its):PW (.tup (.str wd :: its.map (·.1))) (brW wd (sepW (its.map (·.2))))∧aB (brW wd (sepW (its.map (·.2))))≤40000∧its.length≤6:=by
 obtain ⟨n1,n2⟩:=Hd _ hm;obtain ⟨i1,i2,i3⟩:=h.all;have l6:=(rB _ hm).1;have sw:=dz i3;rw [aAa] at sw;rw [i1] at sw;have:=n1.2.2;refine ⟨⟨wd,fs,its,n1,n2,i1,i2,rfl,rfl⟩,?_,by dsimp only at l6;lia⟩;rw [bQ];dsimp only at this;lia
theorem oF {z:Str} (h:NmC z):aB [z]≤6500:=by
 have:=h.2.2;rw [aw,show aB []=0 from rfl];lia
theorem oG {i:Int} (h:i.natAbs < 10 ^ 60):aB [aH i]≤6500:=aAA (ql h) (by decide)
theorem qm {z:Str} (h:z.length≤60):aB [quo z]≤6500:=by
 have q1:(quo z).length=z.length+2:=by
  unfold quo;rw [aAd,aAd,show (Str.ofString "\"").length=1 from rfl];lia
 rw [aw,q1,show aB []=0 from rfl];lia
abbrev nslL:List Str:=["name","sink","lift"]
theorem Bk:∀ z∈nslL,(z,[("word" : Str),"word"])∈pieceF:=by decide +kernel
inductive I_sp_law_any_piece (K:W.Frag) (vs:List V) (H:Hp) (Q:VK):Prop
 | mk (r:Addr) (c:Int):(vs=[.ref r])→(H r=some (.lst [.int c]))→(∀ (d:Dt) (ws:List Str) (y:V) (c':Int) H',But r H H'→H' r=some (.lst [.int c'])→IsP K H' d y→PW d ws→aB ws≤40000→Q y H')→I_sp_law_any_piece K vs H Q
def jB (K:W.Frag) (_:Ads):Sp:=fun vs H Q _=>I_sp_law_any_piece K vs H Q
theorem jC (T:Tx K mg ad) {f:Addr} {fd:FuncData} (F:Gn K mg "_law_any_piece" cZ ["row"] f fd):FnOk P w K mg base CX0 19 f fd ["row"] (jB K ad):=by
 obtain ⟨f1,d1,HM⟩:=T.law_digit;have HN:=(aE (P:=P) (w:=w) (base:=base) T HM).imp lQ;obtain ⟨f2,d2,HW⟩:=T.law_any_number;have Ig:=cw (P:=P) (w:=w) (base:=base) T HW;obtain ⟨f3,d3,Il⟩:=T.law_word;have Ix:=gh (P:=P) (w:=w) (base:=base) T Il;obtain ⟨f4,d4,IT⟩:=T.law_text;have Jk:=jQ (P:=P) (w:=w) (base:=base) T IT;obtain ⟨f5,d5,Iw⟩:=T.law_kind;obtain ⟨e1,e2,D1⟩:=T.law_record_kind;obtain ⟨e3,e4,D2⟩:=T.law_rows_kind;have IR:=mM (P:=P) (w:=w) (base:=base) T Iw D1 D2 4;obtain ⟨f6,d6,Iq⟩:=T.law_any_value;have IG:=Bj fun n hn=>(wx (P:=P) (w:=w) (base:=base) T Iq n hn).mono (k:=8) (by lia);obtain ⟨f7,d7,Ip⟩:=T.law_any_turn;have IQ:=rC (P:=P) (w:=w) (base:=base) T Ip 3 (by decide);refine F.F.ok a9 (fun vs H Q E h=>?_) (fun cdv A outer s H vs Q E hr h=>?_)
 ·obtain ⟨r,c,rfl,_⟩:=h
  rfl
 obtain ⟨r,c,rfl,hr0,q⟩:=h;refine ⟨_,(@pss_cons _ _ _ _ _ (@ps_set _ _ 1 _ _ _ _ a9.nd rfl (Or.inl rfl) (pcl HM HN (hr.mono (by lia)) rfl (@pa2 _ _ _ _ _ (pv 0) pe_int (by rfl) (by rfl))) (by rfl) (.inl rfl)) (@pss_cons _ _ _ _ _ (m5 (@pe_tupPK _ K _ _ _ _ rfl (@aq _ _ _ _ _ (pcl Il Ix (hr.mono (by lia)) rfl (@pa1 _ _ _ (pv 0) (by rfl))) (@pa3 _ _ _ _ _ _ _ (pcl Il Ix (hr.mono (by lia)) rfl (@pa1 _ _ _ (pv 0) (by rfl))) (pcl Il Ix (hr.mono (by lia)) rfl (@pa1 _ _ _ (pv 0) (by rfl))) (pcl HW Ig (hr.mono (by lia)) rfl (@pa1 _ _ _ (pv 0) (by rfl))) (by rfl) (by rfl) (by rfl)) (by rfl))) (ja rfl (aG (ai (i:=2) a9.nd rfl (Or.inl rfl)) (aG (ai (i:=3) a9.nd rfl (Or.inl rfl)) (aG (ai (i:=4) a9.nd rfl (Or.inl rfl)) (aG (ai (i:=5) a9.nd rfl (Or.inl rfl)) di)))))) (@pss_cons _ _ _ _ _ (@ps_if _ _ _ _ _ _ _ _ (pt_cmpR op_eq (pv 1) pe_int (nomark _)) (@pss_one _ _ _ (@ps_ret _ _ _ _ (@pe_tupPK _ K _ _ _ _ rfl (@aq _ _ _ _ _ pe_str (@pa3 _ _ _ _ _ _ _ (pv 2) (pcl Iw IR (hr.mono (by lia)) rfl (@pa3 _ _ _ _ _ _ _ (pv 0) pe_int (@pe_lst _ _ _ _ (@pa1 _ _ _ pe_int (by rfl))) (by rfl) (by rfl) (by rfl))) (pcl Iq IG (hr.mono (by lia)) rfl (@pa2 _ _ _ _ _ (pv 0) pe_int (by rfl) (by rfl))) (by rfl) (by rfl) (by rfl)) (by rfl))))) pss_nil) (@pss_cons _ _ _ _ _ (@ps_if _ _ _ _ _ _ _ _ (pt_cmpR op_eq (pv 1) pe_int (nomark _)) (@pss_one _ _ _ (@ps_ret _ _ _ _ (@pe_tupPK _ K _ _ _ _ rfl (@pa3 _ _ _ _ _ _ _ pe_str (pv 2) (pcl Iq IG (hr.mono (by lia)) rfl (@pa2 _ _ _ _ _ (pv 0) pe_int (by rfl) (by rfl))) (by rfl) (by rfl) (by rfl))))) pss_nil) (@pss_cons _ _ _ _ _ (@ps_if _ _ _ _ _ _ _ _ (pt_cmpR fz (pv 1) pe_int (nomark _)) (@pss_one _ _ _ (@ps_ret _ _ _ _ (@pe_tupPK _ K _ _ _ _ rfl (@pa3 _ _ _ _ _ _ _ (@pe_ix _ _ _ _ _ _ _ (aD (K:=K) rfl) (@pe_lst _ _ _ _ (@pa3 _ _ _ _ _ _ _ pe_str pe_str pe_str (by rfl) (by rfl) (by rfl))) (@pe_op _ _ _ _ _ _ _ _ bV (pv 1) pe_int) (fun _ _=>rfl)) (pv 2) (pv 3) (by rfl) (by rfl) (by rfl))))) pss_nil) (@pss_cons _ _ _ _ _ (@ps_if _ _ _ _ _ _ _ _ (pt_cmpR op_eq (pv 1) pe_int (nomark _)) (@pss_one _ _ _ (@ps_ret _ _ _ _ (@pe_tupPK _ K _ _ _ _ rfl (@pa3 _ _ _ _ _ _ _ pe_str (pv 2) (pcl Ip IQ (hr.mono (by lia)) rfl (@pa2 _ _ _ _ _ (pv 0) pe_int (by rfl) (by rfl))) (by rfl) (by rfl) (by rfl))))) pss_nil) (@pss_cons _ _ _ _ _ (@ps_if _ _ _ _ _ _ _ _ (pt_cmpR op_eq (pv 1) pe_int (nomark _)) (@pss_one _ _ _ (@ps_ret _ _ _ _ (@pe_tupPK _ K _ _ _ _ rfl (@aq _ _ _ _ _ pe_str (@aq _ _ _ _ _ (pv 2) (@pa3 _ _ _ _ _ _ _ (pcl IT Jk (hr.mono (by lia)) rfl (@pa2 _ _ _ _ _ (pv 0) pe_int (by rfl) (by rfl))) (pv 3) (pv 4) (by rfl) (by rfl) (by rfl)) (by rfl)) (by rfl))))) pss_nil) (@pss_cons _ _ _ _ _ (@ps_if _ _ _ _ _ _ _ _ (pt_cmpR op_eq (pv 1) pe_int (nomark _)) (@pss_one _ _ _ (@ps_ret _ _ _ _ (@pe_tupPK _ K _ _ _ _ rfl (@aq _ _ _ _ _ pe_str (@aq _ _ _ _ _ (pv 2) (@pa3 _ _ _ _ _ _ _ (pv 3) (pcl IT Jk (hr.mono (by lia)) rfl (@pa2 _ _ _ _ _ (pv 0) pe_int (by rfl) (by rfl))) (pv 4) (by rfl) (by rfl) (by rfl)) (by rfl)) (by rfl))))) pss_nil) (@pss_cons _ _ _ _ _ (@ps_if _ _ _ _ _ _ _ _ (pt_cmpR op_eq (pv 1) pe_int (nomark _)) (@pss_one _ _ _ (@ps_ret _ _ _ _ (@pe_tupPK _ K _ _ _ _ rfl (@aq _ _ _ _ _ pe_str (@aq _ _ _ _ _ (pv 2) (@pa3 _ _ _ _ _ _ _ (pv 5) (pv 3) (pv 4) (by rfl) (by rfl) (by rfl)) (by rfl)) (by rfl))))) pss_nil) (@pss_one _ _ _ (@ps_ret _ _ _ _ (@pe_tupPK _ K _ _ _ _ rfl (@aq _ _ _ _ _ pe_str (@aq _ _ _ _ _ (pv 2) (@aq _ _ _ _ _ (pv 3) (@aq _ _ _ _ _ (pv 5) (@pa3 _ _ _ _ _ _ _ (pv 4) (pcl HW Ig (hr.mono (by lia)) rfl (@pa1 _ _ _ (pv 0) (by rfl))) (pcl HW Ig (hr.mono (by lia)) rfl (@pa1 _ _ _ (pv 0) (by rfl))) (by rfl) (by rfl) (by rfl)) (by rfl)) (by rfl)) (by rfl)) (by rfl)))))))))))))),?_⟩;refine ⟨_,rfl,r,_,_,rfl,hr0,by decide,by decide,fun way n1 H1 d0 d1 B1 R1=>?_⟩;dsimp only [dC];refine ⟨_,rfl,r,n1,rfl,R1,fun z1 c2 H2 B2 R2 k1=>⟨_,rfl,r,c2,rfl,R2,fun z2 c3 H3 B3 R3 k2=>⟨_,rfl,r,c3,rfl,R3,fun z3 c4 H4 B4 R4 k3=>⟨_,rfl,r,c4,rfl,R4,fun i c5 H5 B5 R5 hi=>⟨[.str z1,.str z2,.str z3,.int i],.cons .str (.cons .str (.cons .str (.cons .int .nil))),(by show 4≤sizeLine;decide),fun vt H6 g6 hvt=>?_⟩⟩⟩⟩⟩;obtain ⟨b,xs,rfl,hb,_,rb⟩:=hvt.unref;obtain rfl:xs=[.str z1,.str z2,.str z3,.int i]:=by
  cases rb with | cons h1 rb=>cases rb with | cons h2 rb=>cases rb with | cons h3 rb=>cases rb with | cons h4 rb=>cases rb;cases h1;cases h2;cases h3;cases h4;rfl
 have B6:But r H H6:=((((B1.trans B2).trans B3).trans B4).trans B5).trans (But.same g6);have R6:=g6 _ _ R5;have w1:=oF k1;have w2:=oF k2;have w3:=oF k3;have w4:=oG hi;refine ⟨b,_,rfl,hb,rfl,_,_,rfl,_,_,rfl,_,_,rfl,_,_,rfl,rfl,?_⟩;have fin:∀ {b:Nat} {wd:Str} {fs:List Str} {its:List (Dt×List Str)} {xs:List V} {c':Int} {H':Hp},(wd,fs)∈pieceF→fs.length*(b+4)≤39900→PL b fs its→But r H H'→H' r=some (.lst [.int c'])→IsPs K H' (.str wd :: its.map (·.1)) xs→ITup K xs H' Q:=fun {b wd fs its xs c' H'} hm hb pl B R is=>by
  obtain ⟨h1,h2,h3⟩:=pl.pw hm hb;have lx:=is.length;rw [aAb,aAa] at lx;exact ⟨_,is,bR (by lia),fun v8 H8 g8 hv8=>q _ _ v8 _ H8 (B.trans (But.same g8)) (g8 _ _ R) hv8 h1 h2⟩
 refine ⟨_,rfl,rfl,_,rfl,a8 (fun c=>?_) fun e0=>?_⟩
 ·refine ⟨_,rfl,_,rfl,sz1,fun p hp=>?_⟩;have nrp:r≠p:=ah R6 hp;refine ⟨r,p,c5,25,4,by decide,by decide,rfl,nrp,by rw [ac nrp];exact R6,aa,fun v d ka kc n4 x4 H7 b7 r7 p7 hv fk hka hkc=>?_⟩;have B7:But r H6 H7:=fun x o n e=>b7 x o n (ah e hp) (ag hp _ x o e);have bk:bud 25=5:=by decide
  obtain ⟨ws,kw,hw⟩:=fk.kw 5 (by lia);refine ⟨_,rfl,2,by decide,r,n4,rfl,r7,fun d2 ws2 y2 c9 H9 B9 R9 hy2 vw2 hw2=>?_⟩;exact fin (by decide +kernel:((("put" : Str),[("word" : Str),"kind","value"])∈pieceF)) (b:=8500) (by decide) (.cons (.word k1) (by lia) (.cons (.kind kw) (by lia) (.cons (.value vw2.up.up) (by lia) .nil))) ((B6.trans B7).trans B9) R9 (.cons .str (.cons .str (.cons (hv.but r7 B9) (.cons hy2 .nil))))
 refine ⟨_,rfl,rfl,_,rfl,a8 (fun c=>?_) fun e1=>?_⟩
 ·refine ⟨_,rfl,_,rfl,3,by decide,r,c5,rfl,R6,fun d2 ws2 y2 c9 H9 B9 R9 hy2 vw2 hw2=>?_⟩;exact fin (by decide +kernel:((("drop" : Str),[("word" : Str),"value"])∈pieceF)) (b:=6500) (by decide) (.cons (.word k1) w1 (.cons (.value vw2.up) (by lia) .nil)) (B6.trans B9) R9 (.cons .str (.cons .str (.cons hy2 .nil)))
 refine ⟨_,rfl,_,_,rfl,rfl,_,rfl,a8 (fun c=>?_) fun e2=>?_⟩
 ·refine ⟨sz3,fun p hp=>⟨_,rfl,_,_,rfl,rfl,?_⟩⟩;have np:p≠r:=fun c=>by rw [c,R6] at hp;cases hp
  have e0':¬ way=0:=fun c=>e0 (congrArg V.int c);have e1':¬ way=1:=fun c=>e1 (congrArg V.int c);obtain ⟨v,hv,ev⟩:=kW (xs:=nslL.map V.str) (d:=way - 2) (by lia) (by show way - 2 < 3;lia);obtain ⟨wd,hwd,rfl⟩:=aAl.mp hv;refine ⟨p,_,_,_,rfl,rfl,SqL.of aa,ev,_,rfl,_,rfl,?_⟩;exact fin (Bk wd hwd) (b:=6500) (by decide) (.cons (.word k1) w1 (.cons (.word k2) w2 .nil)) (B6.trans (But.same (ag hp _))) (by rw [ac np.symm];exact R6) (.cons .str (.cons .str (.cons .str .nil)))
 refine ⟨_,rfl,rfl,_,rfl,a8 (fun c=>?_) fun e3=>?_⟩
 ·refine ⟨_,rfl,_,rfl,r,c5,rfl,R6,fun d2 ws2 y2 c9 H9 B9 R9 hy2 tw2 hw2=>?_⟩;exact fin (by decide +kernel:((("turn" : Str),[("word" : Str),"turn"])∈pieceF)) (b:=6500) (by decide) (.cons (.word k1) w1 (.cons (.turn tw2.up) (by lia) .nil)) (B6.trans B9) R9 (.cons .str (.cons .str (.cons hy2 .nil)))
 refine ⟨_,rfl,rfl,_,rfl,a8 (fun c=>?_) fun e4=>?_⟩
 ·refine ⟨_,rfl,_,rfl,r,c5,3,rfl,R6,by decide,by decide,fun z c9 H9 B9 R9 lz okz=>⟨_,rfl,_,rfl,?_⟩⟩;exact fin (by decide +kernel:((("split" : Str),[("word" : Str),"text","word","word"])∈pieceF)) (b:=6500) (by decide) (.cons (.word k1) w1 (.cons (.text okz (by lia)) (qm (by lia)) (.cons (.word k2) w2 (.cons (.word k3) w3 .nil)))) (B6.trans B9) R9 (.cons .str (.cons .str (.cons .str (.cons .str (.cons .str .nil)))))
 refine ⟨_,rfl,rfl,_,rfl,a8 (fun c=>?_) fun e5=>?_⟩
 ·refine ⟨_,rfl,_,rfl,_,rfl,r,c5,3,rfl,R6,by decide,by decide,fun z c9 H9 B9 R9 lz okz=>⟨_,rfl,?_⟩⟩;exact fin (by decide +kernel:((("join" : Str),[("word" : Str),"word","text","word"])∈pieceF)) (b:=6500) (by decide) (.cons (.word k1) w1 (.cons (.word k2) w2 (.cons (.text okz (by lia)) (qm (by lia)) (.cons (.word k3) w3 .nil)))) (B6.trans B9) R9 (.cons .str (.cons .str (.cons .str (.cons .str (.cons .str .nil)))))
 refine ⟨_,rfl,rfl,_,rfl,a8 (fun c=>?_) fun e6=>?_⟩
 ·refine ⟨_,rfl,_,rfl,_,rfl,_,rfl,?_⟩;exact fin (by decide +kernel:((("part" : Str),[("word" : Str),"number","word","word"])∈pieceF)) (b:=6500) (by decide) (.cons (.word k1) w1 (.cons (.num hi) w4 (.cons (.word k2) w2 (.cons (.word k3) w3 .nil)))) B6 R6 (.cons .str (.cons .str (.cons .int (.cons .str (.cons .str .nil)))))
 refine ⟨_,rfl,_,rfl,_,rfl,_,rfl,_,rfl,r,c5,rfl,R6,fun i2 c7 H7 B7 R7 hi2=>⟨_,rfl,r,c7,rfl,R7,fun i3 c8 H8 B8 R8 hi3=>?_⟩⟩;exact fin (by decide +kernel:((("whole" : Str),[("word" : Str),"word","number","word","number","number"])∈pieceF)) (b:=6500) (by decide) (.cons (.word k1) w1 (.cons (.word k2) w2 (.cons (.num hi) w4 (.cons (.word k3) w3 (.cons (.num hi2) (oG hi2) (.cons (.num hi3) (oG hi3) .nil)))))) ((B6.trans B7).trans B8) R8 (.cons .str (.cons .str (.cons .str (.cons .int (.cons .str (.cons .int (.cons .int .nil)))))))
theorem ei {b:Nat}:∀ {l:List Dt},(∀ x∈l,x.dep≤b)→cA l≤b
 | [],_=>aAD _
 | x :: l,h=>by
  have h1:=h x aAi;have h2:=ei fun y hy=>h y (aAg _ hy);simp only [cA];lia
theorem mY (zs:List Str):cA (zs.map Dt.str)=0:=Nat.le_zero.mp (ei fun x hx=>by
 obtain ⟨z,_,rfl⟩:=aAl.mp hx;exact aAp _)
theorem uy (js:List Int):cA (js.map Dt.int)=0:=Nat.le_zero.mp (ei fun x hx=>by
 obtain ⟨z,_,rfl⟩:=aAl.mp hx;exact aAp _)
theorem sO {b:Nat} {gs:List G3} (h:∀ g∈gs,g.2.1.dep≤b):cA (gs.map pr3)≤b+1:=ei fun x hx=>by
 obtain ⟨g,hg,rfl⟩:=aAl.mp hx;have:=h g hg;simp only [pr3,Dt.dep,cA];lia
theorem KW.dp {n:Nat} {d:Dt} {ws:List Str} (h:KW n d ws):d.dep≤3*n:=by
 induction h with
 | number n i j=>simp only [Dt.dep,cA];lia
 | text n i=>simp only [Dt.dep,cA];lia
 | choice n zs=>simp only [Dt.dep,cA,mY];lia
 | list _ _ ih=>simp only [Dt.dep,cA];lia
 | rows _ _ _ ih=>simp only [Dt.dep,cA];lia
 | rcd _ _ _ ih =>
  have:=sO ih;simp only [Dt.dep,cA];lia
theorem VW.dp {n:Nat} {d:Dt} {ws:List Str} (h:VW n d ws):d.dep≤3*n:=by
 induction h with
 | int n i=>exact aAD _
 | str n z=>exact aAD _
 | @list n its _ _ ih =>
  have:=ei (l:=its.map (·.1)) (b:=3*n) fun x hx=>by
   obtain ⟨it,h,rfl⟩:=aAl.mp hx;exact ih it h
  simp only [mk2,Dt.dep,cA];lia
 | @rows n its _ _ ih =>
  have:=ei (l:=its.map (·.1)) (b:=3*n) fun x hx=>by
   obtain ⟨it,h,rfl⟩:=aAl.mp hx;exact ih it h
  simp only [mk2,Dt.dep,cA];lia
 | rcd _ _ _ ih =>
  have:=sO ih;simp only [mk2,Dt.dep,cA];lia
theorem TW.dp {n:Nat} {d:Dt} {ws:List Str} (h:TW n d ws):d.dep≤3*n:=by
 induction h with
 | nums n w js=>simp only [Dt.dep,cA,uy];lia
 | items _ ih=>simp only [Dt.dep,cA];lia
 | words n fo bk =>
  have:=ei (l:=bk.map wyD) (b:=1) fun x hx=>by
   obtain ⟨p,h,rfl⟩:=aAl.mp hx;simp [wyD,Dt.dep,cA]
  simp only [Dt.dep,cA,mY];lia
theorem PartW.dp {s:Str} {d:Dt} {ws:List Str} (h:PartW 5 s d ws):d.dep≤15:=by
 cases h with
 | word=>exact aAD _
 | num=>exact aAD _
 | text=>exact aAD _
 | value h=>have:=h.dp;lia
 | kind h=>have:=h.dp;lia
 | turn h=>have:=h.dp;lia
theorem PW.dp {d:Dt} {ws:List Str} (h:PW d ws):d.dep≤60:=by
 obtain ⟨w,fs,its,hw,hf,hl,hp,rfl,rfl⟩:=h;have:=ei (l:=its.map (·.1)) (b:=15) fun x hx=>by
  obtain ⟨it,h,rfl⟩:=aAl.mp hx;obtain ⟨i,hi⟩:=aBj h;have il:=(aAk.mp hi).1;exact (hp (fs[i]'(by lia),it) (aAr (i:=i) ((aAT (z:=(_,it))).mpr ⟨aAv (by lia),hi⟩))).dp
 simp only [Dt.dep,cA];lia
theorem sP {so:Str} {cs:List Nat} {d:Dt} (hd:cB 60 so cs=some d):xu 60 so cs:=by
 intro toks h1 h2 h3;unfold cB at hd;rw [h1] at hd;dsimp only at hd;rw [if_pos h2,h3] at hd
 cases hd
theorem TW.read {d:Dt} {ws:List Str} (h:TW 5 d ws) {cs:List Nat} {b:Nat} {bs:List Nat} (hb:bs.length=ws.length) (hc:cs=List.replicate b 32++aV ws bs):cB 60 "turn" cs=some d:=lI h.gm.gw h.bd (by decide) (h.parse _ 60 (by decide)) hb hc
theorem PW.read {d:Dt} {ws:List Str} (h:PW d ws) {cs:List Nat} {b:Nat} {bs:List Nat} (hb:bs.length=ws.length) (hc:cs=List.replicate b 32++aV ws bs):cB 60 "piece" cs=some d:=lI h.gm.gw h.bd (by decide) (h.parse _ 60 (by decide)) hb hc
theorem lS {ws:List Str} (h:aB ws≤50000):(aj ws).length≤50000:=by
 rw [← ak];exact aAA (h9 ws (ws.map blk) fun b hb=>by
  obtain ⟨z,_,rfl⟩:=aAl.mp hb;exact rA z) h
abbrev Bl (K:W.Frag) (_:Ads):Sp:=GR K
theorem HL (T:Tx K mg ad) {f:Addr} {fd:FuncData} (F:Gn K mg "law" sQ ["script"] f fd):FnOk P w K mg base CX0 depth f fd ["script"] (Bl K ad):=by
 obtain ⟨f1,d1,JQ⟩:=T.law_own;have J7:=qX (P:=P) (w:=w) (base:=base) T JQ;obtain ⟨f2,d2,Ip⟩:=T.law_any_turn;have IQ:=rC (P:=P) (w:=w) (base:=base) T Ip 3 (by decide);obtain ⟨f3,d3,Ih⟩:=T.law_turn_words;have IE:=oB (P:=P) (w:=w) (base:=base) T Ih 5;obtain ⟨f4,d4,Jq⟩:=T.law_tight;have JG:=oy (P:=P) (w:=w) (base:=base) T Jq;obtain ⟨f5,d5,Jr⟩:=T.law_loose;have JE:=oA (P:=P) (w:=w) (base:=base) T Jr;obtain ⟨f6,d6,Jc⟩:=T.turn_text;have Js:=md (P:=P) (w:=w) (base:=base) T Jc;obtain ⟨f7,d7,II⟩:=T.read_turn;have JH:=n8 (P:=P) (w:=w) (base:=base) T II;obtain ⟨f8,d8,Jn⟩:=T.law_any_piece;have JJ:=jC (P:=P) (w:=w) (base:=base) T Jn;obtain ⟨f9,d9,Jj⟩:=T.law_piece_words;have JB:=ib (P:=P) (w:=w) (base:=base) T Jj;obtain ⟨fA,dA,Jx⟩:=T.piece_text;have JT:=mf (P:=P) (w:=w) (base:=base) T Jx;obtain ⟨fB,dB,IC⟩:=T.read_piece;have Jz:=l5 (P:=P) (w:=w) (base:=base) T IC;refine F.F.ok eG (fun vs H Q E h=>?_) (fun cdv A outer s H vs Q E hr h=>?_)
 ·obtain ⟨a,ns,rfl,_⟩:=h
  rfl
 obtain ⟨a,ns,rfl,hS,h63,q⟩:=h;refine ⟨_,(@pss_cons _ _ _ _ _ (ps_for PassesOwn.never rfl (bf rfl T.z_range (@pa1 _ _ _ (pe_callB (ms rfl) rfl T.z_min boot_min (@pa2 _ _ _ _ _ pe_int (@pe_op _ _ _ _ _ _ _ _ aS pe_int (pe_callB (bp (K:=K) rfl) rfl T.z_len PySem.boot_len (@pa1 _ _ _ (pv 0) (by rfl)))) (by rfl) (by rfl))) (by rfl))) (ai (i:=1) eG.nd rfl (Or.inl rfl))
    (@pss_one _ _ _ (ps_for PassesOwn.never rfl (bf rfl T.z_range (@pa1 _ _ _ pe_int (by rfl))) (ai (i:=2) eG.nd rfl (Or.inl rfl))
    (@pss_cons _ _ _ _ _ (@ps_set _ _ 3 _ _ _ _ eG.nd rfl (Or.inl rfl) (pcl JQ J7 (hr.mono (by lia)) rfl (@pa3 _ _ _ _ _ _ _ (pv 0) (pv 1) (pv 2) (by rfl) (by rfl) (by rfl))) (by rfl) (.inl rfl)) (@pss_cons _ _ _ _ _ (@ps_set _ _ 4 _ _ _ _ eG.nd rfl (Or.inl rfl) (pcl Ip IQ (hr.mono (by lia)) rfl (@pa2 _ _ _ _ _ (pv 3) pe_int (by rfl) (by rfl))) (by rfl) (.inl rfl)) (@pss_cons _ _ _ _ _ (@ps_set _ _ 5 _ _ _ _ eG.nd rfl (Or.inl rfl) (pcl Ih IE (hr.mono (by lia)) rfl (@pa1 _ _ _ (pv 4) (by rfl))) (by rfl) (.inl rfl)) (@pss_cons _ _ _ _ _ (@ps_set _ _ 6 _ _ _ _ eG.nd rfl (Or.inl rfl) (pcl Jq JG (hr.mono (by lia)) rfl (@pa1 _ _ _ (pv 5) (by rfl))) (by rfl) (.inl rfl)) (@pss_cons _ _ _ _ _ (@ps_if _ _ _ _ _ _ _ _ (PW.pt (@io _ _ _ _ _ _ _ (pt_cmpR op_ne (pcl Jc Js (hr.mono (by lia)) rfl (@pa1 _ _ _ (pv 4) (by rfl))) (pv 6) (nomark _)) (@io _ _ _ _ _ _ _ (pt_cmpR (iD (K:=K) rfl hr.units) (pe_call JH (hr.mono (by first | decide | lia)) rfl II.m II.F.kp II.b .nil rS (@pa1 _ _ _ (pv 6) (by rfl))) (pv 4) (nomark _)) (@i9 _ _ _ _ (pt_cmpR (iD (K:=K) rfl hr.units) (pe_call JH (hr.mono (by first | decide | lia)) rfl II.m II.F.kp II.b .nil rS (@pa1 _ _ _ (pcl Jr JE (hr.mono (by lia)) rfl (@pa2 _ _ _ _ _ (pv 5) (pv 3) (by rfl) (by rfl))) (by rfl))) (pv 4) (nomark _)))))) (@pss_one _ _ _ (@ps_ret _ _ _ _ uB)) pss_nil) (@pss_cons _ _ _ _ _ (@ps_set _ _ 7 _ _ _ _ eG.nd rfl (Or.inl rfl) (pcl Jn JJ (hr.mono (by lia)) rfl (@pa1 _ _ _ (pv 3) (by rfl))) (by rfl) (.inl rfl)) (@pss_cons _ _ _ _ _ (@ps_set _ _ 5 _ _ _ _ eG.nd rfl (Or.inl rfl) (pcl Jj JB (hr.mono (by lia)) rfl (@pa1 _ _ _ (pv 7) (by rfl))) (by rfl) (.inl rfl)) (@pss_cons _ _ _ _ _ (@ps_set _ _ 6 _ _ _ _ eG.nd rfl (Or.inl rfl) (pcl Jq JG (hr.mono (by lia)) rfl (@pa1 _ _ _ (pv 5) (by rfl))) (by rfl) (.inl rfl)) (@pss_one _ _ _ (@ps_if _ _ _ _ _ _ _ _ (PW.pt (@io _ _ _ _ _ _ _ (pt_cmpR op_ne (pcl Jx JT (hr.mono (by lia)) rfl (@pa1 _ _ _ (pv 7) (by rfl))) (pv 6) (nomark _)) (@io _ _ _ _ _ _ _ (pt_cmpR (iD (K:=K) rfl hr.units) (pe_call Jz (hr.mono (by first | decide | lia)) rfl IC.m IC.F.kp IC.b .nil rS (@pa1 _ _ _ (pv 6) (by rfl))) (pv 7) (nomark _)) (@i9 _ _ _ _ (pt_cmpR (iD (K:=K) rfl hr.units) (pe_call Jz (hr.mono (by first | decide | lia)) rfl IC.m IC.F.kp IC.b .nil rS (@pa1 _ _ _ (pcl Jr JE (hr.mono (by lia)) rfl (@pa2 _ _ _ _ _ (pv 5) (pv 3) (by rfl) (by rfl))) (by rfl))) (pv 7) (nomark _)))))) (@pss_one _ _ _ (@ps_ret _ _ _ _ uB)) pss_nil))))))))))))) (@pss_one _ _ _ (@ps_ret _ _ _ _ uB))),?_⟩
 have hlen:(ns.map V.int).length=ns.length:=aAa _;refine ⟨_,rfl,a,_,rfl,.inl hS,_,_,rfl,rfl,_,_,rfl,?_⟩;rw [hlen]
 generalize hJ:(if (1+((ns.length:Nat):Int)) < 12 then 1+((ns.length:Nat):Int) else 12)=J
 have J1:0≤J∧J≤13:=by rw [← hJ];split <;> lia
 refine ⟨J,rfl,by lia,by lia,gB (lo:=0) (n:=J.toNat) (fun i σ H'=>Same H H'∧∃ v1 v2 v3 v4 v5 v6 v7,σ=[some (.ref a),v1,v2,v3,v4,v5,v6,v7]) ⟨Same.refl H,_,_,_,_,_,_,_,rfl⟩ ?_ ?_⟩
 rotate_left
 ·rintro σ H1 ⟨g1,v1,v2,v3,v4,v5,v6,v7,rfl⟩;exact q _
 rintro i σ H1 hi ⟨g1,v1,v2,v3,v4,v5,v6,v7,rfl⟩;refine ⟨5,rfl,by decide,by decide,gB (lo:=0) (n:=(5:Int).toNat) (fun j σ H'=>Same H H'∧∃ v2 v3 v4 v5 v6 v7,σ=[some (.ref a),some (.int (i:Nat)),v2,v3,v4,v5,v6,v7]) ⟨g1,_,_,_,_,_,_,(by show [_,some (V.int (0+(i:Int))),_,_,_,_,_,_]=_;rw [Int.zero_add])⟩ ?_ ?_⟩
 rotate_left
 ·rintro σ H2 ⟨g2,v2,v3,v4,v5,v6,v7,rfl⟩;exact ⟨g2,_,_,_,_,_,_,_,rfl⟩
 rintro j σ H2 hj ⟨g2,v2,v3,v4,v5,v6,v7,rfl⟩;refine ⟨_,rfl,_,rfl,_,rfl,a,ns,i,j,(by rw [Int.zero_add];rfl),g2.seq hS,h63,by lia,hj,fun r n H3 hr3 g3 e3=>?_⟩;have hrH:H r=none:=g2.free hr3;have S3:=g2.trans g3;refine ⟨_,rfl,r,n,rfl,e3,fun d ws v n4 H4 b4 r4 hv tw0 hw=>?_⟩;have tw:=tw0.up;have S4:Same H H4:=fun x o e=>b4 x o (ah e hrH) (S3 x o e);have hw5:aB ws≤50000:=by lia
 refine ⟨_,rfl,d,v,ws,rfl,hv,tw,hw5,fun l H5 hl g5 h5=>?_⟩;have nlr:l≠r:=fun c=>by rw [c,r4] at hl;cases hl
 refine ⟨_,rfl,l,ws,rfl,h5,hw5,fun H6 g6=>?_⟩;have tl:=lS hw5;have dp:d.dep≤60:=by have:=tw.dp;lia
 refine ⟨_,rfl,d,v,ws,rfl,(hv.same g5).same g6,tw,by lia,fun H7 g7=>?_⟩;refine ⟨_,rfl,rfl,_,rfl,sk ?_⟩;have rd1:cB 60 "turn" (aj ws).cps.toList=some d:=tw.read (b:=0) (bs:=ws.map blk) (aAa _) rfl;have g47:=(g5.trans g6).trans g7;refine ⟨_,rfl,_,rfl,by lia,sP rd1,fun d' hd' y H8 g8 hy=>?_,fun hn=>absurd (rd1.symm.trans hn) (fun c=>nomatch c)⟩;obtain rfl:=Option.some.inj (rd1.symm.trans hd');have g48:=g47.trans g8;refine ⟨_,rfl,d,d,hy.d,(hv.same g48).d,dp,_,rfl,?_⟩;rw [eI];refine cg ⟨_,rfl,_,rfl,l,r,n4,ws,rfl,nlr,((g6.trans g7).trans g8) _ _ h5,g48 _ _ r4,hw5,fun z b bs n9 H9 b9 r9 lb ez zl=>?_⟩;have rd2:=tw.read lb ez;refine ⟨z,rfl,by lia,sP rd2,fun d' hd' y' H10 g10 hy'=>?_,fun hn=>absurd (rd2.symm.trans hn) (fun c=>nomatch c)⟩;obtain rfl:=Option.some.inj (rd2.symm.trans hd');refine ⟨_,rfl,d,d,hy'.d,(((hv.same g48).but (g48 _ _ r4) b9).same g10).d,dp,_,rfl,?_⟩;rw [eI];have S10:Same H H10:=fun x o e=>g10 _ _ (b9 x o (ah e hrH) (g48 _ _ (S4 x o e)));have r10:=g10 _ _ r9;refine cg ⟨_,rfl,r,n9,rfl,r10,fun d2 ws2 v2 n11 H11 b11 r11 hv2 pw hw2=>?_⟩;have S11:Same H H11:=fun x o e=>b11 x o (ah e hrH) (S10 x o e);have hw6:aB ws2≤50000:=by lia
 refine ⟨_,rfl,d2,v2,ws2,rfl,hv2,pw,hw6,fun l2 H12 hl2 g12 h12=>?_⟩;have nlr2:l2≠r:=fun c=>by rw [c,r11] at hl2;cases hl2
 refine ⟨_,rfl,l2,ws2,rfl,h12,hw6,fun H13 g13=>?_⟩;have tl2:=lS hw6;have dp2:=pw.dp;refine ⟨_,rfl,d2,v2,ws2,rfl,(hv2.same g12).same g13,pw,by lia,fun H14 g14=>?_⟩;refine ⟨_,rfl,rfl,_,rfl,sk ?_⟩;have rd3:cB 60 "piece" (aj ws2).cps.toList=some d2:=pw.read (b:=0) (bs:=ws2.map blk) (aAa _) rfl;have k47:=(g12.trans g13).trans g14;refine ⟨_,rfl,_,rfl,by lia,sP rd3,fun d' hd' y H15 g15 hy=>?_,fun hn=>absurd (rd3.symm.trans hn) (fun c=>nomatch c)⟩;obtain rfl:=Option.some.inj (rd3.symm.trans hd');have k48:=k47.trans g15;refine ⟨_,rfl,d2,d2,hy.d,(hv2.same k48).d,dp2,_,rfl,?_⟩;rw [eI];refine cg ⟨_,rfl,_,rfl,l2,r,n11,ws2,rfl,nlr2,((g13.trans g14).trans g15) _ _ h12,k48 _ _ r11,hw6,fun z b bs n16 H16 b16 r16 lb ez zl=>?_⟩;have rd4:=pw.read lb ez;refine ⟨z,rfl,by lia,sP rd4,fun d' hd' y' H17 g17 hy'=>?_,fun hn=>absurd (rd4.symm.trans hn) (fun c=>nomatch c)⟩;obtain rfl:=Option.some.inj (rd4.symm.trans hd');refine ⟨_,rfl,d2,d2,hy'.d,(((hv2.same k48).but (k48 _ _ r11) b16).same g17).d,dp2,_,rfl,?_⟩;rw [eI];exact cg ⟨fun x o e=>g17 _ _ (b16 x o (ah e hrH) (k48 _ _ (S11 x o e))),_,_,_,_,_,_,rfl⟩
end
@[elab_as_elim] theorem xF {α:Type} {p:List α→Prop} {us:List α} (hl:us.length=0) (h:p []):p us:=by
 cases us with
 | nil=>exact h
 | cons a r=>cases hl
@[elab_as_elim] theorem xG {α:Type} {p:List α→Prop} {us:List α} (hl:us.length=1) (h:∀ x0,p [x0]):p us:=by
 cases us with
 | nil=>cases hl
 | cons a r=>exact xF (p:=fun r=>p (a :: r)) (Nat.succ.inj hl) (h a)
@[elab_as_elim] theorem xH {α:Type} {p:List α→Prop} {us:List α} (hl:us.length=2) (h:∀ x0 x1,p [x0,x1]):p us:=by
 cases us with
 | nil=>cases hl
 | cons a r=>exact xG (p:=fun r=>p (a :: r)) (Nat.succ.inj hl) (h a)
@[elab_as_elim] theorem xI {α:Type} {p:List α→Prop} {us:List α} (hl:us.length=3) (h:∀ x0 x1 x2,p [x0,x1,x2]):p us:=by
 cases us with
 | nil=>cases hl
 | cons a r=>exact xH (p:=fun r=>p (a :: r)) (Nat.succ.inj hl) (h a)
@[elab_as_elim] theorem xJ {α:Type} {p:List α→Prop} {us:List α} (hl:us.length=4) (h:∀ x0 x1 x2 x3,p [x0,x1,x2,x3]):p us:=by
 cases us with
 | nil=>cases hl
 | cons a r=>exact xI (p:=fun r=>p (a :: r)) (Nat.succ.inj hl) (h a)
@[elab_as_elim] theorem xK {α:Type} {p:List α→Prop} {us:List α} (hl:us.length=5) (h:∀ x0 x1 x2 x3 x4,p [x0,x1,x2,x3,x4]):p us:=by
 cases us with
 | nil=>cases hl
 | cons a r=>exact xJ (p:=fun r=>p (a :: r)) (Nat.succ.inj hl) (h a)
@[elab_as_elim] theorem He {α:Type} {p:List α→Prop} {us:List α} (hl:us.length=6) (h:∀ x0 x1 x2 x3 x4 x5,p [x0,x1,x2,x3,x4,x5]):p us:=by
 cases us with
 | nil=>cases hl
 | cons a r=>exact xK (p:=fun r=>p (a :: r)) (Nat.succ.inj hl) (h a)
theorem gnM {K:W.Frag} {h:Heap} {mg:Str→Option Value} (X:K.In h) (G:h.Ns mainGlobals mg) {x:Str} {st:Stmt} {ps:List Str} {f:Addr} {od an:Option Addr} {sl:Array (Option Value)} {oc kV dc pm cd ct:Value}
  (a:W.nsIn K mainGlobals x=some (some (.ref f))) (l:K.lookup f=some ⟨oc,od,.func (W.fnOf x x (cc st) (bH st) (ae st) .none kV dc pm an cd ct),sl⟩) (c:W.codeIn K cd x=true) (k:W.keepIn K (.ref f)=true)
  (b:∀ (kV doc pm:Value) (an:Option Addr) (cdv ct:Value) (us:List Value),us.length=ps.length→bindArgs (W.fnOf x x (cc st) (bH st) (ae st) .none kV doc pm an cdv ct) ⟨us,[]⟩=pure (ps.zip us)):∃ f fd,Gn K mg x st ps f fd :=
 ⟨f,_,jd (st:=st) l c k,(jd (st:=st) l c k).binds b,W.mg_of X G a⟩
theorem exM {K:W.Frag} {h:Heap} {mg:Str→Option Value} (X:K.In h) (G:h.Ns mainGlobals mg) {x:Str} {C:Addr} {d:ClassData} (xa:W.nsIn K mainGlobals x=some (some (.ref C))) (xq:W.excIn K C bmV "ValueError.__new__" = true) (xg:W.findIn K (.ref C) "__getattribute__" = some (some (.builtin "BaseException.__getattribute__"))) (xt:W.findIn K (.ref C) "__getattr__" = some none) (xc:W.findIn K (.ref C) "__class__" = some (some (.builtin "object.__class__"))) (xb:W.mroIn K C (.type "BaseException")=some true) (xo:W.mroIn K C (.type "object")=some true) (xd:W.clsIn K C=some d) (xk:W.keepIn K (.ref C)=true):ExC K mg x C:=⟨W.mg_of X G xa,xq,⟨xg,xt,xc,xb,xo,_,xd⟩,xk⟩
theorem csM {K:W.Frag} {h:Heap} {mg:Str→Option Value} (X:K.In h) (G:h.Ns mainGlobals mg) {x z:Str} {t:Tok} (g:W.nsIn K mainGlobals x=some (some (.str z t))):∃ t,mg x=some (.str z t):=⟨_,W.mg_of X G g⟩
theorem ciM {K:W.Frag} {h:Heap} {mg:Str→Option Value} (X:K.In h) (G:h.Ns mainGlobals mg) {x:Str} {i:Int} {t:Tok} (g:W.nsIn K mainGlobals x=some (some (.int i t))):∃ t,mg x=some (.int i t):=⟨_,W.mg_of X G g⟩
theorem txI {K:W.Frag} {mg:Str→Option Value} {a0 a1 a2:Addr} (T:Tx K mg ⟨a0,a1,a2⟩):∃ ad,Tx K mg ad:=⟨_,T⟩
theorem Bo {K:W.Frag} {f:Addr} {fd:FuncData} (F:Fun K "law" "law" sQ f fd):∀ (s:Shared) (u:Value),BindsTo s fd ⟨[u],[]⟩ [("script",u)]:=by
 obtain ⟨oc,od,kV,doc,pm,an,cdv,ct,osl,rfl,lk,hcd⟩:=F.ex;exact fun s u=>.of_eq rfl
end K87
open PySem PySem.W PyProof.Rows
set_option maxRecDepth 100000 in
set_option maxHeartbeats 0 in
theorem PySem.Challenge.cw_oldhands_k87_turns_and_pieces_in_words_holds : PySem.Challenge.rw_oldhands_k87_turns_and_pieces_in_words.Holds := by
 w_on
 refine W.holds_law K87.said fun said=>?_;refine W.holds_open (q:=K87.hQ) (loose:=K87.hW) (Xt:=K87.hX) (XP:=fun _ _=>True) (Yf:=K87.hH.obs) (Ya:=K87.hH.val) (YP:=W.InK K87.hK) (N:=4161) K87.hl K87.hH.of K87.hH.keeps (fun _ _=>trivial) (fun _ _ _ _ _=>trivial) (by rfl) (by rfl) (by rfl) (fun s e=>W.recFacts_of e) (by rfl) said (by decide +kernel) ⟨rfl,rfl,rfl,rfl,rfl,by decide +kernel⟩ ?hw ?hc
 case hw=>w_witness2
 k_fill
 refine L2.Gv (l:=PySem.Challenge.rw_oldhands_k87_turns_and_pieces_in_words) (K:=K87.hK) (n:=63) (k:=K87.depth) (x:= "script") (CX:=L2.CX0) (sp:=K87.GR) rfl (by decide) rfl ⟨rfl,by decide,by decide⟩ (fun w h Y=>Y) ?F (fun _ _ a ns hl _ hS=>⟨a,ns,rfl,hS,hl,fun _=>rfl⟩) (fun _ _ _ _ z=>z)
 case F =>
  intro w mg fa h KX G hmg;have T:∃ ad,K87.Tx (L2.KOf KX) mg ad:=by
   dsimp only [L2.KOf];refine' K87.txI ⟨K87.gnM KX G ?_ ?_ ?_ ?_ ?_,K87.gnM KX G ?_ ?_ ?_ ?_ ?_,K87.gnM KX G ?_ ?_ ?_ ?_ ?_,K87.gnM KX G ?_ ?_ ?_ ?_ ?_,K87.gnM KX G ?_ ?_ ?_ ?_ ?_,K87.gnM KX G ?_ ?_ ?_ ?_ ?_,K87.gnM KX G ?_ ?_ ?_ ?_ ?_,K87.gnM KX G ?_ ?_ ?_ ?_ ?_,K87.gnM KX G ?_ ?_ ?_ ?_ ?_,K87.gnM KX G ?_ ?_ ?_ ?_ ?_,K87.gnM KX G ?_ ?_ ?_ ?_ ?_,K87.gnM KX G ?_ ?_ ?_ ?_ ?_,K87.gnM KX G ?_ ?_ ?_ ?_ ?_,K87.gnM KX G ?_ ?_ ?_ ?_ ?_,K87.gnM KX G ?_ ?_ ?_ ?_ ?_,K87.gnM KX G ?_ ?_ ?_ ?_ ?_,K87.gnM KX G ?_ ?_ ?_ ?_ ?_,K87.gnM KX G ?_ ?_ ?_ ?_ ?_,K87.gnM KX G ?_ ?_ ?_ ?_ ?_,K87.gnM KX G ?_ ?_ ?_ ?_ ?_,K87.gnM KX G ?_ ?_ ?_ ?_ ?_,K87.gnM KX G ?_ ?_ ?_ ?_ ?_,K87.gnM KX G ?_ ?_ ?_ ?_ ?_,K87.gnM KX G ?_ ?_ ?_ ?_ ?_,K87.gnM KX G ?_ ?_ ?_ ?_ ?_,K87.gnM KX G ?_ ?_ ?_ ?_ ?_,K87.gnM KX G ?_ ?_ ?_ ?_ ?_,K87.gnM KX G ?_ ?_ ?_ ?_ ?_,K87.gnM KX G ?_ ?_ ?_ ?_ ?_,K87.gnM KX G ?_ ?_ ?_ ?_ ?_,K87.gnM KX G ?_ ?_ ?_ ?_ ?_,K87.gnM KX G ?_ ?_ ?_ ?_ ?_,K87.gnM KX G ?_ ?_ ?_ ?_ ?_,K87.gnM KX G ?_ ?_ ?_ ?_ ?_,K87.gnM KX G ?_ ?_ ?_ ?_ ?_,K87.gnM KX G ?_ ?_ ?_ ?_ ?_,K87.gnM KX G ?_ ?_ ?_ ?_ ?_,K87.gnM KX G ?_ ?_ ?_ ?_ ?_,K87.gnM KX G ?_ ?_ ?_ ?_ ?_,K87.gnM KX G ?_ ?_ ?_ ?_ ?_,K87.gnM KX G ?_ ?_ ?_ ?_ ?_,K87.gnM KX G ?_ ?_ ?_ ?_ ?_,K87.gnM KX G ?_ ?_ ?_ ?_ ?_,K87.gnM KX G ?_ ?_ ?_ ?_ ?_,K87.gnM KX G ?_ ?_ ?_ ?_ ?_,K87.gnM KX G ?_ ?_ ?_ ?_ ?_,K87.gnM KX G ?_ ?_ ?_ ?_ ?_,K87.gnM KX G ?_ ?_ ?_ ?_ ?_,K87.gnM KX G ?_ ?_ ?_ ?_ ?_,K87.gnM KX G ?_ ?_ ?_ ?_ ?_,K87.gnM KX G ?_ ?_ ?_ ?_ ?_,K87.gnM KX G ?_ ?_ ?_ ?_ ?_,K87.gnM KX G ?_ ?_ ?_ ?_ ?_,K87.gnM KX G ?_ ?_ ?_ ?_ ?_,K87.gnM KX G ?_ ?_ ?_ ?_ ?_,W.mg_of KX G ?_,⟨?_,?_,?_,?_⟩,(show W.findIn _ _ _=some none from ?_),(show W.findIn _ _ _=some none from ?_),L2.miM (f:=209) ?_ ?_ ?_ ?_ ?_ ?_ ?_ ?_,L2.mnM (f:=216) ?_ ?_ ?_ ?_ ?_ ?_,L2.mnM (f:=223) ?_ ?_ ?_ ?_ ?_ ?_,L2.mnM (f:=230) ?_ ?_ ?_ ?_ ?_ ?_,L2.mnM (f:=237) ?_ ?_ ?_ ?_ ?_ ?_,K87.exM KX G ?_ ?_ ?_ ?_ ?_ ?_ ?_ ?_ ?_,K87.exM KX G ?_ ?_ ?_ ?_ ?_ ?_ ?_ ?_ ?_,K87.csM KX G ?_,K87.ciM KX G ?_,K87.ciM KX G ?_,K87.csM KX G ?_,⟨W.mg_of KX G ?_,L2.Bm ?_,L2.GK ?_⟩,⟨W.mg_of KX G ?_,L2.Bm ?_,L2.GK ?_⟩,⟨W.mg_of KX G ?_,L2.Bm ?_,L2.GK ?_⟩,K87.csM KX G ?_,K87.csM KX G ?_,K87.csM KX G ?_,K87.csM KX G ?_,K87.csM KX G ?_,K87.csM KX G ?_,K87.ciM KX G ?_,K87.ciM KX G ?_,⟨W.mg_of KX G ?_,L2.GK ?_⟩,⟨_,W.mg_of KX G ?_,L2.Bn ?_⟩,⟨W.mg_of KX G ?_,L2.GP ?_,L2.GK ?_⟩,W.mg_none_of KX G ?_,W.mg_none_of KX G ?_,W.mg_none_of KX G ?_,W.mg_none_of KX G ?_,W.mg_none_of KX G ?_,W.mg_none_of KX G ?_,W.mg_none_of KX G ?_,W.mg_none_of KX G ?_,W.mg_none_of KX G ?_,W.mg_none_of KX G ?_,W.mg_none_of KX G ?_,W.mg_none_of KX G ?_,W.mg_none_of KX G ?_,W.mg_none_of KX G ?_⟩
   any_goals (first | k_is | kernel_rfl | exact fun _ _ _ _ _ _ _ e=>K87.xF e rfl | exact fun _ _ _ _ _ _ _ e=>K87.xG e fun _=>rfl | exact fun _ _ _ _ _ _ _ e=>K87.xH e fun _ _=>rfl | exact fun _ _ _ _ _ _ _ e=>K87.xI e fun _ _ _=>rfl | exact fun _ _ _ _ _ _ _ e=>K87.xJ e fun _ _ _ _=>rfl | exact fun _ _ _ _ _ _ _ e=>K87.xK e fun _ _ _ _ _=>rfl | exact fun _ _ _ _ _ _ _ e=>K87.He e fun _ _ _ _ _ _=>rfl)
  obtain ⟨ad,T⟩:=T;obtain ⟨fL,dL,L⟩:=T.law;have e:=hmg.symm.trans L.m
  cases e
  exact ⟨dL,K87.Bo L.F,fun base _ _=>K87.HL T L⟩
end
