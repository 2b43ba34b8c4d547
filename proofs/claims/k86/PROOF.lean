import PyProof.Rows.All
import Wide.All
import OpenK.AllK
import Wide.FinOn
import Lean
import PyProof.EqAt
import PyProof.EqKinds
import PyProof.TupleCall
import PyProof.NeKinds
import KE.KIntText
import PyProof.StrCalls
import PyProof.ZipIter
import PyProof.Rows.SetFrom
import PyProof.SetRoads
import PyProof.CompUse
import PyProof.Rows.MinMaxN
import PyProof.Rows.SortStr
import PyProof.Rows.SortWalk
import PyProof.Rows.SeqMore2
import KE.KMinKey
import PyProof.Rows.CallKwBuiltin
import PyProof.TupleOfStr
import PyProof.Draws
import PyProof.Rows.TupIter
import KE.KxText
import PyProof.FString5
import PyProof.DictWalks
import PyProof.CollectStr
import PyProof.FactsAll.set_1
import KE.KDictLaws
import PySem.Challenge.RW_oldhands_k86_values_in_words
set_option Elab.async false
set_option linter.all false
set_option maxHeartbeats 4000000
set_option maxRecDepth 100000
noncomputable section
abbrev aAa:=@List.length_map
abbrev aAb:=@PySem.Heap.get?_push_of_some
abbrev aAc:=@List.getElem?_eq_some_iff
abbrev aAd:=@List.mem_cons_self
abbrev aAe:=@List.length_cons
abbrev aAf:=@PySem.Heap.lt_size
abbrev aAg:=@List.getElem?_map
abbrev aAh:=@Option.map_eq_some_iff
abbrev aAi:=@List.mem_cons_of_mem
abbrev aAj:=@Nat.lt_of_lt_of_le
abbrev aAk:=@List.length_append
abbrev aAl:=@Nat.le_refl
abbrev aAm:=@List.getElem?_eq_getElem
abbrev aAn:=@List.mem_of_getElem?
abbrev aAo:=@List.map_append
abbrev aAp:=@List.mem_cons
abbrev aAq:=@PySem.Heap.get?_push_size
abbrev aAr:=@List.mem_map
abbrev aAs:=@Bool.and_eq_true
abbrev aAt:=@List.map_cons
abbrev aAu:=@PySem.Str.length_append
abbrev aAv:=@List.size_toArray
abbrev aAw:=@Bool.false_ne_true
abbrev aAx:=@Nat.zero_le
abbrev aAy:=@Nat.ne_of_lt
abbrev aAz:=@List.length_take
abbrev aAA:=@Nat.le_trans
abbrev aAB:=@List.getD_eq_getElem?_getD
abbrev aAC:=@List.all_eq_true
abbrev aAD:=@List.take_add_one
abbrev aAE:=@List.mem_singleton
abbrev aAF:=@List.not_mem_nil
abbrev aAG:=@List.mem_append_right
abbrev aAH:=@Bool.false_eq_true
abbrev aAI:=@List.length_nil
abbrev aAJ:=@List.length_drop
abbrev aAK:=@List.mem_append
abbrev aAL:=@List.map_map
abbrev aAM:=@List.take_of_length_le
abbrev aAN:=@Nat.lt_irrefl
abbrev aAO:=@List.mem_filterMap
abbrev aAP:=@List.length_replicate
abbrev aAQ:=@Array.length_toList
abbrev aAR:=@List.lookup_cons
abbrev aAS:=@Nat.exists_eq_add_of_le'
abbrev aAT:=@PySem.Heap.size_push
abbrev aAU:=@Bool.true_and
abbrev aAV:=@List.forIn_cons
abbrev aAW:=@List.take_length
abbrev aAX:=@Bool.eq_iff_iff
abbrev aAY:=@Nat.le_of_lt
abbrev aAZ:=@List.append_assoc
abbrev aA0:=@List.takeWhile_cons
abbrev aA1:=@List.getElem?_zip_eq_some
abbrev aA2:=@List.append_nil
abbrev aA3:=@List.drop_eq_nil_of_le
abbrev aA4:=@List.getElem?_append_right
abbrev aA5:=@Nat.lt_succ_self
abbrev aA6:=@List.drop_eq_getElem_cons
abbrev aA7:=@List.find?_cons
abbrev aA8:=@Int.toNat_natCast
abbrev aA9:=@List.all_cons
abbrev aBa:=@List.replicate_succ
abbrev aBb:=@PySem.Heap.get?_update_other
abbrev aBc:=@Nat.lt_trans
abbrev aBd:=@PySem.Heap.get?_update_self
abbrev aBe:=@List.length_zip
abbrev aBf:=@Array.getElem?_eq_some_iff
abbrev aBg:=@Bool.not_true
abbrev aBh:=@List.length_range
abbrev aBi:=@List.getElem?_append_left
abbrev aBj:=@Array.getElem?_eq_getElem
abbrev aBk:=@Nat.ne_of_gt
abbrev aBl:=@List.all_map
abbrev aBm:=@List.dropWhile_cons
abbrev aBn:=@List.mem_map_of_mem
abbrev aBo:=@List.nodup_cons
abbrev aBp:=@Nat.lt_of_le_of_lt
abbrev aBq:=@List.take_sublist
abbrev aBr:=@List.forIn_nil
abbrev aBs:=@List.getElem?_eq_none
abbrev aBt:=@List.getElem_mem
abbrev aBu:=@List.getElem?_of_mem
abbrev aBv:=@List.sum_cons
abbrev aBw:=@List.map_nil
abbrev aBx:=@List.pairwise_cons
abbrev aBy:=@List.mem_range
abbrev aBz:=@List.pairwise_singleton
abbrev aBA:=@List.foldl_append
abbrev aBB:=@List.getElem?_set_self
abbrev aBC:=@Nat.le_succ
abbrev aBD:=@Int.le_refl
abbrev aBE:=@Array.getElem?_toList
abbrev aBF:=@List.getElem?_set_ne
abbrev aBG:=@List.mem_iff_getElem
abbrev aBH:=@Nat.min_self
abbrev aBI:=@Int.natCast_add
abbrev aBJ:=@Array.toArray_toList
abbrev aBK:=@List.mem_of_mem_take
abbrev aBL:=@Nat.not_lt_zero
abbrev aBM:=@List.mem_of_mem_drop
abbrev aBN:=@Nat.pow_le_pow_right
abbrev aBO:=@List.filterMap_cons
abbrev aBP:=@Array.toList_append
abbrev aBQ:=@Array.append_assoc
abbrev aBR:=@Array.forIn_toList
abbrev aBS:=@List.findIdx?_cons
abbrev aBT:=@Int.emod_lt_of_pos
abbrev aBU:=@List.zip_cons_cons
abbrev aBV:=@List.any_cons
abbrev aBW:=@List.map_take
abbrev aBX:=@Nat.lt_succ_of_lt
abbrev aBY:=@Bool.not_eq_true'
abbrev aBZ:=@List.flatMap_cons
abbrev aB0:=@Nat.mul_left_comm
abbrev aB1:=@Nat.not_lt
abbrev aB2:=@List.pairwise_iff_getElem
abbrev aB3:=@Nat.le_of_eq
abbrev aB4:=@List.any_eq_true
abbrev aB5:=@Nat.succ_le_succ
abbrev aB6:=@List.mem_reverse
abbrev aB7:=@Nat.min_le_right
abbrev aB8:=@Nat.lt_succ_iff_lt_or_eq
abbrev aB9:=@List.cons_append
abbrev aCa:=@List.getElem?_replicate
abbrev aCb:=@List.length_eq_zero_iff
abbrev aCc:=@List.of_mem_zip
abbrev aCd:=@Int.emod_nonneg
abbrev aCe:=@Array.getElem?_eq_none
abbrev aCf:=@List.find?_cons_of_neg
abbrev aCg:=@Nat.add_mul
abbrev aCh:=@List.length_singleton
abbrev aCi:=@List.lt_irrefl
abbrev aCj:=@List.mem_iff_getElem?
abbrev aCk:=@Bool.or_false
abbrev aCl:=@Nat.pow_succ'
abbrev aCm:=@Nat.add_zero
abbrev aCn:=@Int.zero_add
namespace L2
open PySem PySem.Spec PyProof.Rows
def aV (s:Stmt) (j:Nat):Stmt:=match s with
 | .ClassDef _ _ _ body _ _ _ _ _ _ _=>body.getD j (.Pass ⟨0,0,0,0⟩)
 | _=>.Pass ⟨0,0,0,0⟩
def bG (s:Stmt):Arguments:=match s with
 | .FunctionDef _ a _ _ _ _ _ _ _ _=>a
 | _=>{ posonlyargs:=[],args:=[],vararg:=none,kwonlyargs:=[],kw_defaults:=[],kwarg:=none,defaults:=[] }
def bi (s:Stmt):List Stmt:=match s with
 | .FunctionDef _ _ b _ _ _ _ _ _ _=>b
 | _=>[]
def ai (s:Stmt):Scope:=match s with
 | .FunctionDef _ _ _ _ _ _ sc _ _ _=>sc
 | _=>{ kind:=.function,names:=[],isGenerator:=false,isCoroutine:=false }
end L2
namespace K86
open PySem L2 PyProof.Rows
abbrev pwX:=PySem.Challenge.pw_oldhands_k86_values_in_words
def top (i:Nat):Stmt:=pwX.main.body.getD i (.Pass ⟨0,0,0,0⟩)
def hT (t:Nat):Value:=.str "/claim/cut.py" t
def hE (P:Params) (x:Str) (t:Nat) (v:Value):DictEntry:={ hash:=PyData.keyHash P x,key:=.str x t,val:=v }
def hF (x y m:Str) (st:Stmt) (t c:Nat):Obj:={ cls:=.type "function",data:=.func (W.fnOf x y (bG st) (bi st) (ai st) .none .none .none (.str m t) none (.ref c) .none) }
def hU (x y:Str) (st:Stmt):Obj:={ cls:=.none,data:=.func { name:=x,qualname:=y,params:=bG st,body:=.stmts (bi st),scope:=ai st,globals:=builtinsNs,closure:=[],defaults:=.none,kwdefaults:=.none } }
def hC (x y:Str) (t u v:Nat) (r:List Value):Obj:={ cls:=.type "code",data:=.fields (Array.mk (.str x t :: .str y u :: hT v :: r)) }
def hS (r:List Value):Obj:={ cls:=.type "tuple",data:=.seq (Array.mk r) }
def hN:Obj:={ cls:=.none,data:=.fields (Array.mk []) }
def gE:Params→List DictEntry:=fun P =>
 hE P "__doc__" 166 (.none) ::
 hE P "__package__" 167 (.none) ::
 hE P "__loader__" 168 (.builtin "__main__.__loader__#opaque") ::
 hE P "__spec__" 169 (.none) ::
 hE P "__annotations__" 170 (.ref 6) ::
 hE P "__builtins__" 171 (.ref 4) ::
 hE P "__file__" 173 (.str ("/claim/cut.py") 172) ::
 hE P "__cached__" 174 (.none) ::
 hE P "HandError" 206 (.ref 24) ::
 hE P "BadValue" 222 (.ref 37) ::
 hE P "BadText" 238 (.ref 49) ::
 hE P "LETTERS" 242 (.str ("abcdefghijklmnopqrstuvwxyz") 241) ::
 hE P "LONGEST_NAME" 244 (.int 8 243) ::
 hE P "is_whole" 251 (.ref 58) ::
 hE P "is_whole_within" 260 (.ref 65) ::
 hE P "PERCENT" 264 (.int 37 263) ::
 hE P "is_sign" 271 (.ref 72) ::
 hE P "is_of" 280 (.ref 79) ::
 hE P "made_value" 288 (.ref 86) ::
 hE P "is_text_of" 294 (.ref 91) ::
 hE P "holds_tuple" 302 (.ref 98) ::
 hE P "holds_items" 308 (.ref 103) ::
 hE P "is_record_of" 314 (.ref 108) ::
 hE P "is_pair_of" 322 (.ref 115) ::
 hE P "are_keyed" 328 (.ref 120) ::
 hE P "field_of" 338 (.ref 127) ::
 hE P "FIGURES" 342 (.str ("0123456789") 341) ::
 hE P "figures_of" 349 (.ref 134) ::
 hE P "number_of" 355 (.ref 139) ::
 hE P "BLANK" 359 (.str (" ") 358) ::
 hE P "QUOTE" 361 (.str ("\"") 360) ::
 hE P "MINUS" 363 (.str ("-") 362) ::
 hE P "OPENING" 365 (.str ("([{") 364) ::
 hE P "CLOSING" 367 (.str (")]}") 366) ::
 hE P "MARKS" 369 (.str ("()[]{},:;/") 368) ::
 hE P "MOST_FIGURES" 371 (.int 60 370) ::
 hE P "MOST_BRACKETS" 373 (.int 40 372) ::
 hE P "END" 376 (.ref 140) ::
 hE P "words_of" 386 (.ref 147) ::
 hE P "word_end" 395 (.ref 154) ::
 hE P "run_end" 405 (.ref 161) ::
 hE P "made_word" 411 (.ref 166) ::
 hE P "deepest_brackets" 422 (.ref 173) ::
 hE P "WordRow" 486 (.ref 218) ::
 hE P "KIND_PARTS" 505 (.ref 223) ::
 hE P "TURN_PARTS" 537 (.ref 228) ::
 hE P "PIECE_PARTS" 589 (.ref 239) ::
 hE P "parts_behind" 597 (.ref 256) ::
 hE P "most_exchanged" 605 (.ref 263) ::
 hE P "value_text" 611 (.ref 268) ::
 hE P "with_commas" 618 (.ref 275) ::
 hE P "pair_text" 626 (.ref 282) ::
 hE P "quoted" 633 (.ref 289) ::
 hE P "PAIR_SORTS" 645 (.ref 290) ::
 hE P "BRACKETED" 658 (.ref 294) ::
 hE P "read_value" 666 (.ref 301) ::
 hE P "read_all" 676 (.ref 308) ::
 hE P "part_read" 685 (.ref 315) ::
 hE P "pair_read" 694 (.ref 322) ::
 hE P "kind_read" 703 (.ref 329) ::
 hE P "value_read" 714 (.ref 336) ::
 hE P "turn_read" 723 (.ref 343) ::
 hE P "path_read" 731 (.ref 350) ::
 hE P "form_read" 743 (.ref 357) ::
 hE P "list_read" 753 (.ref 364) ::
 hE P "at_least_one" 760 (.ref 371) ::
 hE P "_law_cell_at" 770 (.ref 378) ::
 hE P "_law_mixed" 779 (.ref 385) ::
 hE P "_law_own" 791 (.ref 392) ::
 hE P "_law_digit" 800 (.ref 399) ::
 hE P "_law_names" 806 (.ref 404) ::
 hE P "_law_number_kind" 815 (.ref 411) ::
 hE P "_law_leaf_kind" 824 (.ref 418) ::
 hE P "_law_record_kind" 836 (.ref 425) ::
 hE P "_law_rows_kind" 850 (.ref 432) ::
 hE P "_law_kind" 860 (.ref 439) ::
 hE P "_law_text" 866 (.ref 444) ::
 hE P "_law_keys" 872 (.ref 449) ::
 hE P "_law_row_values" 878 (.ref 454) ::
 hE P "_law_value" 884 (.ref 459) ::
 hE P "_law_value_words" 894 (.ref 466) ::
 hE P "_law_tight" 900 (.ref 471) ::
 hE P "_law_loose" 906 (.ref 476) ::
 hE P "_law_same" 912 (.ref 481) ::
 hE P "_law_by" 922 (.ref 488) ::
 hE P "law" 939 (.ref 495) ::
 []
def gD (P:Params) (x:Str) (t m k:Nat):Obj:={ cls:=.type "dict",data:=.dict (Array.mk (hE P "__name__" 165 (.str x t) :: (gE P).take m)) k }
def tE:List Value:=.int 2 0 :: .int 0 0 :: .ref 20 :: .int 4 0 :: .int 0 0 :: .ref 33 :: .int 6 0 :: .int 0 0 :: .ref 45 :: .int 11 0 :: .int 0 0 :: .ref 57 :: .int 13 0 :: .int 0 0 :: .ref 64 :: .int 17 0 :: .int 0 0 :: .ref 71 :: .int 19 0 :: .int 0 0 :: .ref 78 :: .int 32 0 :: .int 0 0 :: .ref 85 :: .int 36 0 :: .int 0 0 :: .ref 90 :: .int 40 0 :: .int 0 0 :: .ref 97 :: .int 42 0 :: .int 0 0 :: .ref 102 :: .int 46 0 :: .int 0 0 :: .ref 107 :: .int 50 0 :: .int 0 0 :: .ref 114 :: .int 54 0 :: .int 0 0 :: .ref 119 :: .int 57 0 :: .int 0 0 :: .ref 126 :: .int 64 0 :: .int 0 0 :: .ref 133 :: .int 66 0 :: .int 0 0 :: .ref 138 :: .int 83 0 :: .int 0 0 :: .ref 146 :: .int 94 0 :: .int 0 0 :: .ref 153 :: .int 105 0 :: .int 0 0 :: .ref 160 :: .int 110 0 :: .int 0 0 :: .ref 165 :: .int 121 0 :: .int 0 0 :: .ref 172 :: .int 131 0 :: .int 0 0 :: .ref 179 :: .int 159 0 :: .int 0 0 :: .ref 255 :: .int 165 0 :: .int 0 0 :: .ref 262 :: .int 169 0 :: .int 0 0 :: .ref 267 :: .int 181 0 :: .int 0 0 :: .ref 274 :: .int 183 0 :: .int 0 0 :: .ref 281 :: .int 185 0 :: .int 0 0 :: .ref 288 :: .int 190 0 :: .int 0 0 :: .ref 300 :: .int 192 0 :: .int 0 0 :: .ref 307 :: .int 198 0 :: .int 0 0 :: .ref 314 :: .int 215 0 :: .int 0 0 :: .ref 321 :: .int 219 0 :: .int 0 0 :: .ref 328 :: .int 229 0 :: .int 0 0 :: .ref 335 :: .int 237 0 :: .int 0 0 :: .ref 342 :: .int 244 0 :: .int 0 0 :: .ref 349 :: .int 253 0 :: .int 0 0 :: .ref 356 :: .int 265 0 :: .int 0 0 :: .ref 363 :: .int 273 0 :: .int 0 0 :: .ref 370 :: .int 278 0 :: .int 0 0 :: .ref 377 :: .int 282 0 :: .int 0 0 :: .ref 384 :: .int 285 0 :: .int 0 0 :: .ref 391 :: .int 293 0 :: .int 0 0 :: .ref 398 :: .int 297 0 :: .int 0 0 :: .ref 403 :: .int 307 0 :: .int 0 0 :: .ref 410 :: .int 311 0 :: .int 0 0 :: .ref 417 :: .int 321 0 :: .int 0 0 :: .ref 424 :: .int 327 0 :: .int 0 0 :: .ref 431 :: .int 339 0 :: .int 0 0 :: .ref 438 :: .int 349 0 :: .int 0 0 :: .ref 443 :: .int 352 0 :: .int 0 0 :: .ref 448 :: .int 360 0 :: .int 0 0 :: .ref 453 :: .int 375 0 :: .int 0 0 :: .ref 458 :: .int 394 0 :: .int 0 0 :: .ref 465 :: .int 407 0 :: .int 0 0 :: .ref 470 :: .int 409 0 :: .int 0 0 :: .ref 475 :: .int 411 0 :: .int 0 0 :: .ref 480 :: .int 415 0 :: .int 0 0 :: .ref 487 :: .int 422 0 :: .int 0 0 :: .ref 494 :: []
def tD (m:Nat):Obj:={ cls:=.none,data:=.fields (Array.mk (tE.take m)) }
def o0 (P:Params):Obj:=W.boot_o_0 P
def o1 (P:Params):Obj:=W.boot_o_1 P
def o2 (P:Params):Obj:=W.boot_o_2 P
def o3 (P:Params):Obj:={ cls:=.type "dict",data:=.dict (Array.mk (hE P "__name__" 165 (.str ("law_oldhands_k86_values_in_words") 761) :: gE P)) 87 }
def o4 (P:Params):Obj:=W.boot_o_4 P
def o5 (P:Params):Obj:=W.boot_o_5 P
def o6 (P:Params):Obj:=W.boot_o_6 P
def o7 (P:Params):Obj:=W.boot_o_7 P
def o8 (P:Params):Obj:=W.boot_o_8 P
def o9 (P:Params):Obj:=W.boot_o_9 P
def o10 (P:Params):Obj:=W.boot_o_10 P
def o11:Obj:=hS []
def o12:Obj:={ cls:=.none,data:=.fields (Array.mk tE) }
def o13:Obj:=hC "<module>" "<module>" 182 183 184 [.int 1 0,.int 0 0,.int 0 0,.int 0 0,.int 0 0,.ref 11,.bool false,.int 181 0,.ref 12,.none,.none,.none,.none,.int 185 0,.int 1 0,hT 186]
def o14:Obj:={ cls:=.type "frame",slots:=#[some (.ref 13),some (.ref 3),some (.ref 3),none,some (.str ("__main__") 164),none,some (.ref 0)] }
def o15:Obj:=hS [.type "ValueError"]
def o16:Obj:={ cls:=.type "builtin_function_or_method",data:=.fields #[.builtin "type.__prepare__",.type "type"] }
def o17 (P:Params):Obj:={ cls:=.type "dict",data:=.dict #[hE P "__module__" 196 (.str ("oldhands.errors") 187),hE P "__qualname__" 198 (.str ("HandError") 197),hE P "__firstlineno__" 200 (.int 2 199),hE P "__static_attributes__" 201 (.ref 22)] 4 }
def o19:Obj:=hN
def o20:Obj:=hC "HandError" "HandError" 191 192 193 [.int 2 0,.int 0 0,.int 0 0,.int 0 0,.int 0 0,.ref 18,.bool false,.int 181 0,.ref 19,.none,.none,.none,.none,.int 194 0,.int 2 0,hT 195]
def o21:Obj:={ cls:=.type "frame",slots:=#[some (.ref 20),some (.ref 3),some (.ref 17),none,some (.str ("oldhands.errors") 187),none,some (.ref 0)] }
def o23 (P:Params):Obj:={ cls:=.type "dict",data:=.dict #[hE P "__module__" 196 (.str ("oldhands.errors") 187),hE P "__firstlineno__" 200 (.int 2 199),hE P "__static_attributes__" 201 (.ref 22),hE P "__weakref__" 203 (.ref 25),hE P "__doc__" 204 (.none)] 3 }
def o24:Obj:={ cls:=.type "type",data:=.cls { name:= "HandError",bases:=[.type "ValueError"],mro:=[.ref 24,.type "ValueError",.type "Exception",.type "BaseException",.type "object"],ns:=23,qualname:= "HandError",subclasses:=[.ref 37,.ref 49] },slots:=#[some (.ref 15),none,some (.str ("HandError") 189),some (.str ("HandError") 197),some (.builtin "ValueError.__new__"),some (.bool true)] }
def o25:Obj:={ cls:=.type "getset_descriptor",data:=.fields #[.str ("__weakref__") 202,.ref 24,.builtin "ExceptionGroup.__weakref__",.none] }
def o26:Obj:={ cls:=.type "super",data:=.fields #[.ref 24,.ref 24,.ref 24] }
def o27:Obj:={ cls:=.type "builtin_function_or_method",data:=.fields #[.builtin "object.__init_subclass__",.ref 24] }
def o28:Obj:=hS [.ref 24]
def o30 (P:Params):Obj:={ cls:=.type "dict",data:=.dict #[hE P "__module__" 214 (.str ("oldhands.errors") 187),hE P "__qualname__" 216 (.str ("BadValue") 215),hE P "__firstlineno__" 218 (.int 4 217),hE P "__static_attributes__" 219 (.ref 35)] 4 }
def o33:Obj:=hC "BadValue" "BadValue" 209 210 211 [.int 4 0,.int 0 0,.int 0 0,.int 0 0,.int 0 0,.ref 31,.bool false,.int 181 0,.ref 32,.none,.none,.none,.none,.int 212 0,.int 4 0,hT 213]
def o34:Obj:={ cls:=.type "frame",slots:=#[some (.ref 33),some (.ref 3),some (.ref 30),none,some (.str ("oldhands.errors") 187),none,some (.ref 0)] }
def o36 (P:Params):Obj:={ cls:=.type "dict",data:=.dict #[hE P "__module__" 214 (.str ("oldhands.errors") 187),hE P "__firstlineno__" 218 (.int 4 217),hE P "__static_attributes__" 219 (.ref 35),hE P "__doc__" 220 (.none)] 2 }
def o37:Obj:={ cls:=.type "type",data:=.cls { name:= "BadValue",bases:=[.ref 24],mro:=[.ref 37,.ref 24,.type "ValueError",.type "Exception",.type "BaseException",.type "object"],ns:=36,qualname:= "BadValue" },slots:=#[some (.ref 28),none,some (.str ("BadValue") 207),some (.str ("BadValue") 215),some (.builtin "ValueError.__new__"),some (.bool true)] }
def o38:Obj:={ cls:=.type "super",data:=.fields #[.ref 37,.ref 37,.ref 37] }
def o39:Obj:={ cls:=.type "builtin_function_or_method",data:=.fields #[.builtin "object.__init_subclass__",.ref 37] }
def o42 (P:Params):Obj:={ cls:=.type "dict",data:=.dict #[hE P "__module__" 230 (.str ("oldhands.errors") 187),hE P "__qualname__" 232 (.str ("BadText") 231),hE P "__firstlineno__" 234 (.int 6 233),hE P "__static_attributes__" 235 (.ref 47)] 4 }
def o45:Obj:=hC "BadText" "BadText" 225 226 227 [.int 6 0,.int 0 0,.int 0 0,.int 0 0,.int 0 0,.ref 43,.bool false,.int 181 0,.ref 44,.none,.none,.none,.none,.int 228 0,.int 6 0,hT 229]
def o46:Obj:={ cls:=.type "frame",slots:=#[some (.ref 45),some (.ref 3),some (.ref 42),none,some (.str ("oldhands.errors") 187),none,some (.ref 0)] }
def o48 (P:Params):Obj:={ cls:=.type "dict",data:=.dict #[hE P "__module__" 230 (.str ("oldhands.errors") 187),hE P "__firstlineno__" 234 (.int 6 233),hE P "__static_attributes__" 235 (.ref 47),hE P "__doc__" 236 (.none)] 2 }
def o49:Obj:={ cls:=.type "type",data:=.cls { name:= "BadText",bases:=[.ref 24],mro:=[.ref 49,.ref 24,.type "ValueError",.type "Exception",.type "BaseException",.type "object"],ns:=48,qualname:= "BadText" },slots:=#[some (.ref 40),none,some (.str ("BadText") 223),some (.str ("BadText") 231),some (.builtin "ValueError.__new__"),some (.bool true)] }
def o50:Obj:={ cls:=.type "super",data:=.fields #[.ref 49,.ref 49,.ref 49] }
def o51:Obj:={ cls:=.type "builtin_function_or_method",data:=.fields #[.builtin "object.__init_subclass__",.ref 49] }
def o54:Obj:=hS [.str ("thing") 248]
def o56:Obj:=hU "is_whole" "is_whole" (top 7)
def o57:Obj:=hC "is_whole" "is_whole" 245 246 247 [.int 11 0,.int 1 0,.int 0 0,.int 0 0,.int 3 0,.ref 52,.bool true,.int 181 0,.ref 53,.none,.ref 54,.ref 55,.ref 56,.int 249 0,.int 11 0,hT 250]
def o58:Obj:=hF "is_whole" "is_whole" "oldhands.kinds" (top 7) 239 57
def o61:Obj:=hS [.str ("thing") 255,.str ("low") 256,.str ("high") 257]
def o63:Obj:=hU "is_whole_within" "is_whole_within" (top 8)
def o64:Obj:=hC "is_whole_within" "is_whole_within" 252 253 254 [.int 13 0,.int 3 0,.int 0 0,.int 0 0,.int 3 0,.ref 59,.bool true,.int 181 0,.ref 60,.none,.ref 61,.ref 62,.ref 63,.int 258 0,.int 13 0,hT 259]
def o65:Obj:=hF "is_whole_within" "is_whole_within" "oldhands.kinds" (top 8) 239 64
def o68:Obj:=hS [.str ("letter") 268]
def o70:Obj:=hU "is_sign" "is_sign" (top 11)
def o71:Obj:=hC "is_sign" "is_sign" 265 266 267 [.int 17 0,.int 1 0,.int 0 0,.int 0 0,.int 3 0,.ref 66,.bool true,.int 181 0,.ref 67,.none,.ref 68,.ref 69,.ref 70,.int 269 0,.int 17 0,hT 270]
def o72:Obj:=hF "is_sign" "is_sign" "oldhands.values" (top 11) 261 71
def o75:Obj:=hS [.str ("value") 275,.str ("kind") 276,.str ("word") 277]
def o77:Obj:=hU "is_of" "is_of" (top 12)
def o78:Obj:=hC "is_of" "is_of" 272 273 274 [.int 19 0,.int 2 0,.int 0 0,.int 0 0,.int 3 0,.ref 73,.bool true,.int 181 0,.ref 74,.none,.ref 75,.ref 76,.ref 77,.int 278 0,.int 19 0,hT 279]
def o79:Obj:=hF "is_of" "is_of" "oldhands.values" (top 12) 261 78
def o82:Obj:=hS [.str ("value") 284,.str ("kind") 285]
def o84:Obj:=hU "made_value" "made_value" (top 13)
def o85:Obj:=hC "made_value" "made_value" 281 282 283 [.int 32 0,.int 2 0,.int 0 0,.int 0 0,.int 3 0,.ref 80,.bool true,.int 181 0,.ref 81,.none,.ref 82,.ref 83,.ref 84,.int 286 0,.int 32 0,hT 287]
def o86:Obj:=hF "made_value" "made_value" "oldhands.values" (top 13) 261 85
def o89:Obj:=hU "is_text_of" "is_text_of" (top 14)
def o90:Obj:=hC "is_text_of" "is_text_of" 289 290 291 [.int 36 0,.int 2 0,.int 0 0,.int 0 0,.int 3 0,.ref 87,.bool true,.int 181 0,.ref 88,.none,.none,.none,.ref 89,.int 292 0,.int 36 0,hT 293]
def o91:Obj:=hF "is_text_of" "is_text_of" "oldhands.values" (top 14) 261 90
def o94:Obj:=hS [.str ("value") 298,.str ("word") 299]
def o96:Obj:=hU "holds_tuple" "holds_tuple" (top 15)
def o97:Obj:=hC "holds_tuple" "holds_tuple" 295 296 297 [.int 40 0,.int 2 0,.int 0 0,.int 0 0,.int 3 0,.ref 92,.bool true,.int 181 0,.ref 93,.none,.ref 94,.ref 95,.ref 96,.int 300 0,.int 40 0,hT 301]
def o98:Obj:=hF "holds_tuple" "holds_tuple" "oldhands.values" (top 15) 261 97
def Cc (P:Params):Obj:=hN
def Cd (P:Params):Obj:=hU "holds_items" "holds_items" (top 16)
def yo (P:Params):Obj:=hC "holds_items" "holds_items" 303 304 305 [.int 42 0,.int 4 0,.int 0 0,.int 0 0,.int 3 0,.ref 99,.bool true,.int 181 0,.ref 100,.none,.none,.none,.ref 101,.int 306 0,.int 42 0,hT 307]
def yp (P:Params):Obj:=hF "holds_items" "holds_items" "oldhands.values" (top 16) 261 102
def Ce (P:Params):Obj:=hS []
def Cf (P:Params):Obj:=hN
def Cg (P:Params):Obj:=hU "is_record_of" "is_record_of" (top 17)
def yq (P:Params):Obj:=hC "is_record_of" "is_record_of" 309 310 311 [.int 46 0,.int 2 0,.int 0 0,.int 0 0,.int 3 0,.ref 104,.bool true,.int 181 0,.ref 105,.none,.none,.none,.ref 106,.int 312 0,.int 46 0,hT 313]
def yr (P:Params):Obj:=hF "is_record_of" "is_record_of" "oldhands.values" (top 17) 261 107
def Ch (P:Params):Obj:=hS []
def Ci (P:Params):Obj:=hN
def Cj (P:Params):Obj:=hS [.str ("pair") 318,.str ("field") 319]
def Ck (P:Params):Obj:=hS []
def Cl (P:Params):Obj:=hU "is_pair_of" "is_pair_of" (top 18)
def yt (P:Params):Obj:=hC "is_pair_of" "is_pair_of" 315 316 317 [.int 50 0,.int 2 0,.int 0 0,.int 0 0,.int 3 0,.ref 109,.bool true,.int 181 0,.ref 110,.none,.ref 111,.ref 112,.ref 113,.int 320 0,.int 50 0,hT 321]
def yu (P:Params):Obj:=hF "is_pair_of" "is_pair_of" "oldhands.values" (top 18) 261 114
def Cm (P:Params):Obj:=hS []
def Cn (P:Params):Obj:=hN
def Co (P:Params):Obj:=hU "are_keyed" "are_keyed" (top 19)
def yv (P:Params):Obj:=hC "are_keyed" "are_keyed" 323 324 325 [.int 54 0,.int 2 0,.int 0 0,.int 0 0,.int 3 0,.ref 116,.bool true,.int 181 0,.ref 117,.none,.none,.none,.ref 118,.int 326 0,.int 54 0,hT 327]
def yw (P:Params):Obj:=hF "are_keyed" "are_keyed" "oldhands.values" (top 19) 261 119
def Cp (P:Params):Obj:=hS []
def Cq (P:Params):Obj:=hN
def Cr (P:Params):Obj:=hS [.str ("record") 332,.str ("name") 333,.str ("own") 334,.str ("value") 335]
def Cs (P:Params):Obj:=hS []
def Ct (P:Params):Obj:=hU "field_of" "field_of" (top 20)
def yx (P:Params):Obj:=hC "field_of" "field_of" 329 330 331 [.int 57 0,.int 2 0,.int 0 0,.int 0 0,.int 3 0,.ref 121,.bool true,.int 181 0,.ref 122,.none,.ref 123,.ref 124,.ref 125,.int 336 0,.int 57 0,hT 337]
def yy (P:Params):Obj:=hF "field_of" "field_of" "oldhands.values" (top 20) 261 126
def Cu (P:Params):Obj:=hS []
def Cv (P:Params):Obj:=hN
def Cw (P:Params):Obj:=hS [.str ("number") 346]
def Cy (P:Params):Obj:=hS []
def Cz (P:Params):Obj:=hU "figures_of" "figures_of" (top 23)
def yz (P:Params):Obj:=hC "figures_of" "figures_of" 343 344 345 [.int 64 0,.int 1 0,.int 0 0,.int 0 0,.int 3 0,.ref 128,.bool true,.int 181 0,.ref 129,.none,.ref 130,.ref 131,.ref 132,.int 347 0,.int 64 0,hT 348]
def yA (P:Params):Obj:=hF "figures_of" "figures_of" "oldhands.turns" (top 23) 339 133
def CA (P:Params):Obj:=hS []
def CB (P:Params):Obj:=hN
def CC (P:Params):Obj:=hU "number_of" "number_of" (top 24)
def yB (P:Params):Obj:=hC "number_of" "number_of" 350 351 352 [.int 66 0,.int 1 0,.int 0 0,.int 0 0,.int 3 0,.ref 135,.bool true,.int 181 0,.ref 136,.none,.none,.none,.ref 137,.int 353 0,.int 66 0,hT 354]
def yC (P:Params):Obj:=hF "number_of" "number_of" "oldhands.turns" (top 24) 339 138
def yD (P:Params):Obj:=hS [.str ("end") 374,.str ("") 375]
def CD (P:Params):Obj:=hS []
def CF (P:Params):Obj:=hN
def CG (P:Params):Obj:=hS [.str ("text") 380,.str ("found") 381,.str ("at") 382,.str ("end") 383]
def CH (P:Params):Obj:=hS []
def CI (P:Params):Obj:=hU "words_of" "words_of" (top 35)
def yE (P:Params):Obj:=hC "words_of" "words_of" 377 378 379 [.int 83 0,.int 1 0,.int 0 0,.int 0 0,.int 3 0,.ref 141,.bool true,.int 181 0,.ref 142,.none,.ref 143,.ref 144,.ref 145,.int 384 0,.int 83 0,hT 385]
def yF (P:Params):Obj:=hF "words_of" "words_of" "oldhands.tokens" (top 35) 356 146
def CJ (P:Params):Obj:=hS []
def CK (P:Params):Obj:=hN
def CL (P:Params):Obj:=hS [.str ("text") 390,.str ("at") 391,.str ("close") 392]
def CM (P:Params):Obj:=hS []
def CN (P:Params):Obj:=hU "word_end" "word_end" (top 36)
def yG (P:Params):Obj:=hC "word_end" "word_end" 387 388 389 [.int 94 0,.int 2 0,.int 0 0,.int 0 0,.int 3 0,.ref 148,.bool true,.int 181 0,.ref 149,.none,.ref 150,.ref 151,.ref 152,.int 393 0,.int 94 0,hT 394]
def yH (P:Params):Obj:=hF "word_end" "word_end" "oldhands.tokens" (top 36) 356 153
def CO (P:Params):Obj:=hS []
def CP (P:Params):Obj:=hN
def CQ (P:Params):Obj:=hS [.str ("text") 399,.str ("at") 400,.str ("letters") 401,.str ("end") 402]
def CS (P:Params):Obj:=hS []
def CT (P:Params):Obj:=hU "run_end" "run_end" (top 37)
def yI (P:Params):Obj:=hC "run_end" "run_end" 396 397 398 [.int 105 0,.int 3 0,.int 0 0,.int 0 0,.int 3 0,.ref 155,.bool true,.int 181 0,.ref 156,.none,.ref 157,.ref 158,.ref 159,.int 403 0,.int 105 0,hT 404]
def yJ (P:Params):Obj:=hF "run_end" "run_end" "oldhands.tokens" (top 37) 356 160
def CU (P:Params):Obj:=hS []
def CV (P:Params):Obj:=hN
def CW (P:Params):Obj:=hU "made_word" "made_word" (top 38)
def yK (P:Params):Obj:=hC "made_word" "made_word" 406 407 408 [.int 110 0,.int 1 0,.int 0 0,.int 0 0,.int 3 0,.ref 162,.bool true,.int 181 0,.ref 163,.none,.none,.none,.ref 164,.int 409 0,.int 110 0,hT 410]
def yL (P:Params):Obj:=hF "made_word" "made_word" "oldhands.tokens" (top 38) 356 165
def CY (P:Params):Obj:=hS []
def CZ (P:Params):Obj:=hN
def C0 (P:Params):Obj:=hS [.str ("words") 415,.str ("deepest") 416,.str ("here") 417,.str ("sort") 418,.str ("told") 419]
def C1 (P:Params):Obj:=hS []
def C2 (P:Params):Obj:=hU "deepest_brackets" "deepest_brackets" (top 39)
def yM (P:Params):Obj:=hC "deepest_brackets" "deepest_brackets" 412 413 414 [.int 121 0,.int 1 0,.int 0 0,.int 0 0,.int 3 0,.ref 167,.bool true,.int 181 0,.ref 168,.none,.ref 169,.ref 170,.ref 171,.int 420 0,.int 121 0,hT 421]
def yN (P:Params):Obj:=hF "deepest_brackets" "deepest_brackets" "oldhands.tokens" (top 39) 356 172
def C3 (P:Params):Obj:=hS []
def C4 (P:Params):Obj:={ cls:=.type "builtin_function_or_method",data:=.fields #[.builtin "type.__prepare__",.type "type"] }
def C5 (P:Params):Obj:={ cls:=.type "dict",data:=.dict #[hE P "__module__" 430 (.str ("oldhands.tokens") 356),hE P "__qualname__" 432 (.str ("WordRow") 431),hE P "__firstlineno__" 434 (.int 131 433),hE P "__init__" 442 (.ref 187),hE P "coming" 451 (.ref 194),hE P "comes" 459 (.ref 201),hE P "take" 468 (.ref 208),hE P "take_mark" 476 (.ref 215),hE P "__static_attributes__" 479 (.ref 216)] 9 }
def C6 (P:Params):Obj:=hS []
def C7 (P:Params):Obj:={ cls:=.none,data:=.fields #[.int 133 0,.int 4 0,.ref 186,.int 137 0,.int 4 0,.ref 193,.int 141 0,.int 4 0,.ref 200,.int 144 0,.int 4 0,.ref 207,.int 151 0,.int 4 0,.ref 214] }
def C8 (P:Params):Obj:=hC "WordRow" "WordRow" 425 426 427 [.int 131 0,.int 0 0,.int 0 0,.int 0 0,.int 0 0,.ref 177,.bool false,.int 181 0,.ref 178,.none,.none,.none,.none,.int 428 0,.int 131 0,hT 429]
def C9 (P:Params):Obj:={ cls:=.type "frame",slots:=#[some (.ref 179),some (.ref 3),some (.ref 176),none,some (.str ("oldhands.tokens") 356),none,some (.ref 0)] }
def Da (P:Params):Obj:=hS []
def Db (P:Params):Obj:=hN
def Dc (P:Params):Obj:=hS [.str ("self") 438,.str ("text") 439]
def Dd (P:Params):Obj:=hS []
def De (P:Params):Obj:=hU "__init__" "WordRow.__init__" (aV (top 40) 0)
def yO (P:Params):Obj:=hC "__init__" "WordRow.__init__" 435 436 437 [.int 133 0,.int 2 0,.int 0 0,.int 0 0,.int 3 0,.ref 181,.bool true,.int 181 0,.ref 182,.none,.ref 183,.ref 184,.ref 185,.int 440 0,.int 133 0,hT 441]
def yP (P:Params):Obj:=hF "__init__" "WordRow.__init__" "oldhands.tokens" (aV (top 40) 0) 356 186
def Df (P:Params):Obj:=hS []
def Dg (P:Params):Obj:=hN
def Dh (P:Params):Obj:=hS [.str ("self") 446,.str ("ahead") 447,.str ("at") 448]
def Di (P:Params):Obj:=hS []
def Dj (P:Params):Obj:=hU "coming" "WordRow.coming" (aV (top 40) 1)
def yQ (P:Params):Obj:=hC "coming" "WordRow.coming" 443 444 445 [.int 137 0,.int 2 0,.int 0 0,.int 0 0,.int 3 0,.ref 188,.bool true,.int 181 0,.ref 189,.none,.ref 190,.ref 191,.ref 192,.int 449 0,.int 137 0,hT 450]
def yR (P:Params):Obj:=hF "coming" "WordRow.coming" "oldhands.tokens" (aV (top 40) 1) 356 193
def Dk (P:Params):Obj:=hS []
def Dl (P:Params):Obj:=hN
def Dm (P:Params):Obj:=hS [.str ("self") 455,.str ("mark") 456]
def Dn (P:Params):Obj:=hS []
def Do (P:Params):Obj:=hU "comes" "WordRow.comes" (aV (top 40) 2)
def yS (P:Params):Obj:=hC "comes" "WordRow.comes" 452 453 454 [.int 141 0,.int 2 0,.int 0 0,.int 0 0,.int 3 0,.ref 195,.bool true,.int 181 0,.ref 196,.none,.ref 197,.ref 198,.ref 199,.int 457 0,.int 141 0,hT 458]
def yT (P:Params):Obj:=hF "comes" "WordRow.comes" "oldhands.tokens" (aV (top 40) 2) 356 200
def Dp (P:Params):Obj:=hS []
def Dq (P:Params):Obj:=hN
def Ds (P:Params):Obj:=hS [.str ("self") 463,.str ("sort") 464,.str ("found") 465]
def Du (P:Params):Obj:=hS []
def Dv (P:Params):Obj:=hU "take" "WordRow.take" (aV (top 40) 3)
def yU (P:Params):Obj:=hC "take" "WordRow.take" 460 461 462 [.int 144 0,.int 2 0,.int 0 0,.int 0 0,.int 3 0,.ref 202,.bool true,.int 181 0,.ref 203,.none,.ref 204,.ref 205,.ref 206,.int 466 0,.int 144 0,hT 467]
def yV (P:Params):Obj:=hF "take" "WordRow.take" "oldhands.tokens" (aV (top 40) 3) 356 207
def Dx (P:Params):Obj:=hS []
def Dy (P:Params):Obj:=hN
def Dz (P:Params):Obj:=hS [.str ("self") 472,.str ("mark") 473]
def DA (P:Params):Obj:=hS []
def DB (P:Params):Obj:=hU "take_mark" "WordRow.take_mark" (aV (top 40) 4)
def yW (P:Params):Obj:=hC "take_mark" "WordRow.take_mark" 469 470 471 [.int 151 0,.int 2 0,.int 0 0,.int 0 0,.int 3 0,.ref 209,.bool true,.int 181 0,.ref 210,.none,.ref 211,.ref 212,.ref 213,.int 474 0,.int 151 0,hT 475]
def yX (P:Params):Obj:=hF "take_mark" "WordRow.take_mark" "oldhands.tokens" (aV (top 40) 4) 356 214
def yY (P:Params):Obj:=hS [.str ("all_words") 477,.str ("place") 478]
def yZ (P:Params):Obj:={ cls:=.type "dict",data:=.dict #[hE P "__module__" 430 (.str ("oldhands.tokens") 356),hE P "__firstlineno__" 434 (.int 131 433),hE P "__init__" 442 (.ref 187),hE P "coming" 451 (.ref 194),hE P "comes" 459 (.ref 201),hE P "take" 468 (.ref 208),hE P "take_mark" 476 (.ref 215),hE P "__static_attributes__" 479 (.ref 216),hE P "__dict__" 481 (.ref 219),hE P "__weakref__" 483 (.ref 220),hE P "__doc__" 484 (.none)] 4 }
def y4 (P:Params):Obj:={ cls:=.type "type",data:=.cls { name:= "WordRow",bases:=[.type "object"],mro:=[.ref 218,.type "object"],ns:=217,qualname:= "WordRow" },slots:=#[none,none,some (.str ("WordRow") 423),some (.str ("WordRow") 431),some (.builtin "object.__new__"),some (.bool true)] }
def y6 (P:Params):Obj:={ cls:=.type "getset_descriptor",data:=.fields #[.str ("__dict__") 480,.ref 218,.builtin "function.__dict__",.builtin "function.__dict__#set"] }
def y7 (P:Params):Obj:={ cls:=.type "getset_descriptor",data:=.fields #[.str ("__weakref__") 482,.ref 218,.builtin "ExceptionGroup.__weakref__",.none] }
def DC (P:Params):Obj:={ cls:=.type "super",data:=.fields #[.ref 218,.ref 218,.ref 218] }
def DD (P:Params):Obj:={ cls:=.type "builtin_function_or_method",data:=.fields #[.builtin "object.__init_subclass__",.ref 218] }
def y8 (P:Params):Obj:={ cls:=.type "dict",data:=.dict #[hE P "number" 489 (.ref 224),hE P "text" 492 (.ref 225),hE P "list" 494 (.ref 226),hE P "rows" 497 (.ref 227)] 4 }
def y9 (P:Params):Obj:=hS [.str ("number") 490,.str ("number") 491]
def za (P:Params):Obj:=hS [.str ("number") 493]
def zb (P:Params):Obj:=hS [.str ("number") 495,.str ("kind") 496]
def zc (P:Params):Obj:=hS [.str ("word") 498,.str ("number") 499,.str ("kind") 500]
def zd (P:Params):Obj:={ cls:=.type "dict",data:=.dict #[hE P "bounds" 506 (.ref 229),hE P "scale" 509 (.ref 230),hE P "shrink" 511 (.ref 231),hE P "figures" 513 (.ref 232),hE P "number" 515 (.ref 233),hE P "cut" 518 (.ref 234),hE P "first" 520 (.ref 235),hE P "one" 522 (.ref 236),hE P "out" 524 (.ref 237),hE P "items" 525 (.ref 238)] 10 }
def ze (P:Params):Obj:=hS [.str ("number") 507,.str ("number") 508]
def zf (P:Params):Obj:=hS [.str ("number") 510]
def zg (P:Params):Obj:=hS [.str ("number") 512]
def zh (P:Params):Obj:=hS [.str ("number") 514]
def zi (P:Params):Obj:=hS [.str ("number") 516,.str ("number") 517]
def zj (P:Params):Obj:=hS [.str ("number") 519]
def zk (P:Params):Obj:=hS [.str ("number") 521]
def zm (P:Params):Obj:=hS [.str ("number") 523]
def zn (P:Params):Obj:=hS []
def zo (P:Params):Obj:=hS [.str ("turn") 526]
def zp (P:Params):Obj:={ cls:=.type "dict",data:=.dict #[hE P "put" 538 (.ref 240),hE P "drop" 542 (.ref 241),hE P "name" 545 (.ref 242),hE P "sink" 548 (.ref 243),hE P "lift" 551 (.ref 244),hE P "turn" 554 (.ref 245),hE P "split" 557 (.ref 246),hE P "join" 562 (.ref 247),hE P "part" 567 (.ref 248),hE P "whole" 572 (.ref 249)] 10 }
def zq (P:Params):Obj:=hS [.str ("word") 539,.str ("kind") 540,.str ("value") 541]
def zr (P:Params):Obj:=hS [.str ("word") 543,.str ("value") 544]
def zt (P:Params):Obj:=hS [.str ("word") 546,.str ("word") 547]
def zu (P:Params):Obj:=hS [.str ("word") 549,.str ("word") 550]
def zw (P:Params):Obj:=hS [.str ("word") 552,.str ("word") 553]
def zx (P:Params):Obj:=hS [.str ("word") 555,.str ("turn") 556]
def zy (P:Params):Obj:=hS [.str ("word") 558,.str ("text") 559,.str ("word") 560,.str ("word") 561]
def zA (P:Params):Obj:=hS [.str ("word") 563,.str ("word") 564,.str ("text") 565,.str ("word") 566]
def zB (P:Params):Obj:=hS [.str ("word") 568,.str ("number") 569,.str ("word") 570,.str ("word") 571]
def zC (P:Params):Obj:=hS [.str ("word") 573,.str ("word") 574,.str ("number") 575,.str ("word") 576,.str ("number") 577,.str ("number") 578]
def DE (P:Params):Obj:=hS []
def DF (P:Params):Obj:=hN
def DG (P:Params):Obj:=hS [.str ("sort") 593,.str ("word") 594]
def DH (P:Params):Obj:=hS []
def DI (P:Params):Obj:=hU "parts_behind" "parts_behind" (top 45)
def zD (P:Params):Obj:=hC "parts_behind" "parts_behind" 590 591 592 [.int 159 0,.int 2 0,.int 0 0,.int 0 0,.int 3 0,.ref 250,.bool true,.int 181 0,.ref 251,.none,.ref 252,.ref 253,.ref 254,.int 595 0,.int 159 0,hT 596]
def zE (P:Params):Obj:=hF "parts_behind" "parts_behind" "oldhands.words" (top 45) 487 255
def DJ (P:Params):Obj:=hS []
def DK (P:Params):Obj:=hN
def DL (P:Params):Obj:=hS [.str ("word") 601,.str ("parts") 602]
def DM (P:Params):Obj:=hS []
def DN (P:Params):Obj:=hU "most_exchanged" "most_exchanged" (top 46)
def zF (P:Params):Obj:=hC "most_exchanged" "most_exchanged" 598 599 600 [.int 165 0,.int 2 0,.int 0 0,.int 0 0,.int 3 0,.ref 257,.bool true,.int 181 0,.ref 258,.none,.ref 259,.ref 260,.ref 261,.int 603 0,.int 165 0,hT 604]
def zG (P:Params):Obj:=hF "most_exchanged" "most_exchanged" "oldhands.words" (top 46) 487 262
def DO (P:Params):Obj:=hS []
def DP (P:Params):Obj:=hN
def DQ (P:Params):Obj:=hU "value_text" "value_text" (top 47)
def zH (P:Params):Obj:=hC "value_text" "value_text" 606 607 608 [.int 169 0,.int 1 0,.int 0 0,.int 0 0,.int 3 0,.ref 264,.bool true,.int 181 0,.ref 265,.none,.none,.none,.ref 266,.int 609 0,.int 169 0,hT 610]
def zI (P:Params):Obj:=hF "value_text" "value_text" "oldhands.words" (top 47) 487 267
def DR (P:Params):Obj:=hS []
def DS (P:Params):Obj:=hN
def DT (P:Params):Obj:=hS [.str ("texts") 615]
def DU (P:Params):Obj:=hS []
def DV (P:Params):Obj:=hU "with_commas" "with_commas" (top 48)
def zJ (P:Params):Obj:=hC "with_commas" "with_commas" 612 613 614 [.int 181 0,.int 1 0,.int 0 0,.int 0 0,.int 3 0,.ref 269,.bool true,.int 181 0,.ref 270,.none,.ref 271,.ref 272,.ref 273,.int 616 0,.int 181 0,hT 617]
def zK (P:Params):Obj:=hF "with_commas" "with_commas" "oldhands.words" (top 48) 487 274
def DW (P:Params):Obj:=hS []
def DX (P:Params):Obj:=hN
def DY (P:Params):Obj:=hS [.str ("word") 622,.str ("text") 623]
def DZ (P:Params):Obj:=hS []
def D7 (P:Params):Obj:=hU "pair_text" "pair_text" (top 49)
def zL (P:Params):Obj:=hC "pair_text" "pair_text" 619 620 621 [.int 183 0,.int 2 0,.int 0 0,.int 0 0,.int 3 0,.ref 276,.bool true,.int 181 0,.ref 277,.none,.ref 278,.ref 279,.ref 280,.int 624 0,.int 183 0,hT 625]
def zM (P:Params):Obj:=hF "pair_text" "pair_text" "oldhands.words" (top 49) 487 281
def D8 (P:Params):Obj:=hS []
def D9 (P:Params):Obj:=hN
def Ea (P:Params):Obj:=hS [.str ("text") 630]
def Eb (P:Params):Obj:=hS []
def Ec (P:Params):Obj:=hU "quoted" "quoted" (top 50)
def zN (P:Params):Obj:=hC "quoted" "quoted" 627 628 629 [.int 185 0,.int 1 0,.int 0 0,.int 0 0,.int 3 0,.ref 283,.bool true,.int 181 0,.ref 284,.none,.ref 285,.ref 286,.ref 287,.int 631 0,.int 185 0,hT 632]
def zO (P:Params):Obj:=hF "quoted" "quoted" "oldhands.words" (top 50) 487 288
def zP (P:Params):Obj:={ cls:=.type "dict",data:=.dict #[hE P "field" 636 (.str ("kind") 637),hE P "entry" 638 (.str ("value") 639),hE P "way" 640 (.str ("word") 641)] 3 }
def zQ (P:Params):Obj:=hS [.str ("[") 646,.str ("list") 647,.str ("value") 648,.str ("]") 649]
def zR (P:Params):Obj:=hS [.str ("{") 650,.str ("record") 651,.str ("entry") 652,.str ("}") 653]
def zS (P:Params):Obj:=hS [.str ("(") 654,.str ("rows") 655,.str ("value") 656,.str (")") 657]
def zT (P:Params):Obj:=hS [.ref 291,.ref 292,.ref 293]
def Ed (P:Params):Obj:=hS []
def Ee (P:Params):Obj:=hN
def Ef (P:Params):Obj:=hS [.str ("text") 662,.str ("kind") 663]
def Eg (P:Params):Obj:=hS []
def Eh (P:Params):Obj:=hU "read_value" "read_value" (top 54)
def zU (P:Params):Obj:=hC "read_value" "read_value" 659 660 661 [.int 190 0,.int 2 0,.int 0 0,.int 0 0,.int 3 0,.ref 295,.bool true,.int 181 0,.ref 296,.none,.ref 297,.ref 298,.ref 299,.int 664 0,.int 190 0,hT 665]
def zV (P:Params):Obj:=hF "read_value" "read_value" "oldhands.texts" (top 54) 634 300
def Ei (P:Params):Obj:=hS []
def Ej (P:Params):Obj:=hN
def Ek (P:Params):Obj:=hS [.str ("text") 670,.str ("sort") 671,.str ("row") 672,.str ("told") 673]
def El (P:Params):Obj:=hS []
def Em (P:Params):Obj:=hU "read_all" "read_all" (top 55)
def zW (P:Params):Obj:=hC "read_all" "read_all" 667 668 669 [.int 192 0,.int 2 0,.int 0 0,.int 0 0,.int 3 0,.ref 302,.bool true,.int 181 0,.ref 303,.none,.ref 304,.ref 305,.ref 306,.int 674 0,.int 192 0,hT 675]
def zX (P:Params):Obj:=hF "read_all" "read_all" "oldhands.texts" (top 55) 634 307
def En (P:Params):Obj:=hS []
def Eo (P:Params):Obj:=hN
def Ep (P:Params):Obj:=hS [.str ("row") 680,.str ("sort") 681,.str ("path") 682]
def Er (P:Params):Obj:=hS []
def Es (P:Params):Obj:=hU "part_read" "part_read" (top 56)
def zY (P:Params):Obj:=hC "part_read" "part_read" 677 678 679 [.int 198 0,.int 2 0,.int 0 0,.int 0 0,.int 3 0,.ref 309,.bool true,.int 181 0,.ref 310,.none,.ref 311,.ref 312,.ref 313,.int 683 0,.int 198 0,hT 684]
def zZ (P:Params):Obj:=hF "part_read" "part_read" "oldhands.texts" (top 56) 634 314
def Et (P:Params):Obj:=hS []
def Eu (P:Params):Obj:=hN
def Ev (P:Params):Obj:=hS [.str ("row") 689,.str ("sort") 690,.str ("word") 691]
def Ew (P:Params):Obj:=hS []
def Ex (P:Params):Obj:=hU "pair_read" "pair_read" (top 57)
def z6 (P:Params):Obj:=hC "pair_read" "pair_read" 686 687 688 [.int 215 0,.int 2 0,.int 0 0,.int 0 0,.int 3 0,.ref 316,.bool true,.int 181 0,.ref 317,.none,.ref 318,.ref 319,.ref 320,.int 692 0,.int 215 0,hT 693]
def z7 (P:Params):Obj:=hF "pair_read" "pair_read" "oldhands.texts" (top 57) 634 321
def Ey (P:Params):Obj:=hS []
def Ez (P:Params):Obj:=hN
def EA (P:Params):Obj:=hS [.str ("row") 698,.str ("word") 699,.str ("found") 700]
def EB (P:Params):Obj:=hS []
def EC (P:Params):Obj:=hU "kind_read" "kind_read" (top 58)
def z8 (P:Params):Obj:=hC "kind_read" "kind_read" 695 696 697 [.int 219 0,.int 1 0,.int 0 0,.int 0 0,.int 3 0,.ref 323,.bool true,.int 181 0,.ref 324,.none,.ref 325,.ref 326,.ref 327,.int 701 0,.int 219 0,hT 702]
def z9 (P:Params):Obj:=hF "kind_read" "kind_read" "oldhands.texts" (top 58) 634 328
def ED (P:Params):Obj:=hS []
def EE (P:Params):Obj:=hN
def EF (P:Params):Obj:=hS [.str ("row") 707,.str ("opening") 708,.str ("word") 709,.str ("sort") 710,.str ("closing") 711]
def EG (P:Params):Obj:=hS []
def EH (P:Params):Obj:=hU "value_read" "value_read" (top 59)
def Aa (P:Params):Obj:=hC "value_read" "value_read" 704 705 706 [.int 229 0,.int 1 0,.int 0 0,.int 0 0,.int 3 0,.ref 330,.bool true,.int 181 0,.ref 331,.none,.ref 332,.ref 333,.ref 334,.int 712 0,.int 229 0,hT 713]
def Ab (P:Params):Obj:=hF "value_read" "value_read" "oldhands.texts" (top 59) 634 335
def EI (P:Params):Obj:=hS []
def EJ (P:Params):Obj:=hN
def EK (P:Params):Obj:=hS [.str ("row") 718,.str ("word") 719,.str ("forth") 720]
def EL (P:Params):Obj:=hS []
def EM (P:Params):Obj:=hU "turn_read" "turn_read" (top 60)
def Ac (P:Params):Obj:=hC "turn_read" "turn_read" 715 716 717 [.int 237 0,.int 1 0,.int 0 0,.int 0 0,.int 3 0,.ref 337,.bool true,.int 181 0,.ref 338,.none,.ref 339,.ref 340,.ref 341,.int 721 0,.int 237 0,hT 722]
def Ad (P:Params):Obj:=hF "turn_read" "turn_read" "oldhands.texts" (top 60) 634 342
def EN (P:Params):Obj:=hS []
def EO (P:Params):Obj:=hN
def EQ (P:Params):Obj:=hS [.str ("row") 727,.str ("names") 728]
def ER (P:Params):Obj:=hS []
def ES (P:Params):Obj:=hU "path_read" "path_read" (top 61)
def Ae (P:Params):Obj:=hC "path_read" "path_read" 724 725 726 [.int 244 0,.int 1 0,.int 0 0,.int 0 0,.int 3 0,.ref 344,.bool true,.int 181 0,.ref 345,.none,.ref 346,.ref 347,.ref 348,.int 729 0,.int 244 0,hT 730]
def Af (P:Params):Obj:=hF "path_read" "path_read" "oldhands.texts" (top 61) 634 349
def ET (P:Params):Obj:=hS []
def EU (P:Params):Obj:=hN
def EV (P:Params):Obj:=hS [.str ("row") 735,.str ("sort") 736,.str ("word") 737,.str ("form") 738,.str ("found") 739,.str ("part_sort") 740]
def EW (P:Params):Obj:=hS []
def EX (P:Params):Obj:=hU "form_read" "form_read" (top 62)
def Ag (P:Params):Obj:=hC "form_read" "form_read" 732 733 734 [.int 253 0,.int 3 0,.int 0 0,.int 0 0,.int 3 0,.ref 351,.bool true,.int 181 0,.ref 352,.none,.ref 353,.ref 354,.ref 355,.int 741 0,.int 253 0,hT 742]
def Ah (P:Params):Obj:=hF "form_read" "form_read" "oldhands.texts" (top 62) 634 356
def EY (P:Params):Obj:=hS []
def EZ (P:Params):Obj:=hN
def E1 (P:Params):Obj:=hS [.str ("row") 747,.str ("sort") 748,.str ("closing") 749,.str ("found") 750]
def E3 (P:Params):Obj:=hS []
def E4 (P:Params):Obj:=hU "list_read" "list_read" (top 63)
def Ai (P:Params):Obj:=hC "list_read" "list_read" 744 745 746 [.int 265 0,.int 3 0,.int 0 0,.int 0 0,.int 3 0,.ref 358,.bool true,.int 181 0,.ref 359,.none,.ref 360,.ref 361,.ref 362,.int 751 0,.int 265 0,hT 752]
def Aj (P:Params):Obj:=hF "list_read" "list_read" "oldhands.texts" (top 63) 634 363
def E5 (P:Params):Obj:=hS []
def E6 (P:Params):Obj:=hN
def E7 (P:Params):Obj:=hS [.str ("parts") 757]
def E8 (P:Params):Obj:=hS []
def E9 (P:Params):Obj:=hU "at_least_one" "at_least_one" (top 64)
def Ak (P:Params):Obj:=hC "at_least_one" "at_least_one" 754 755 756 [.int 273 0,.int 1 0,.int 0 0,.int 0 0,.int 3 0,.ref 365,.bool true,.int 181 0,.ref 366,.none,.ref 367,.ref 368,.ref 369,.int 758 0,.int 273 0,hT 759]
def Al (P:Params):Obj:=hF "at_least_one" "at_least_one" "oldhands.texts" (top 64) 634 370
def Fa (P:Params):Obj:=hS []
def Fb (P:Params):Obj:=hN
def Fc (P:Params):Obj:=hS [.str ("script") 766,.str ("k") 767]
def Fd (P:Params):Obj:=hS []
def Fe (P:Params):Obj:=hU "_law_cell_at" "_law_cell_at" (top 66)
def Am (P:Params):Obj:=hC "_law_cell_at" "_law_cell_at" 763 764 765 [.int 278 0,.int 2 0,.int 0 0,.int 0 0,.int 3 0,.ref 372,.bool true,.int 181 0,.ref 373,.none,.ref 374,.ref 375,.ref 376,.int 768 0,.int 278 0,hT 769]
def An (P:Params):Obj:=hF "_law_cell_at" "_law_cell_at" "law_oldhands_k86_values_in_words" (top 66) 761 377
def Ff (P:Params):Obj:=hS []
def Fg (P:Params):Obj:=hN
def Fh (P:Params):Obj:=hS [.str ("cell") 774,.str ("k") 775,.str ("stir") 776]
def Fi (P:Params):Obj:=hS []
def Fj (P:Params):Obj:=hU "_law_mixed" "_law_mixed" (top 67)
def Ao (P:Params):Obj:=hC "_law_mixed" "_law_mixed" 771 772 773 [.int 282 0,.int 2 0,.int 0 0,.int 0 0,.int 3 0,.ref 379,.bool true,.int 181 0,.ref 380,.none,.ref 381,.ref 382,.ref 383,.int 777 0,.int 282 0,hT 778]
def Ap (P:Params):Obj:=hF "_law_mixed" "_law_mixed" "law_oldhands_k86_values_in_words" (top 67) 761 384
def Fk (P:Params):Obj:=hS []
def Fl (P:Params):Obj:=hN
def Fm (P:Params):Obj:=hS [.str ("script") 783,.str ("k") 784,.str ("turn") 785,.str ("cell") 786,.str ("found") 787,.str ("j") 788]
def Fn (P:Params):Obj:=hS []
def Fo (P:Params):Obj:=hU "_law_own" "_law_own" (top 68)
def Aq (P:Params):Obj:=hC "_law_own" "_law_own" 780 781 782 [.int 285 0,.int 3 0,.int 0 0,.int 0 0,.int 3 0,.ref 386,.bool true,.int 181 0,.ref 387,.none,.ref 388,.ref 389,.ref 390,.int 789 0,.int 285 0,hT 790]
def Ar (P:Params):Obj:=hF "_law_own" "_law_own" "law_oldhands_k86_values_in_words" (top 68) 761 391
def Fp (P:Params):Obj:=hS []
def Fq (P:Params):Obj:=hN
def Fr (P:Params):Obj:=hS [.str ("row") 795,.str ("many") 796,.str ("digit") 797]
def Fs (P:Params):Obj:=hS []
def Ft (P:Params):Obj:=hU "_law_digit" "_law_digit" (top 69)
def As (P:Params):Obj:=hC "_law_digit" "_law_digit" 792 793 794 [.int 293 0,.int 2 0,.int 0 0,.int 0 0,.int 3 0,.ref 393,.bool true,.int 181 0,.ref 394,.none,.ref 395,.ref 396,.ref 397,.int 798 0,.int 293 0,hT 799]
def At (P:Params):Obj:=hF "_law_digit" "_law_digit" "law_oldhands_k86_values_in_words" (top 69) 761 398
def Fu (P:Params):Obj:=hS []
def Fv (P:Params):Obj:=hN
def Fw (P:Params):Obj:=hU "_law_names" "_law_names" (top 70)
def Au (P:Params):Obj:=hC "_law_names" "_law_names" 801 802 803 [.int 297 0,.int 2 0,.int 0 0,.int 0 0,.int 3 0,.ref 400,.bool true,.int 181 0,.ref 401,.none,.none,.none,.ref 402,.int 804 0,.int 297 0,hT 805]
def Av (P:Params):Obj:=hF "_law_names" "_law_names" "law_oldhands_k86_values_in_words" (top 70) 761 403
def Fx (P:Params):Obj:=hS []
def Fy (P:Params):Obj:=hN
def Fz (P:Params):Obj:=hS [.str ("row") 810,.str ("low") 811,.str ("high") 812]
def FA (P:Params):Obj:=hS []
def FC (P:Params):Obj:=hU "_law_number_kind" "_law_number_kind" (top 71)
def Aw (P:Params):Obj:=hC "_law_number_kind" "_law_number_kind" 807 808 809 [.int 307 0,.int 1 0,.int 0 0,.int 0 0,.int 3 0,.ref 405,.bool true,.int 181 0,.ref 406,.none,.ref 407,.ref 408,.ref 409,.int 813 0,.int 307 0,hT 814]
def Ax (P:Params):Obj:=hF "_law_number_kind" "_law_number_kind" "law_oldhands_k86_values_in_words" (top 71) 761 410
def FD (P:Params):Obj:=hS []
def FE (P:Params):Obj:=hN
def FF (P:Params):Obj:=hS [.str ("row") 819,.str ("way") 820,.str ("words") 821]
def FG (P:Params):Obj:=hS []
def FH (P:Params):Obj:=hU "_law_leaf_kind" "_law_leaf_kind" (top 72)
def Ay (P:Params):Obj:=hC "_law_leaf_kind" "_law_leaf_kind" 816 817 818 [.int 311 0,.int 1 0,.int 0 0,.int 0 0,.int 3 0,.ref 412,.bool true,.int 181 0,.ref 413,.none,.ref 414,.ref 415,.ref 416,.int 822 0,.int 311 0,hT 823]
def Az (P:Params):Obj:=hF "_law_leaf_kind" "_law_leaf_kind" "law_oldhands_k86_values_in_words" (top 72) 761 417
def FI (P:Params):Obj:=hS []
def FJ (P:Params):Obj:=hN
def FL (P:Params):Obj:=hS [.str ("row") 828,.str ("deep") 829,.str ("room") 830,.str ("many") 831,.str ("fields") 832,.str ("name") 833]
def FM (P:Params):Obj:=hS []
def FN (P:Params):Obj:=hU "_law_record_kind" "_law_record_kind" (top 73)
def AA (P:Params):Obj:=hC "_law_record_kind" "_law_record_kind" 825 826 827 [.int 321 0,.int 3 0,.int 0 0,.int 0 0,.int 3 0,.ref 419,.bool true,.int 181 0,.ref 420,.none,.ref 421,.ref 422,.ref 423,.int 834 0,.int 321 0,hT 835]
def AB (P:Params):Obj:=hF "_law_record_kind" "_law_record_kind" "law_oldhands_k86_values_in_words" (top 73) 761 424
def FO (P:Params):Obj:=hS []
def FP (P:Params):Obj:=hN
def FQ (P:Params):Obj:=hS [.str ("row") 840,.str ("deep") 841,.str ("room") 842,.str ("names") 843,.str ("key") 844,.str ("fields") 845,.str ("name") 846,.str ("inner") 847]
def FR (P:Params):Obj:=hS []
def FS (P:Params):Obj:=hU "_law_rows_kind" "_law_rows_kind" (top 74)
def AC (P:Params):Obj:=hC "_law_rows_kind" "_law_rows_kind" 837 838 839 [.int 327 0,.int 3 0,.int 0 0,.int 0 0,.int 3 0,.ref 426,.bool true,.int 181 0,.ref 427,.none,.ref 428,.ref 429,.ref 430,.int 848 0,.int 327 0,hT 849]
def AD (P:Params):Obj:=hF "_law_rows_kind" "_law_rows_kind" "law_oldhands_k86_values_in_words" (top 74) 761 431
def FT (P:Params):Obj:=hS []
def FU (P:Params):Obj:=hN
def FW (P:Params):Obj:=hS [.str ("row") 854,.str ("deep") 855,.str ("room") 856,.str ("way") 857]
def FX (P:Params):Obj:=hS []
def FY (P:Params):Obj:=hU "_law_kind" "_law_kind" (top 75)
def AE (P:Params):Obj:=hC "_law_kind" "_law_kind" 851 852 853 [.int 339 0,.int 3 0,.int 0 0,.int 0 0,.int 3 0,.ref 433,.bool true,.int 181 0,.ref 434,.none,.ref 435,.ref 436,.ref 437,.int 858 0,.int 339 0,hT 859]
def AF (P:Params):Obj:=hF "_law_kind" "_law_kind" "law_oldhands_k86_values_in_words" (top 75) 761 438
def FZ (P:Params):Obj:=hS []
def F3 (P:Params):Obj:=hN
def F6 (P:Params):Obj:=hU "_law_text" "_law_text" (top 76)
def AG (P:Params):Obj:=hC "_law_text" "_law_text" 861 862 863 [.int 349 0,.int 2 0,.int 0 0,.int 0 0,.int 3 0,.ref 440,.bool true,.int 181 0,.ref 441,.none,.none,.none,.ref 442,.int 864 0,.int 349 0,hT 865]
def AH (P:Params):Obj:=hF "_law_text" "_law_text" "law_oldhands_k86_values_in_words" (top 76) 761 443
def F7 (P:Params):Obj:=hS []
def F8 (P:Params):Obj:=hN
def F9 (P:Params):Obj:=hU "_law_keys" "_law_keys" (top 77)
def AI (P:Params):Obj:=hC "_law_keys" "_law_keys" 867 868 869 [.int 352 0,.int 2 0,.int 0 0,.int 0 0,.int 3 0,.ref 445,.bool true,.int 181 0,.ref 446,.none,.none,.none,.ref 447,.int 870 0,.int 352 0,hT 871]
def AJ (P:Params):Obj:=hF "_law_keys" "_law_keys" "law_oldhands_k86_values_in_words" (top 77) 761 448
def Ga (P:Params):Obj:=hS []
def Gb (P:Params):Obj:=hN
def Gc (P:Params):Obj:=hU "_law_row_values" "_law_row_values" (top 78)
def AK (P:Params):Obj:=hC "_law_row_values" "_law_row_values" 873 874 875 [.int 360 0,.int 2 0,.int 0 0,.int 0 0,.int 3 0,.ref 450,.bool true,.int 181 0,.ref 451,.none,.none,.none,.ref 452,.int 876 0,.int 360 0,hT 877]
def AL (P:Params):Obj:=hF "_law_row_values" "_law_row_values" "law_oldhands_k86_values_in_words" (top 78) 761 453
def Gd (P:Params):Obj:=hS []
def Ge (P:Params):Obj:=hN
def Gf (P:Params):Obj:=hU "_law_value" "_law_value" (top 79)
def AM (P:Params):Obj:=hC "_law_value" "_law_value" 879 880 881 [.int 375 0,.int 2 0,.int 0 0,.int 0 0,.int 3 0,.ref 455,.bool true,.int 181 0,.ref 456,.none,.none,.none,.ref 457,.int 882 0,.int 375 0,hT 883]
def AN (P:Params):Obj:=hF "_law_value" "_law_value" "law_oldhands_k86_values_in_words" (top 79) 761 458
def Gg (P:Params):Obj:=hS []
def Gh (P:Params):Obj:=hN
def Gi (P:Params):Obj:=hS [.str ("value") 888,.str ("words") 889,.str ("part") 890,.str ("marks") 891]
def Gj (P:Params):Obj:=hS []
def Gk (P:Params):Obj:=hU "_law_value_words" "_law_value_words" (top 80)
def AO (P:Params):Obj:=hC "_law_value_words" "_law_value_words" 885 886 887 [.int 394 0,.int 1 0,.int 0 0,.int 0 0,.int 3 0,.ref 460,.bool true,.int 181 0,.ref 461,.none,.ref 462,.ref 463,.ref 464,.int 892 0,.int 394 0,hT 893]
def AQ (P:Params):Obj:=hF "_law_value_words" "_law_value_words" "law_oldhands_k86_values_in_words" (top 80) 761 465
def Gm (P:Params):Obj:=hS []
def Go (P:Params):Obj:=hN
def Gp (P:Params):Obj:=hU "_law_tight" "_law_tight" (top 81)
def AR (P:Params):Obj:=hC "_law_tight" "_law_tight" 895 896 897 [.int 407 0,.int 1 0,.int 0 0,.int 0 0,.int 3 0,.ref 467,.bool true,.int 181 0,.ref 468,.none,.none,.none,.ref 469,.int 898 0,.int 407 0,hT 899]
def AS (P:Params):Obj:=hF "_law_tight" "_law_tight" "law_oldhands_k86_values_in_words" (top 81) 761 470
def Gq (P:Params):Obj:=hS []
def Gr (P:Params):Obj:=hN
def Gs (P:Params):Obj:=hU "_law_loose" "_law_loose" (top 82)
def AT (P:Params):Obj:=hC "_law_loose" "_law_loose" 901 902 903 [.int 409 0,.int 2 0,.int 0 0,.int 0 0,.int 3 0,.ref 472,.bool true,.int 181 0,.ref 473,.none,.none,.none,.ref 474,.int 904 0,.int 409 0,hT 905]
def AU (P:Params):Obj:=hF "_law_loose" "_law_loose" "law_oldhands_k86_values_in_words" (top 82) 761 475
def Gu (P:Params):Obj:=hS []
def Gv (P:Params):Obj:=hN
def Gw (P:Params):Obj:=hU "_law_same" "_law_same" (top 83)
def AV (P:Params):Obj:=hC "_law_same" "_law_same" 907 908 909 [.int 411 0,.int 2 0,.int 0 0,.int 0 0,.int 3 0,.ref 477,.bool true,.int 181 0,.ref 478,.none,.none,.none,.ref 479,.int 910 0,.int 411 0,hT 911]
def AW (P:Params):Obj:=hF "_law_same" "_law_same" "law_oldhands_k86_values_in_words" (top 83) 761 480
def Gx (P:Params):Obj:=hS []
def Gy (P:Params):Obj:=hN
def Gz (P:Params):Obj:=hS [.str ("text") 916,.str ("kind") 917,.str ("told") 918,.str ("e") 919]
def GA (P:Params):Obj:=hS []
def GB (P:Params):Obj:=hU "_law_by" "_law_by" (top 84)
def AX (P:Params):Obj:=hC "_law_by" "_law_by" 913 914 915 [.int 415 0,.int 2 0,.int 0 0,.int 0 0,.int 3 0,.ref 482,.bool true,.int 181 0,.ref 483,.none,.ref 484,.ref 485,.ref 486,.int 920 0,.int 415 0,hT 921]
def AY (P:Params):Obj:=hF "_law_by" "_law_by" "law_oldhands_k86_values_in_words" (top 84) 761 487
def GC (P:Params):Obj:=hS []
def GD (P:Params):Obj:=hN
def GE (P:Params):Obj:=hS [.str ("script") 926,.str ("k") 927,.str ("turn") 928,.str ("row") 929,.str ("kind") 930,.str ("value") 931,.str ("words") 932,.str ("text") 933,.str ("loose") 934,.str ("other") 935,.str ("due") 936]
def GF (P:Params):Obj:=hS []
def GG (P:Params):Obj:=hU "law" "law" (top 85)
def AZ (P:Params):Obj:=hC "law" "law" 923 924 925 [.int 422 0,.int 1 0,.int 0 0,.int 0 0,.int 3 0,.ref 489,.bool true,.int 181 0,.ref 490,.none,.ref 491,.ref 492,.ref 493,.int 937 0,.int 422 0,hT 938]
def A0 (P:Params):Obj:=hF "law" "law" "law_oldhands_k86_values_in_words" (top 85) 761 494
abbrev N (v:Obj) (l r:W.BT):W.BT:=.node v l r
abbrev E:W.BT:=.nil
def fT (P:Params):W.BT:=N (o0 P) (N (o1 P) (N (o3 P) (N (o7 P) (N o15 (N o11 (N o63 (N (yy P) (N (zD P) E E) (N (Fj P) E E)) (N (Di P) (N (Ew P) E E) (N (F9 P) E E))) (N o11 (N (CT P) (N (Ec P) E E) (N (FG P) E E)) (N (y8 P) (N (ET P) E E) (N (Gw P) E E)))) (N o11 (N o79 (N (CG P) (N (DT P) E E) (N (At P) E E)) (N (yU P) (N (Aa P) E E) (N (Gj P) E E))) (N (Cj P) (N (C4 P) (N (Ej P) E E) (N (AC P) E E)) (N (zp P) (N (E7 P) E E) (N (A0 P) E E))))) (N (o23 P) (N o39 (N o71 (N (CA P) (N (zG P) E E) (N (Aq P) E E)) (N (Do P) (N (EC P) E E) (N (Gd P) E E))) (N (yp P) (N (CY P) (N (Ed P) E E) (N (FN P) E E)) (N (zg P) (N (EZ P) E E) (N (AX P) E E)))) (N o11 (N o11 (N (CM P) (N (DZ P) E E) (N (Fz P) E E)) (N (yX P) (N (Ad P) E E) (N (AS P) E E))) (N (yv P) (N (Dc P) (N (Ep P) E E) (N (AF P) E E)) (N (zA P) (N (Fd P) E E) E))))) (N o11 (N o19 (N o11 (N o19 (N (Cy P) (N (DL P) E E) (N (Fl P) E E)) (N (Dk P) (N (Ey P) E E) (N (Gb P) E E))) (N o11 (N (CV P) (N (zQ P) E E) (N (FI P) E E)) (N (zc P) (N (EX P) E E) (N (Gy P) E E)))) (N o51 (N o11 (N (yF P) (N (zK P) E E) (N (Au P) E E)) (N (Dz P) (N (EK P) E E) (N (Gm P) E E))) (N (yu P) (N (C8 P) (N (zW P) E E) (N (FW P) E E)) (N (zu P) (N (Al P) E E) E)))) (N o27 (N o11 (N o75 (N (yC P) (N (zH P) E E) (N (Fr P) E E)) (N (Dq P) (N (EE P) E E) (N (AN P) E E))) (N (yq P) (N (C2 P) (N (Eh P) E E) (N (FP P) E E)) (N (zk P) (N (Ai P) E E) (N (GE P) E E)))) (N o11 (N o91 (N (CO P) (N (D8 P) E E) (N (Ax P) E E)) (N (y6 P) (N (ER P) E E) (N (AT P) E E))) (N (Cr P) (N (yP P) (N (zZ P) E E) (N (AG P) E E)) (N (DF P) (N (Ff P) E E) E)))))) (N (o5 P) (N (o9 P) (N (o17 P) (N o33 (N o65 (N (Cv P) (N (DJ P) E E) (N (Ap P) E E)) (N (yQ P) (N (z6 P) E E) (N (AJ P) E E))) (N o97 (N (yJ P) (N (zO P) E E) (N (Ay P) E E)) (N (za P) (N (EV P) E E) (N (AW P) E E)))) (N o49 (N o19 (N (CI P) (N (DV P) E E) (N (Fv P) E E)) (N (Dx P) (N (EI P) E E) (N (AO P) E E))) (N (Cl P) (N (C6 P) (N (El P) E E) (N (FT P) E E)) (N (zr P) (N (E9 P) E E) E)))) (N o25 (N o16 (N o11 (N (CC P) (N (DP P) E E) (N (Fp P) E E)) (N (yT P) (N (z9 P) E E) (N (Gf P) E E))) (N (Cf P) (N (C0 P) (N (Ef P) E E) (N (AB P) E E)) (N (zi P) (N (E3 P) E E) (N (GC P) E E)))) (N o57 (N o89 (N (yG P) (N (zL P) E E) (N (FC P) E E)) (N (yZ P) (N (EO P) E E) (N (Gr P) E E))) (N (Cp P) (N (De P) (N (Es P) E E) (N (F3 P) E E)) (N (zC P) (N (Am P) E E) E))))) (N o13 (N o21 (N o37 (N o11 (N (yz P) (N (DN P) E E) (N (Fn P) E E)) (N (Dm P) (N (EA P) E E) (N (AK P) E E))) (N (Cd P) (N (yK P) (N (zS P) E E) (N (FL P) E E)) (N (ze P) (N (Ah P) E E) (N (GA P) E E)))) (N o19 (N o85 (N (CK P) (N (DX P) E E) (N (Fx P) E E)) (N (DB P) (N (EM P) E E) (N (Gp P) E E))) (N (Cn P) (N (Da P) (N (En P) E E) (N (FY P) E E)) (N (zx P) (N (Fb P) E E) E)))) (N o16 (N o45 (N o77 (N (CD P) (N (DR P) E E) (N (Ft P) E E)) (N (Du P) (N (EG P) E E) (N (Gh P) E E))) (N (Ch P) (N (yN P) (N (zV P) E E) (N (FR P) E E)) (N (zn P) (N (E5 P) E E) (N (GG P) E E)))) (N o61 (N o19 (N (CQ P) (N (Ea P) E E) (N (FE P) E E)) (N (DC P) (N (Ae P) E E) (N (Gu P) E E))) (N (Ct P) (N (Dg P) (N (Eu P) E E) (N (F7 P) E E)) (N (DH P) (N (Fh P) E E) E))))))) (N (o2 P) (N (o4 P) (N (o8 P) (N o16 (N o19 (N o64 (N (Cu P) (N (zE P) E E) (N (Ao P) E E)) (N (Dj P) (N (Ex P) E E) (N (AI P) E E))) (N o96 (N (yI P) (N (zN P) E E) (N (FH P) E E)) (N (y9 P) (N (EU P) E E) (N (AV P) E E)))) (N (o48 P) (N o11 (N (CH P) (N (DU P) E E) (N (Fu P) E E)) (N (yV P) (N (Ab P) E E) (N (Gk P) E E))) (N (Ck P) (N (C5 P) (N (Ek P) E E) (N (AD P) E E)) (N (zq P) (N (E8 P) E E) E)))) (N o24 (N o28 (N o72 (N (CB P) (N (DO P) E E) (N (Ar P) E E)) (N (yS P) (N (z8 P) E E) (N (Ge P) E E))) (N (Ce P) (N (CZ P) (N (Ee P) E E) (N (AA P) E E)) (N (zh P) (N (E1 P) E E) (N (AY P) E E)))) (N o56 (N o19 (N (CN P) (N (D7 P) E E) (N (FA P) E E)) (N (yY P) (N (EN P) E E) (N (Gq P) E E))) (N (yw P) (N (Dd P) (N (Er P) E E) (N (FZ P) E E)) (N (zB P) (N (Fe P) E E) E))))) (N o12 (N o20 (N (o36 P) (N o68 (N (Cz P) (N (DM P) E E) (N (Fm P) E E)) (N (Dl P) (N (Ez P) E E) (N (Gc P) E E))) (N (Cc P) (N (CW P) (N (zR P) E E) (N (FJ P) E E)) (N (zd P) (N (Ag P) E E) (N (Gz P) E E)))) (N o11 (N o84 (N (CJ P) (N (DW P) E E) (N (Av P) E E)) (N (DA P) (N (EL P) E E) (N (Go P) E E))) (N (Cm P) (N (C9 P) (N (zX P) E E) (N (FX P) E E)) (N (zw P) (N (Fa P) E E) E)))) (N o28 (N o19 (N o11 (N (yD P) (N (zI P) E E) (N (Fs P) E E)) (N (Ds P) (N (EF P) E E) (N (Gg P) E E))) (N (yr P) (N (yM P) (N (zU P) E E) (N (FQ P) E E)) (N (zm P) (N (Aj P) E E) (N (GF P) E E)))) (N o19 (N o11 (N (CP P) (N (D9 P) E E) (N (FD P) E E)) (N (y7 P) (N (ES P) E E) (N (AU P) E E))) (N (Cs P) (N (Df P) (N (Et P) E E) (N (AH P) E E)) (N (DG P) (N (Fg P) E E) E)))))) (N (o6 P) (N (o10 P) (N o11 (N o34 (N o11 (N (Cw P) (N (DK P) E E) (N (Fk P) E E)) (N (yR P) (N (z7 P) E E) (N (Ga P) E E))) (N o98 (N (CU P) (N (zP P) E E) (N (Az P) E E)) (N (zb P) (N (EW P) E E) (N (Gx P) E E)))) (N o50 (N o82 (N (yE P) (N (zJ P) E E) (N (Fw P) E E)) (N (Dy P) (N (EJ P) E E) (N (AQ P) E E))) (N (yt P) (N (C7 P) (N (Em P) E E) (N (FU P) E E)) (N (zt P) (N (Ak P) E E) E)))) (N o26 (N (o42 P) (N o19 (N (yB P) (N (DQ P) E E) (N (Fq P) E E)) (N (Dp P) (N (ED P) E E) (N (AM P) E E))) (N (Cg P) (N (C1 P) (N (Eg P) E E) (N (FO P) E E)) (N (zj P) (N (E4 P) E E) (N (GD P) E E)))) (N o58 (N o90 (N (yH P) (N (zM P) E E) (N (Aw P) E E)) (N (y4 P) (N (EQ P) E E) (N (Gs P) E E))) (N (Cq P) (N (yO P) (N (zY P) E E) (N (F6 P) E E)) (N (DE P) (N (An P) E E) E))))) (N o14 (N o11 (N o38 (N o70 (N (yA P) (N (zF P) E E) (N (Fo P) E E)) (N (Dn P) (N (EB P) E E) (N (AL P) E E))) (N (yo P) (N (yL P) (N (zT P) E E) (N (FM P) E E)) (N (zf P) (N (EY P) E E) (N (GB P) E E)))) (N o54 (N o86 (N (CL P) (N (DY P) E E) (N (Fy P) E E)) (N (yW P) (N (Ac P) E E) (N (AR P) E E))) (N (Co P) (N (Db P) (N (Eo P) E E) (N (AE P) E E)) (N (zy P) (N (Fc P) E E) E)))) (N (o30 P) (N o46 (N o78 (N (CF P) (N (DS P) E E) (N (As P) E E)) (N (Dv P) (N (EH P) E E) (N (Gi P) E E))) (N (Ci P) (N (C3 P) (N (Ei P) E E) (N (FS P) E E)) (N (zo P) (N (E6 P) E E) (N (AZ P) E E)))) (N o11 (N o94 (N (CS P) (N (Eb P) E E) (N (FF P) E E)) (N (DD P) (N (Af P) E E) (N (Gv P) E E))) (N (yx P) (N (Dh P) (N (Ev P) E E) (N (F8 P) E E)) (N (DI P) (N (Fi P) E E) E)))))))
def fO (P:Params) (i:Nat):Obj:=match (fT P).get i with | some v=>v | none=>hN
def mT (P:Params) (n:Nat):Nat→Nat→Nat→W.BT
 | 0,_,_=>.nil
 | k+1,a,b=>match Nat.blt b n with
  | true=>.node (fO P b) (mT P n k (Nat.mul 2 a) (Nat.add a b)) (mT P n k (Nat.mul 2 a) (Nat.add (Nat.mul 2 a) b))
  | false=>.nil
abbrev hA1:Option Value:=some (.ref 6)
abbrev hB1:List Frame:=[W.topFrame ⟨0,0,0,0⟩]
def cD:Env:={ scope:=pwX.main.scope,locals:=mainNs,globals:=mainNs,cells:=[],code:=.ref 13,frame:=some 14 }
abbrev hCo:Code:=.body (W.behindTheImports pwX) cD
def hp0 (P:Params):Heap:=⟨Array.mk (o0 P :: o1 P :: o2 P :: (gD P "__main__" 164 8 9) :: o4 P :: o5 P :: o6 P :: o7 P :: o8 P :: o9 P :: o10 P :: o11 :: (tD 0) :: o13 :: o14 :: []),{}⟩
def tB (P:Params):W.BT:=((mT P 15 10 1 0).set 3 (fun _=>gD P "__main__" 164 8 9)).set 12 (fun _=>tD 0)
def sB (w:World) (os:OsState):W.SharedT:=⟨tB w.params,15,{},Array.mk [],{},187,os⟩
def t0 (P:Params):W.BT:=(((mT P 28 10 1 0).set 3 (fun _=>gD P "oldhands.errors" 187 9 10)).set 12 (fun _=>tD 3)).set 24 (fun _=>{ cls:=.type "type",data:=.cls { name:= "HandError",bases:=[.type "ValueError"],mro:=[.ref 24,.type "ValueError",.type "Exception",.type "BaseException",.type "object"],ns:=23,qualname:= "HandError" },slots:=#[some (.ref 15),none,some (.str ("HandError") 189),some (.str ("HandError") 197),some (.builtin "ValueError.__new__"),some (.bool true)] })
def s0 (w:World) (os:OsState):W.SharedT:=⟨t0 w.params,28,{},Array.mk [],{},207,os⟩
def st0:List Stmt:=((W.behindTheImports pwX).drop 0).take 2
def t1 (P:Params):W.BT:=(((mT P 40 10 1 0).set 3 (fun _=>gD P "oldhands.errors" 187 10 11)).set 12 (fun _=>tD 6)).set 24 (fun _=>{ cls:=.type "type",data:=.cls { name:= "HandError",bases:=[.type "ValueError"],mro:=[.ref 24,.type "ValueError",.type "Exception",.type "BaseException",.type "object"],ns:=23,qualname:= "HandError",subclasses:=[.ref 37] },slots:=#[some (.ref 15),none,some (.str ("HandError") 189),some (.str ("HandError") 197),some (.builtin "ValueError.__new__"),some (.bool true)] })
def s1 (w:World) (os:OsState):W.SharedT:=⟨t1 w.params,40,{},Array.mk [],{},223,os⟩
def st1:List Stmt:=((W.behindTheImports pwX).drop 2).take 1
def t2 (P:Params):W.BT:=((mT P 80 10 1 0).set 3 (fun _=>gD P "oldhands.values" 261 18 19)).set 12 (fun _=>tD 21)
def s2 (w:World) (os:OsState):W.SharedT:=⟨t2 w.params,80,{},Array.mk [],{},281,os⟩
def st2:List Stmt:=((W.behindTheImports pwX).drop 3).take 10
def t3 (P:Params):W.BT:=((mT P 141 10 1 0).set 3 (fun _=>gD P "oldhands.tokens" 356 38 39)).set 12 (fun _=>tD 51)
def s3 (w:World) (os:OsState):W.SharedT:=⟨t3 w.params,141,{},Array.mk [],{},377,os⟩
def st3:List Stmt:=((W.behindTheImports pwX).drop 13).take 22
def t4 (P:Params):W.BT:=((mT P 174 10 1 0).set 3 (fun _=>gD P "oldhands.tokens" 356 43 44)).set 12 (fun _=>tD 66)
def s4 (w:World) (os:OsState):W.SharedT:=⟨t4 w.params,174,{},Array.mk [],{},423,os⟩
def st4:List Stmt:=((W.behindTheImports pwX).drop 35).take 5
def t5 (P:Params):W.BT:=((mT P 223 10 1 0).set 3 (fun _=>gD P "oldhands.words" 487 44 45)).set 12 (fun _=>tD 69)
def s5 (w:World) (os:OsState):W.SharedT:=⟨t5 w.params,223,{},Array.mk [],{},489,os⟩
def st5:List Stmt:=((W.behindTheImports pwX).drop 40).take 2
def t6 (P:Params):W.BT:=((mT P 239 10 1 0).set 3 (fun _=>gD P "oldhands.words" 487 46 47)).set 12 (fun _=>tD 69)
def s6 (w:World) (os:OsState):W.SharedT:=⟨t6 w.params,239,{},Array.mk [],{},538,os⟩
def st6:List Stmt:=((W.behindTheImports pwX).drop 42).take 2
def t7 (P:Params):W.BT:=((mT P 290 10 1 0).set 3 (fun _=>gD P "oldhands.texts" 634 53 54)).set 12 (fun _=>tD 87)
def s7 (w:World) (os:OsState):W.SharedT:=⟨t7 w.params,290,{},Array.mk [],{},636,os⟩
def st7:List Stmt:=((W.behindTheImports pwX).drop 44).take 8
def t8 (P:Params):W.BT:=((mT P 365 10 1 0).set 3 (fun _=>gD P "oldhands.texts" 634 65 66)).set 12 (fun _=>tD 117)
def s8 (w:World) (os:OsState):W.SharedT:=⟨t8 w.params,365,{},Array.mk [],{},754,os⟩
def st8:List Stmt:=((W.behindTheImports pwX).drop 52).take 12
def t9 (P:Params):W.BT:=((mT P 445 10 1 0).set 3 (fun _=>gD P "law_oldhands_k86_values_in_words" 761 77 78)).set 12 (fun _=>tD 153)
def s9 (w:World) (os:OsState):W.SharedT:=⟨t9 w.params,445,{},Array.mk [],{},867,os⟩
def st9:List Stmt:=((W.behindTheImports pwX).drop 64).take 13
def t10 (P:Params):W.BT:=mT P 496 10 1 0
def s10 (w:World) (os:OsState):W.SharedT:=⟨t10 w.params,496,{},Array.mk [],{},940,os⟩
def GH:List Stmt:=((W.behindTheImports pwX).drop 77).take 9
def hp1 (P:Params):Heap:=⟨Array.mk (o0 P :: o1 P :: o2 P :: o3 P :: o4 P :: o5 P :: o6 P :: o7 P :: o8 P :: o9 P :: o10 P :: o11 :: o12 :: o13 :: o14 :: o15 :: o16 :: o17 P :: o11 :: o19 :: o20 :: o21 :: o11 :: o23 P :: o24 :: o25 :: o26 :: o27 :: o28 :: o16 :: o30 P :: o11 :: o19 :: o33 :: o34 :: o11 :: o36 P :: o37 :: o38 :: o39 :: o28 :: o16 :: o42 P :: o11 :: o19 :: o45 :: o46 :: o11 :: o48 P :: o49 :: o50 :: o51 :: o11 :: o19 :: o54 :: o11 :: o56 :: o57 :: o58 :: o11 :: o19 :: o61 :: o11 :: o63 :: o64 :: o65 :: o11 :: o19 :: o68 :: o11 :: o70 :: o71 :: o72 :: o11 :: o19 :: o75 :: o11 :: o77 :: o78 :: o79 :: o11 :: o19 :: o82 :: o11 :: o84 :: o85 :: o86 :: o11 :: o19 :: o89 :: o90 :: o91 :: o11 :: o19 :: o94 :: o11 :: o96 :: o97 :: o98 :: o11 :: Cc P :: Cd P :: yo P :: yp P :: Ce P :: Cf P :: Cg P :: yq P :: yr P :: Ch P :: Ci P :: Cj P :: Ck P :: Cl P :: yt P :: yu P :: Cm P :: Cn P :: Co P :: yv P :: yw P :: Cp P :: Cq P :: Cr P :: Cs P :: Ct P :: yx P :: yy P :: Cu P :: Cv P :: Cw P :: Cy P :: Cz P :: yz P :: yA P :: CA P :: CB P :: CC P :: yB P :: yC P :: yD P :: CD P :: CF P :: CG P :: CH P :: CI P :: yE P :: yF P :: CJ P :: CK P :: CL P :: CM P :: CN P :: yG P :: yH P :: CO P :: CP P :: CQ P :: CS P :: CT P :: yI P :: yJ P :: CU P :: CV P :: CW P :: yK P :: yL P :: CY P :: CZ P :: C0 P :: C1 P :: C2 P :: yM P :: yN P :: C3 P :: C4 P :: C5 P :: C6 P :: C7 P :: C8 P :: C9 P :: Da P :: Db P :: Dc P :: Dd P :: De P :: yO P :: yP P :: Df P :: Dg P :: Dh P :: Di P :: Dj P :: yQ P :: yR P :: Dk P :: Dl P :: Dm P :: Dn P :: Do P :: yS P :: yT P :: Dp P :: Dq P :: Ds P :: Du P :: Dv P :: yU P :: yV P :: Dx P :: Dy P :: Dz P :: DA P :: DB P :: yW P :: yX P :: yY P :: yZ P :: y4 P :: y6 P :: y7 P :: DC P :: DD P :: y8 P :: y9 P :: za P :: zb P :: zc P :: zd P :: ze P :: zf P :: zg P :: zh P :: zi P :: zj P :: zk P :: zm P :: zn P :: zo P :: zp P :: zq P :: zr P :: zt P :: zu P :: zw P :: zx P :: zy P :: zA P :: zB P :: zC P :: DE P :: DF P :: DG P :: DH P :: DI P :: zD P :: zE P :: DJ P :: DK P :: DL P :: DM P :: DN P :: zF P :: zG P :: DO P :: DP P :: DQ P :: zH P :: zI P :: DR P :: DS P :: DT P :: DU P :: DV P :: zJ P :: zK P :: DW P :: DX P :: DY P :: DZ P :: D7 P :: zL P :: zM P :: D8 P :: D9 P :: Ea P :: Eb P :: Ec P :: zN P :: zO P :: zP P :: zQ P :: zR P :: zS P :: zT P :: Ed P :: Ee P :: Ef P :: Eg P :: Eh P :: zU P :: zV P :: Ei P :: Ej P :: Ek P :: El P :: Em P :: zW P :: zX P :: En P :: Eo P :: Ep P :: Er P :: Es P :: zY P :: zZ P :: Et P :: Eu P :: Ev P :: Ew P :: Ex P :: z6 P :: z7 P :: Ey P :: Ez P :: EA P :: EB P :: EC P :: z8 P :: z9 P :: ED P :: EE P :: EF P :: EG P :: EH P :: Aa P :: Ab P :: EI P :: EJ P :: EK P :: EL P :: EM P :: Ac P :: Ad P :: EN P :: EO P :: EQ P :: ER P :: ES P :: Ae P :: Af P :: ET P :: EU P :: EV P :: EW P :: EX P :: Ag P :: Ah P :: EY P :: EZ P :: E1 P :: E3 P :: E4 P :: Ai P :: Aj P :: E5 P :: E6 P :: E7 P :: E8 P :: E9 P :: Ak P :: Al P :: Fa P :: Fb P :: Fc P :: Fd P :: Fe P :: Am P :: An P :: Ff P :: Fg P :: Fh P :: Fi P :: Fj P :: Ao P :: Ap P :: Fk P :: Fl P :: Fm P :: Fn P :: Fo P :: Aq P :: Ar P :: Fp P :: Fq P :: Fr P :: Fs P :: Ft P :: As P :: At P :: Fu P :: Fv P :: Fw P :: Au P :: Av P :: Fx P :: Fy P :: Fz P :: FA P :: FC P :: Aw P :: Ax P :: FD P :: FE P :: FF P :: FG P :: FH P :: Ay P :: Az P :: FI P :: FJ P :: FL P :: FM P :: FN P :: AA P :: AB P :: FO P :: FP P :: FQ P :: FR P :: FS P :: AC P :: AD P :: FT P :: FU P :: FW P :: FX P :: FY P :: AE P :: AF P :: FZ P :: F3 P :: F6 P :: AG P :: AH P :: F7 P :: F8 P :: F9 P :: AI P :: AJ P :: Ga P :: Gb P :: Gc P :: AK P :: AL P :: Gd P :: Ge P :: Gf P :: AM P :: AN P :: Gg P :: Gh P :: Gi P :: Gj P :: Gk P :: AO P :: AQ P :: Gm P :: Go P :: Gp P :: AR P :: AS P :: Gq P :: Gr P :: Gs P :: AT P :: AU P :: Gu P :: Gv P :: Gw P :: AV P :: AW P :: Gx P :: Gy P :: Gz P :: GA P :: GB P :: AX P :: AY P :: GC P :: GD P :: GE P :: GF P :: GG P :: AZ P :: A0 P :: []),{}⟩
theorem Ig:∀ w:World,(fun os=>W.topGo treeTable pwX w 11 hA1 12 ⟨W.boot_heap w.params,Array.mk [],W.boot_drawn,W.boot_toks,os⟩ (W.topStub pwX))=fun os=>some (⟨hp0 w.params,Array.mk [],{},187,os⟩,⟨denote treeTable hCo,hCo,⟨0,0,0,0⟩,hB1⟩):=fun w=>by kernel_rfl
theorem A1:∀ w:World,(fun os=>W.segRun treeTable pwX w 11 hA1 1 1 ⟨hp0 w.params,Array.mk [],{},187,os⟩ (W.blockOf (W.behindTheImports pwX) cD hCo ⟨0,0,0,0⟩ hB1))=fun os=>some (.next,(sB w os).abs,hCo,⟨0,0,0,0⟩):=fun w=>by kernel_rfl
theorem r0:∀ w:World,(fun os=>W.segRunT treeTable pwX w 11 hA1 1 196 (sB w os) (W.piecesOf st0 cD hCo ⟨0,0,0,0⟩ hB1))=fun os=>some (.next,s0 w os,hCo,⟨2,0,3,8⟩):=fun w=>by kernel_rfl
theorem r1:∀ w:World,(fun os=>W.segRunT treeTable pwX w 11 hA1 1 214 (s0 w os) (W.piecesOf st1 cD hCo ⟨2,0,3,8⟩ hB1))=fun os=>some (.next,s1 w os,hCo,⟨4,0,5,8⟩):=fun w=>by kernel_rfl
theorem r2:∀ w:World,(fun os=>W.segRunT treeTable pwX w 11 hA1 1 379 (s1 w os) (W.piecesOf st2 cD hCo ⟨4,0,5,8⟩ hB1))=fun os=>some (.next,s2 w os,hCo,⟨19,0,31,88⟩):=fun w=>by kernel_rfl
theorem r3:∀ w:World,(fun os=>W.segRunT treeTable pwX w 11 hA1 1 393 (s2 w os) (W.piecesOf st3 cD hCo ⟨19,0,31,88⟩ hB1))=fun os=>some (.next,s3 w os,hCo,⟨82,0,82,3⟩):=fun w=>by kernel_rfl
theorem r4:∀ w:World,(fun os=>W.segRunT treeTable pwX w 11 hA1 1 155 (s3 w os) (W.piecesOf st4 cD hCo ⟨82,0,82,3⟩ hB1))=fun os=>some (.next,s4 w os,hCo,⟨121,0,130,18⟩):=fun w=>by kernel_rfl
theorem r5:∀ w:World,(fun os=>W.segRunT treeTable pwX w 11 hA1 1 363 (s4 w os) (W.piecesOf st5 cD hCo ⟨121,0,130,18⟩ hB1))=fun os=>some (.next,s5 w os,hCo,⟨155,0,155,8⟩):=fun w=>by kernel_rfl
theorem r6f:∀ w:World,(fun os=>W.segRunT treeTable pwX (w.withFollow "special-get-raises" false) 11 hA1 1 264 (s5 (w.withFollow "special-get-raises" false) os) (W.piecesOf st6 cD hCo ⟨155,0,155,8⟩ hB1))=fun os=>some (.next,s6 (w.withFollow "special-get-raises" false) os,hCo,⟨157,0,157,10⟩):=fun w=>by kernel_rfl
theorem r6t:∀ w:World,(fun os=>W.segRunT treeTable pwX (w.withFollow "special-get-raises" true) 11 hA1 1 264 (s5 (w.withFollow "special-get-raises" true) os) (W.piecesOf st6 cD hCo ⟨155,0,155,8⟩ hB1))=fun os=>some (.next,s6 (w.withFollow "special-get-raises" true) os,hCo,⟨157,0,157,10⟩):=fun w=>by kernel_rfl
theorem r6:∀ w:World,(fun os=>W.segRunT treeTable pwX w 11 hA1 1 264 (s5 w os) (W.piecesOf st6 cD hCo ⟨155,0,155,8⟩ hB1))=fun os=>some (.next,s6 w os,hCo,⟨157,0,157,10⟩):=W.byRow2 "special-get-raises" (P:=fun w=>(fun os=>W.segRunT treeTable pwX w 11 hA1 1 264 (s5 w os) (W.piecesOf st6 cD hCo ⟨155,0,155,8⟩ hB1))=fun os=>some (.next,s6 w os,hCo,⟨157,0,157,10⟩)) r6f r6t
theorem r7f:∀ w:World,(fun os=>W.segRunT treeTable pwX (w.withFollow "special-get-raises" false) 11 hA1 1 385 (s6 (w.withFollow "special-get-raises" false) os) (W.piecesOf st7 cD hCo ⟨157,0,157,10⟩ hB1))=fun os=>some (.next,s7 (w.withFollow "special-get-raises" false) os,hCo,⟨187,0,187,8⟩):=fun w=>by kernel_rfl
theorem r7t:∀ w:World,(fun os=>W.segRunT treeTable pwX (w.withFollow "special-get-raises" true) 11 hA1 1 385 (s6 (w.withFollow "special-get-raises" true) os) (W.piecesOf st7 cD hCo ⟨157,0,157,10⟩ hB1))=fun os=>some (.next,s7 (w.withFollow "special-get-raises" true) os,hCo,⟨187,0,187,8⟩):=fun w=>by kernel_rfl
theorem r7:∀ w:World,(fun os=>W.segRunT treeTable pwX w 11 hA1 1 385 (s6 w os) (W.piecesOf st7 cD hCo ⟨157,0,157,10⟩ hB1))=fun os=>some (.next,s7 w os,hCo,⟨187,0,187,8⟩):=W.byRow2 "special-get-raises" (P:=fun w=>(fun os=>W.segRunT treeTable pwX w 11 hA1 1 385 (s6 w os) (W.piecesOf st7 cD hCo ⟨157,0,157,10⟩ hB1))=fun os=>some (.next,s7 w os,hCo,⟨187,0,187,8⟩)) r7f r7t
theorem r8f:∀ w:World,(fun os=>W.segRunT treeTable pwX (w.withFollow "special-get-raises" false) 11 hA1 1 399 (s7 (w.withFollow "special-get-raises" false) os) (W.piecesOf st8 cD hCo ⟨187,0,187,8⟩ hB1))=fun os=>some (.next,s8 (w.withFollow "special-get-raises" false) os,hCo,⟨265,0,272,23⟩):=fun w=>by kernel_rfl
theorem r8t:∀ w:World,(fun os=>W.segRunT treeTable pwX (w.withFollow "special-get-raises" true) 11 hA1 1 399 (s7 (w.withFollow "special-get-raises" true) os) (W.piecesOf st8 cD hCo ⟨187,0,187,8⟩ hB1))=fun os=>some (.next,s8 (w.withFollow "special-get-raises" true) os,hCo,⟨265,0,272,23⟩):=fun w=>by kernel_rfl
theorem r8:∀ w:World,(fun os=>W.segRunT treeTable pwX w 11 hA1 1 399 (s7 w os) (W.piecesOf st8 cD hCo ⟨187,0,187,8⟩ hB1))=fun os=>some (.next,s8 w os,hCo,⟨265,0,272,23⟩):=W.byRow2 "special-get-raises" (P:=fun w=>(fun os=>W.segRunT treeTable pwX w 11 hA1 1 399 (s7 w os) (W.piecesOf st8 cD hCo ⟨187,0,187,8⟩ hB1))=fun os=>some (.next,s8 w os,hCo,⟨265,0,272,23⟩)) r8f r8t
theorem r9:∀ w:World,(fun os=>W.segRunT treeTable pwX w 11 hA1 1 381 (s8 w os) (W.piecesOf st9 cD hCo ⟨265,0,272,23⟩ hB1))=fun os=>some (.next,s9 w os,hCo,⟨349,0,351,98⟩):=fun w=>by kernel_rfl
theorem r10:∀ w:World,(fun os=>W.segRunT treeTable pwX w 11 hA1 1 260 (s9 w os) (W.piecesOf GH cD hCo ⟨349,0,351,98⟩ hB1))=fun os=>some (.next,s10 w os,hCo,⟨422,0,443,15⟩):=fun w=>by kernel_rfl
theorem Ih:∀ w:World,(fun os=>W.topRun treeTable pwX w 11 hA1 2 (s10 w os).abs ⟨W.doneF .next,hCo,⟨422,0,443,15⟩,hB1⟩)=fun os=>some (⟨hp1 w.params,Array.mk [],{},940,os⟩:Shared):=fun w=>by kernel_rfl
theorem Ii:W.behindTheImports pwX=st0++(st1++(st2++(st3++(st4++(st5++(st6++(st7++(st8++(st9++(GH++[])))))))))):=by kernel_rfl
theorem Ij (w:World) (os:OsState):W.topRun treeTable pwX w 11 hA1 (12+(1+(196+(214+(379+(393+(155+(363+(264+(385+(399+(381+(260+(2)))))))))))))) ⟨W.boot_heap w.params,Array.mk [],W.boot_drawn,W.boot_toks,os⟩ (W.topStub pwX)=some ⟨hp1 w.params,Array.mk [],{},940,os⟩:=by
 refine W.go_top (congrFun (Ig w) os) (W.piece_block (congrFun (A1 w) os) ?_);rw [Ii];exact (W.piece_app (W.segRun_of (congrFun (r0 w) os)) (W.piece_app (W.segRun_of (congrFun (r1 w) os)) (W.piece_app (W.segRun_of (congrFun (r2 w) os)) (W.piece_app (W.segRun_of (congrFun (r3 w) os)) (W.piece_app (W.segRun_of (congrFun (r4 w) os)) (W.piece_app (W.segRun_of (congrFun (r5 w) os)) (W.piece_app (W.segRun_of (congrFun (r6 w) os)) (W.piece_app (W.segRun_of (congrFun (r7 w) os)) (W.piece_app (W.segRun_of (congrFun (r8 w) os)) (W.piece_app (W.segRun_of (congrFun (r9 w) os)) (W.piece_app (W.segRun_of (congrFun (r10 w) os)) (show W.topRun treeTable pwX w 11 hA1 2 _ (W.restOf [] cD hCo ⟨422,0,443,15⟩ hB1)=_ from congrFun (Ih w) os))))))))))))
def hK:Params→W.Frag:=fun P =>
 (nat_lit 3,o3 P) :: (nat_lit 4,o4 P) :: (nat_lit 6,o6 P) :: (nat_lit 15,o15) :: (nat_lit 22,o11) :: (nat_lit 23,o23 P) :: (nat_lit 24,o24) :: (nat_lit 25,o25) :: (nat_lit 28,o28) :: (nat_lit 35,o11) :: (nat_lit 36,o36 P) :: (nat_lit 37,o37) :: (nat_lit 40,o28) :: (nat_lit 47,o11) :: (nat_lit 48,o48 P) :: (nat_lit 49,o49) :: (nat_lit 57,o57) :: (nat_lit 58,o58) :: (nat_lit 64,o64) :: (nat_lit 65,o65) :: (nat_lit 71,o71) :: (nat_lit 72,o72) :: (nat_lit 78,o78) :: (nat_lit 79,o79) :: (nat_lit 85,o85) :: (nat_lit 86,o86) :: (nat_lit 90,o90) :: (nat_lit 91,o91) :: (nat_lit 97,o97) :: (nat_lit 98,o98) :: (nat_lit 102,yo P) :: (nat_lit 103,yp P) :: (nat_lit 107,yq P) :: (nat_lit 108,yr P) :: (nat_lit 114,yt P) :: (nat_lit 115,yu P) :: (nat_lit 119,yv P) :: (nat_lit 120,yw P) :: (nat_lit 126,yx P) :: (nat_lit 127,yy P) :: (nat_lit 133,yz P) :: (nat_lit 134,yA P) :: (nat_lit 138,yB P) :: (nat_lit 139,yC P) :: (nat_lit 140,yD P) :: (nat_lit 146,yE P) :: (nat_lit 147,yF P) :: (nat_lit 153,yG P) :: (nat_lit 154,yH P) :: (nat_lit 160,yI P) :: (nat_lit 161,yJ P) :: (nat_lit 165,yK P) :: (nat_lit 166,yL P) :: (nat_lit 172,yM P) :: (nat_lit 173,yN P) :: (nat_lit 186,yO P) :: (nat_lit 187,yP P) :: (nat_lit 193,yQ P) :: (nat_lit 194,yR P) :: (nat_lit 200,yS P) :: (nat_lit 201,yT P) :: (nat_lit 207,yU P) :: (nat_lit 208,yV P) :: (nat_lit 214,yW P) :: (nat_lit 215,yX P) :: (nat_lit 216,yY P) :: (nat_lit 217,yZ P) :: (nat_lit 218,y4 P) :: (nat_lit 219,y6 P) :: (nat_lit 220,y7 P) :: (nat_lit 223,y8 P) :: (nat_lit 224,y9 P) :: (nat_lit 225,za P) :: (nat_lit 226,zb P) :: (nat_lit 227,zc P) :: (nat_lit 228,zd P) :: (nat_lit 229,ze P) :: (nat_lit 230,zf P) :: (nat_lit 231,zg P) :: (nat_lit 232,zh P) :: (nat_lit 233,zi P) :: (nat_lit 234,zj P) :: (nat_lit 235,zk P) :: (nat_lit 236,zm P) :: (nat_lit 237,zn P) :: (nat_lit 238,zo P) :: (nat_lit 239,zp P) :: (nat_lit 240,zq P) :: (nat_lit 241,zr P) :: (nat_lit 242,zt P) :: (nat_lit 243,zu P) :: (nat_lit 244,zw P) :: (nat_lit 245,zx P) :: (nat_lit 246,zy P) :: (nat_lit 247,zA P) :: (nat_lit 248,zB P) :: (nat_lit 249,zC P) :: (nat_lit 255,zD P) :: (nat_lit 256,zE P) :: (nat_lit 262,zF P) :: (nat_lit 263,zG P) :: (nat_lit 267,zH P) :: (nat_lit 268,zI P) :: (nat_lit 274,zJ P) :: (nat_lit 275,zK P) :: (nat_lit 281,zL P) :: (nat_lit 282,zM P) :: (nat_lit 288,zN P) :: (nat_lit 289,zO P) :: (nat_lit 290,zP P) :: (nat_lit 291,zQ P) :: (nat_lit 292,zR P) :: (nat_lit 293,zS P) :: (nat_lit 294,zT P) :: (nat_lit 300,zU P) :: (nat_lit 301,zV P) :: (nat_lit 307,zW P) :: (nat_lit 308,zX P) :: (nat_lit 314,zY P) :: (nat_lit 315,zZ P) :: (nat_lit 321,z6 P) :: (nat_lit 322,z7 P) :: (nat_lit 328,z8 P) :: (nat_lit 329,z9 P) :: (nat_lit 335,Aa P) :: (nat_lit 336,Ab P) :: (nat_lit 342,Ac P) :: (nat_lit 343,Ad P) :: (nat_lit 349,Ae P) :: (nat_lit 350,Af P) :: (nat_lit 356,Ag P) :: (nat_lit 357,Ah P) :: (nat_lit 363,Ai P) :: (nat_lit 364,Aj P) :: (nat_lit 370,Ak P) :: (nat_lit 371,Al P) :: (nat_lit 377,Am P) :: (nat_lit 378,An P) :: (nat_lit 384,Ao P) :: (nat_lit 385,Ap P) :: (nat_lit 391,Aq P) :: (nat_lit 392,Ar P) :: (nat_lit 398,As P) :: (nat_lit 399,At P) :: (nat_lit 403,Au P) :: (nat_lit 404,Av P) :: (nat_lit 410,Aw P) :: (nat_lit 411,Ax P) :: (nat_lit 417,Ay P) :: (nat_lit 418,Az P) :: (nat_lit 424,AA P) :: (nat_lit 425,AB P) :: (nat_lit 431,AC P) :: (nat_lit 432,AD P) :: (nat_lit 438,AE P) :: (nat_lit 439,AF P) :: (nat_lit 443,AG P) :: (nat_lit 444,AH P) :: (nat_lit 448,AI P) :: (nat_lit 449,AJ P) :: (nat_lit 453,AK P) :: (nat_lit 454,AL P) :: (nat_lit 458,AM P) :: (nat_lit 459,AN P) :: (nat_lit 465,AO P) :: (nat_lit 466,AQ P) :: (nat_lit 470,AR P) :: (nat_lit 471,AS P) :: (nat_lit 475,AT P) :: (nat_lit 476,AU P) :: (nat_lit 480,AV P) :: (nat_lit 481,AW P) :: (nat_lit 487,AX P) :: (nat_lit 488,AY P) :: (nat_lit 494,AZ P) :: (nat_lit 495,A0 P) :: []
def hA:List Addr:=[3,4,6,15,22,23,24,25,28,35,36,37,40,47,48,49,57,58,64,65,71,72,78,79,85,86,90,91,97,98,102,103,107,108,114,115,119,120,126,127,133,134,138,139,140,146,147,153,154,160,161,165,166,172,173,186,187,193,194,200,201,207,208,214,215,216,217,218,219,220,223,224,225,226,227,228,229,230,231,232,233,234,235,236,237,238,239,240,241,242,243,244,245,246,247,248,249,255,256,262,263,267,268,274,275,281,282,288,289,290,291,292,293,294,300,301,307,308,314,315,321,322,328,329,335,336,342,343,349,350,356,357,363,364,370,371,377,378,384,385,391,392,398,399,403,404,410,411,417,418,424,425,431,432,438,439,443,444,448,449,453,454,458,459,465,466,470,471,475,476,480,481,487,488,494,495]
theorem hKA:∀ P,hA=(hK P).map (·.1):=fun _=>by kernel_rfl
abbrev hH:W.Hook:=W.kHook hK hA hKA
abbrev hQ:Program:=W.view pwX [85]
def hW:List Str:= "HandError" :: "BadValue" :: "BadText" :: "LETTERS" :: "LONGEST_NAME" :: "is_whole" :: "is_whole_within" :: "PERCENT" :: "is_sign" :: "is_of" :: "made_value" :: "is_text_of" :: "holds_tuple" :: "holds_items" :: "is_record_of" :: "is_pair_of" :: "are_keyed" :: "field_of" :: "FIGURES" :: "figures_of" :: "number_of" :: "BLANK" :: "QUOTE" :: "MINUS" :: "OPENING" :: "CLOSING" :: "MARKS" :: "MOST_FIGURES" :: "MOST_BRACKETS" :: "END" :: "words_of" :: "word_end" :: "run_end" :: "made_word" :: "deepest_brackets" :: "WordRow" :: "KIND_PARTS" :: "TURN_PARTS" :: "PIECE_PARTS" :: "parts_behind" :: "most_exchanged" :: "value_text" :: "with_commas" :: "pair_text" :: "quoted" :: "PAIR_SORTS" :: "BRACKETED" :: "read_value" :: "read_all" :: "part_read" :: "pair_read" :: "kind_read" :: "value_read" :: "turn_read" :: "path_read" :: "form_read" :: "list_read" :: "at_least_one" :: "_law_cell_at" :: "_law_mixed" :: "_law_own" :: "_law_digit" :: "_law_names" :: "_law_number_kind" :: "_law_leaf_kind" :: "_law_record_kind" :: "_law_rows_kind" :: "_law_kind" :: "_law_text" :: "_law_keys" :: "_law_row_values" :: "_law_value" :: "_law_value_words" :: "_law_tight" :: "_law_loose" :: "_law_same" :: "_law_by" :: []
abbrev hX (s:Shared):Bool:=W.recOk (W.RowW.records (W.OpenRow.toRowW PySem.Challenge.rw_oldhands_k86_values_in_words.row)) s
theorem GI:∀ w:World,((W.boot_heap w.params).isNs mainGlobals && (Array.mk []:Array GenState).size == 0,(W.boot_heap w.params).objs.size,(W.boot_heap w.params).nsMap mainGlobals "__annotations__")=(true,11,hA1):=fun w=>by kernel_rfl
theorem rL1:∀ w:World,(fun os=>(W.staticsOk (importedModules pwX.main.body) (W.boot_heap w.params) (hp1 w.params) && W.namesBound pwX (hp1 w.params) && W.gensDone ⟨hp1 w.params,Array.mk [],{},940,os⟩ && W.laidKept (W.boot_heap w.params) (hp1 w.params)))=fun _=>true:=fun w=>by kernel_rfl
theorem rL2:∀ w:World,(fun os=>W.openSeen hQ hW (importedModules pwX.main.body) hX true ⟨hp1 w.params,Array.mk [],{},940,os⟩)=fun _=>W.openGood hQ hW:=fun w=>by kernel_rfl
theorem rL3:∀ w:World,(fun os=>hH.obs ⟨hp1 w.params,Array.mk [],{},940,os⟩)=fun _=>hH.val w:=fun w=>by kernel_rfl
theorem hl:W.LeftO pwX hQ hW hX hH.obs hH.val 4404 :=
 W.LeftO.of_pieces (H₀:=W.boot_heap) (H₁:=hp1) (gs₀:=Array.mk []) (gs₁:=Array.mk []) (d₀:=W.boot_drawn) (d₁:={}) (k₀:=W.boot_toks) (k₁:=940) (m₀:=11) (ann:=hA1) (M:=12+(1+(196+(214+(379+(393+(155+(363+(264+(385+(399+(381+(260+(2))))))))))))))
  (W.boot_open (by kernel_rfl) (by rfl) (fun s=>by rfl)) GI Ij (by rfl) (fun w=>funext fun os=>W.looks_pair (congrFun (rL1 w) os) (W.looks_pair (congrFun (rL2 w) os) (congrFun (rL3 w) os)))
theorem said:PySem.Challenge.rw_oldhands_k86_values_in_words.wellSaid=true:=by
 unfold W.OpenLaw.wellSaid W.OpenRow.wellSaid W.OpenRow.partSaid W.looksOpen
 repeat' (with_reducible refine W.look_both ?_ ?_)
 all_goals decide +kernel
end K86
namespace L2
open PySem PySem.Spec PyProof.Rows
abbrev Key:=Sum Int Str
def iI:Key→Value→Bool
 | .inl k,v=>Value.isInt k v
 | .inr x,v=>Value.isStrOf x v
def Ik (w:World):Key→Int
 | .inl k=>hashInt k
 | .inr x=>hashStr w x
theorem aF:∀ {k:Key} {v:Value},iI k v=true→(∃ i t,k=Sum.inl i∧v=Value.int i t)∨(∃ x t,k=Sum.inr x∧v=Value.str x t)
 | .inl i,v,h=>by
  obtain ⟨t,e⟩:=Value.isInt_shape (k:=i) (v:=v) h;exact .inl ⟨i,t,rfl,e⟩
 | .inr x,v,h=>by
  obtain ⟨t,e⟩:=Value.isStrOf_shape (x:=x) (v:=v) h;exact .inr ⟨x,t,rfl,e⟩
theorem sr (i:Int) (t:Tok):iI (.inl i) (.int i t)=true:=by simp [iI,Value.isInt]
theorem su (x:Str) (t:Tok):iI (.inr x) (.str x t)=true:=by simp [iI,Value.isStrOf]
theorem A2 (a b:Int):decide ((Sum.inl a:Key)=Sum.inl b)=(a == b):=by
 by_cases e:a=b
 ·subst e;simp
 ·have h:¬ (Sum.inl a:Key)=Sum.inl b:=fun q=>e (Sum.inl.inj q);rw [decide_eq_false h];exact (beq_eq_false_iff_ne.mpr e).symm
theorem A3 (a b:Str):decide ((Sum.inr a:Key)=Sum.inr b)=decide (a=b):=by
 by_cases e:a=b
 ·subst e;simp
 ·have h:¬ (Sum.inr a:Key)=Sum.inr b:=fun q=>e (Sum.inr.inj q);rw [decide_eq_false h,decide_eq_false e]
theorem A4 (a:Int) (b:Str):decide ((Sum.inl a:Key)=Sum.inr b)=false:=decide_eq_false (fun q=>nomatch q)
theorem A5 (a:Str) (b:Int):decide ((Sum.inr a:Key)=Sum.inl b)=false:=decide_eq_false (fun q=>nomatch q)
def av (prog:Program) (w:World):PySem.KeyKind prog w Key where
 is:=iI
 hash:=Ik w
 inj:=fun v a b ha hb=>by
  rcases aF ha with ⟨i,t,rfl,rfl⟩ | ⟨x,t,rfl,rfl⟩
  ·rcases aF hb with ⟨j,u,rfl,e⟩ | ⟨y,u,rfl,e⟩
   ·injection e with e1 _;rw [e1]
   ·exact nomatch e
  ·rcases aF hb with ⟨j,u,rfl,e⟩ | ⟨y,u,rfl,e⟩
   ·exact nomatch e
   ·injection e with e1 _;rw [e1]
 byValue:=fun k v h=>by
  rcases aF h with ⟨i,t,rfl,rfl⟩ | ⟨x,t,rfl,rfl⟩ <;> rfl
 pyHash:=fun hv h=>by
  rcases aF hv with ⟨i,t,rfl,rfl⟩ | ⟨x,t,rfl,rfl⟩
  ·exact wpAny_pyHash_int h
  ·exact wpAny_pyHash_str h
 eqBool:=fun hu hv h=>by
  rcases aF hu with ⟨i,t,rfl,rfl⟩ | ⟨x,t,rfl,rfl⟩
  ·rcases aF hv with ⟨j,u,rfl,rfl⟩ | ⟨y,u,rfl,rfl⟩
   ·rw [A2] at h;exact wpAny_eqBool_int h
   ·rw [A4] at h;exact SeqAt.EqAt.int_str i t y u _ _ _ _ h
  ·rcases aF hv with ⟨j,u,rfl,rfl⟩ | ⟨y,u,rfl,rfl⟩
   ·rw [A5] at h;exact SeqAt.EqAt.str_int x t j u _ _ _ _ h
   ·rw [A3] at h;exact wpAny_eqBool_str h
 «strs»:=fun k x t v h=>by
  rcases aF h with ⟨i,u,rfl,e⟩ | ⟨y,u,rfl,e⟩
  ·exact nomatch e
  ·injection e with e1 _
   subst e1
   cases v <;> rfl
theorem nh (prog:Program) (w:World) (i:Int) (t:Tok):(av prog w).is (.inl i) (.int i t)=true:=sr i t
theorem nj (prog:Program) (w:World) (x:Str) (t:Tok):(av prog w).is (.inr x) (.str x t)=true:=su x t
inductive V where
 | non | bl (b:Bool) | int (i:Int) | str (x:Str) | byt (b:Array UInt8) | flt (b:UInt64) | ref (a:Addr) | ty (n:String)
 deriving DecidableEq
def RelV:V→Value→Prop
 | .non,u=>u=Value.none
 | .bl b,u=>u=Value.bool b
 | .int i,u=>∃ t,u=Value.int i t
 | .str x,u=>∃ t,u=Value.str x t
 | .byt b,u=>∃ t,u=Value.bytes b t
 | .flt b,u=>∃ t,u=Value.float b t
 | .ref a,u=>u=Value.ref a
 | .ty n,u=>u=Value.type n
abbrev Vals:List V→List Value→Prop:=Paired RelV
theorem Vals.length {xs:List V} {us:List Value} (r:Vals xs us):xs.length=us.length:=Paired.length r
theorem Vals.get:∀ {xs:List V} {us:List Value} {i:Nat} {x:V},Vals xs us→xs[i]?=some x→∃ u,us[i]?=some u∧RelV x u
 | _,_,_,_,.nil,e=>by simp at e
 | _,_,0,_,.cons r _,e=>by simp at e;subst e;exact ⟨_,rfl,r⟩
 | _,_,i+1,x,.cons _ t,e=>by
  obtain ⟨u,h1,h2⟩:=Vals.get (i:=i) (x:=x) t (by simpa using e);exact ⟨u,by simpa using h1,h2⟩
theorem Vals.set {x:V} {u:Value} (r:RelV x u):∀ {xs:List V} {us:List Value} (i:Nat),Vals xs us→Vals (xs.set i x) (us.set i u)
 | _,_,_,.nil=>.nil
 | _,_,0,.cons _ t=>.cons r t
 | _,_,i+1,.cons q t=>.cons q (Vals.set r i t)
theorem Vals.append:∀ {xs ys:List V} {us ws:List Value},Vals xs us→Vals ys ws→Vals (xs++ys) (us++ws)
 | _,_,_,_,.nil,s=>s
 | _,_,_,_,.cons r t,s=>.cons r (Vals.append t s)
theorem Vals.take:∀ {xs:List V} {us:List Value} (n:Nat),Vals xs us→Vals (xs.take n) (us.take n)
 | _,_,0,_=>.nil
 | _,_,_+1,.nil=>.nil
 | _,_,n+1,.cons r t=>.cons r (Vals.take n t)
theorem Vals.drop:∀ {xs:List V} {us:List Value} (n:Nat),Vals xs us→Vals (xs.drop n) (us.drop n)
 | _,_,0,r=>r
 | _,_,_+1,.nil=>.nil
 | _,_,n+1,.cons _ t=>Vals.drop n t
def RelO:Option V→Option Value→Prop
 | some v,some u=>RelV v u
 | none,none=>True
 | _,_=>False
def KV {κ:Type}:List (κ×V)→List (κ×Value)→Prop:=Paired fun (p:κ×V) (q:κ×Value)=>p.1=q.1∧RelV p.2 q.2
def kV:Key→V
 | .inl i=>.int i
 | .inr x=>.str x
inductive HO where
 | lst (xs:List V)
 | tup (xs:List V)
 | dK (kvs:List (Key×V)) | dT (kvs:List (List Key×V))
 | set (S:Int→Bool) (n:Nat)
 | ins (C dx:Addr) (fs:List (Str×V))
 | own (x:Addr)
 | xd (fs:List (Str×V))
 | met (f x:Addr)
 | rng (lo hi:Int)
 | frz (o:Obj) (u:HO)
 | tbl (ps:Array Value)
 | ext (φ:Heap→Prop)
abbrev Hp:=Addr→Option HO
def upd (H:Hp) (a:Addr) (o:HO):Hp:=fun b=>if b=a then some o else H b
theorem ac {H:Hp} {a:Addr} {o:HO}:upd H a o a=some o:=by unfold upd;rw [if_pos rfl]
theorem ag {H:Hp} {a b:Addr} {o:HO} (h:b≠a):upd H a o b=H b:=by unfold upd;rw [if_neg h]
theorem wn {H:Hp} {a:Addr} {o u:HO}:upd (upd H a o) a u=upd H a u:=by
 funext b;unfold upd;split <;> rfl
theorem fK {H:Hp} {a b:Addr} {o u:HO} (h:H a=some o) (h':H b=some u) (d:o≠u):a≠b:=by
 intro e;subst e;rw [h] at h';exact d (Option.some.inj h')
theorem ah {H:Hp} {a b:Addr} {o:HO} (h:H a=some o) (h':H b=none):a≠b:=by
 intro e;subst e;rw [h] at h';cases h'
section
variable (P:Program) (w:World)
def ObjOk (H:Hp) (h:Heap) (a:Addr):HO→Prop
 | .lst xs=>xs.length≤sizeLine∧∃ (its:List Value) (n:Nat),Vals xs its∧h.get? a=some { cls:=.type "list",data:=.seq its.toArray n }
 | .tup xs=>xs.length≤sizeLine∧∃ its:List Value,Vals xs its∧IsTup h a its.toArray
 | .dK kvs=>kvs.length≤sizeLine∧(a == sysModules)=false∧∃ vs,KV kvs vs∧h.DictOf (av P w) a vs
 | .dT kvs=>kvs.length≤sizeLine∧(a == sysModules)=false∧∃ xs:List (List Key×Addr×Value),
   Paired (fun (p:List Key×V) (q:List Key×Addr×Value)=>p.1=q.1∧H q.2.1=some (.tup (p.1.map kV))∧RelV p.2 q.2.2) kvs xs ∧
   ∃ o es ep,h.get? a=some o∧o.ExactDict∧o.data=.dict es ep∧es.toList=xs.map (entryOfKey (tupleKind (av P w)))∧(xs.map (·.1)).Nodup
 | .set S n=>h.SetOf (intKind P w) a S n
 | .ins C dx fs=>H dx=some (.own a)∧fs.length≤1000∧dx≠a∧h.get? a=some (W.instObj C dx) ∧
   ∃ mA,h.Ns1 dx mA∧(∀ f,RelO (fs.lookup f) (mA f))∧PySem.Within mA (fs.map (·.1))
 | .own _=>∃ o,h.get? a=some o
 | .xd fs=>∃ mA,h.Ns1 a mA∧∀ f,RelO (fs.lookup f) (mA f)
 | .rng lo hi=>∃ t u v,h.get? a=some { cls:=.type "range",data:=.fields #[.int lo t,.int hi u,.int 1 v] }
 | .frz o u=>h.get? a=some o∧ObjOk H h a u
 | .tbl ps=>h.get? a=some { cls:=.none,data:=.fields ps }
 | .met f x=>h.get? a=some (W.methodObj (.ref f) (.ref x))
 | .ext φ=>φ h∧(∃ o,h.get? a=some o)∧∀ h1 h2:Heap,φ h1→(∀ o,h1.get? a=some o→h2.get? a=some o)→φ h2
def HOk (H:Hp) (h:Heap):Prop:=∀ a o,H a=some o→ObjOk P w H h a o
end
section
variable {P:Program} {w:World} {H H':Hp} {h h':Heap} {a:Addr} {o:HO}
theorem ObjOk.lt (x:ObjOk P w H h a o):a < h.objs.size:=by
 cases o with
 | lst xs=>obtain ⟨_,_,_,_,e⟩:=x;exact aAf e
 | tup xs=>obtain ⟨_,_,_,p⟩:=x;exact p.lt
 | dK kvs=>obtain ⟨_,_,_,_,o,_,_,e,_⟩:=x;exact aAf e
 | dT kvs=>obtain ⟨_,_,_,_,o,_,_,e,_⟩:=x;exact aAf e
 | set S n=>obtain ⟨o,_,_,_,e,_⟩:=x;exact aAf e
 | ins C dx fs=>obtain ⟨_,_,_,e,_⟩:=x;exact aAf e
 | own y=>obtain ⟨_,e⟩:=x;exact aAf e
 | xd fs=>obtain ⟨_,⟨_,_,_,e,_⟩,_⟩:=x;exact aAf e
 | rng lo hi=>obtain ⟨_,_,_,e⟩:=x;exact aAf e
 | frz ob u=>obtain ⟨e,_⟩:=x;exact aAf e
 | tbl ps=>exact aAf (show h.get? a=some _ from x)
 | met f y=>exact aAf (show h.get? a=some _ from x)
 | ext φ=>obtain ⟨_,⟨_,e⟩,_⟩:=x;exact aAf e
theorem Paired.mapP {α β:Type} {F G:α→β→Prop}:∀ {l₁:List α} {l₂:List β},Paired F l₁ l₂→(∀ a b,F a b→G a b)→Paired G l₁ l₂
 | _,_,.nil,_=>.nil
 | _,_,.cons r t,f=>.cons (f _ _ r) (Paired.mapP t f)
theorem ObjOk.stay (x:ObjOk P w H h a o) (k:∀ b u,(b=a∨H b=some (.own a))→h.get? b=some u→h'.get? b=some u)
  (ho:∀ b,H b=some (.own a)→H' b=some (.own a)) (ht:∀ b xs,H b=some (.tup xs)→H' b=some (.tup xs)):ObjOk P w H' h' a o:=by
 induction o with
 | lst xs=>obtain ⟨z,its,n,r,e⟩:=x;exact ⟨z,its,n,r,k _ _ (.inl rfl) e⟩
 | tup xs=>obtain ⟨z,its,r,ob,e,c⟩:=x;exact ⟨z,its,r,ob,k _ _ (.inl rfl) e,c⟩
 | dK kvs=>obtain ⟨z,y,vs,r,ob,es,ep,e,c⟩:=x;exact ⟨z,y,vs,r,ob,es,ep,k _ _ (.inl rfl) e,c⟩
 | dT kvs =>
  obtain ⟨z,y,xs,r,ob,es,ep,e,c⟩:=x;exact ⟨z,y,xs,Paired.mapP r fun p q z=>⟨z.1,ht _ _ z.2.1,z.2.2⟩,ob,es,ep,k _ _ (.inl rfl) e,c⟩
 | set S n=>obtain ⟨ob,es,ep,t,e,c⟩:=x;exact ⟨ob,es,ep,t,k _ _ (.inl rfl) e,c⟩
 | ins C dx fs =>
  obtain ⟨d,z,ne,e,mA,⟨od,es,ep,e2,c⟩,r⟩:=x;exact ⟨ho _ d,z,ne,k _ _ (.inl rfl) e,mA,⟨od,es,ep,k _ _ (.inr d) e2,c⟩,r⟩
 | own y=>obtain ⟨ob,e⟩:=x;exact ⟨ob,k _ _ (.inl rfl) e⟩
 | xd fs=>obtain ⟨mA,⟨od,es,ep,e,c⟩,r⟩:=x;exact ⟨mA,⟨od,es,ep,k _ _ (.inl rfl) e,c⟩,r⟩
 | rng lo hi=>obtain ⟨t,u,v,e⟩:=x;exact ⟨t,u,v,k _ _ (.inl rfl) e⟩
 | frz ob u ih=>obtain ⟨e,q⟩:=x;exact ⟨k _ _ (.inl rfl) e,ih q⟩
 | tbl ps =>
  have e:h.get? a=some { cls:=.none,data:=.fields ps }:=x;show h'.get? a=some { cls:=.none,data:=.fields ps };exact k a _ (.inl rfl) e
 | met f y =>
  have e:h.get? a=some (W.methodObj (.ref f) (.ref y)):=x;show h'.get? a=some (W.methodObj (.ref f) (.ref y));exact k a _ (.inl rfl) e
 | ext φ=>obtain ⟨p,⟨o,e⟩,st⟩:=x;exact ⟨st _ _ p fun o q=>k _ _ (.inl rfl) q,⟨o,k _ _ (.inl rfl) e⟩,st⟩
theorem HOk.lt (x:HOk P w H h) (e:H a=some o):a < h.objs.size:=(x a o e).lt
theorem HOk.fresh (x:HOk P w H h) (e:h.objs.size≤a):H a=none:=by
 cases q:H a with
 | none=>rfl
 | some u=>exact absurd (aAj (x.lt q) e) (aAN _)
theorem HOk.kept (x:HOk P w H h) (k:∀ b u,h.get? b=some u→h'.get? b=some u):HOk P w H h':=fun a o e =>
 (x a o e).stay (fun b u _ q=>k b u q) (fun _ q=>q) fun _ _ q=>q
theorem HOk.laid (x:HOk P w H h) (k:∀ b u,h.get? b=some u→h'.get? b=some u) (hp:h.objs.size≤a) (new:ObjOk P w (upd H a o) h' a o):HOk P w (upd H a o) h':=fun b u e=>by
 have hn:=x.fresh hp
 by_cases hb:b=a
 ·subst hb;rw [ac] at e;cases e;exact new
 ·rw [ag hb] at e;exact (x b u e).stay (fun c v _ q=>k c v q) (fun c q=>by rw [ag (ah q hn)];exact q) fun c xs q=>by rw [ag (ah q hn)];exact q
end
def Rd (H:Hp) (a:Addr) (u:HO):Prop:=H a=some u∨∃ o,H a=some (.frz o u)
theorem Rd.ok {P:Program} {w:World} {H:Hp} {h:Heap} {a:Addr} {u:HO} (r:Rd H a u) (x:HOk P w H h):ObjOk P w H h a u:=by
 rcases r with r | ⟨o,r⟩
 ·exact x a u r
 ·obtain ⟨_,q⟩:=x a _ r;exact q
def Mut:Option HO→Prop
 | some (.lst _)=>True
 | some (.dK _)=>True
 | some (.dT _)=>True
 | some (.set _ _)=>True
 | some (.ins _ _ _)=>True
 | some (.ext _)=>True
 | _=>False
section
variable {P:Program} {w:World} {H:Hp} {h h':Heap} {x e:Addr} {o':HO}
theorem HOk.write (ok:HOk P w H h) (mu:Mut (H x)) (he:e=x∨H e=some (.own x)) (k:∀ b u,b≠e→h.get? b=some u→h'.get? b=some u) (heo:∃ u,h'.get? e=some u)
  (new:ObjOk P w (upd H x o') h' x o'):HOk P w (upd H x o') h':=fun b u q=>by
 have nown:∀ c y,H c=some (.own y)→c≠x:=fun c y r z=>by subst z;rw [r] at mu;exact mu
 have ntup:∀ c xs,H c=some (.tup xs)→c≠x:=fun c xs r z=>by subst z;rw [r] at mu;exact mu
 by_cases hb:b=x
 ·subst hb;rw [ac] at q;cases q;exact new
 ·rw [ag hb] at q
  by_cases hbe:b=e
  ·have q':H b=some (.own x):=by
    rcases he with z | z
    ·exact absurd (hbe.trans z) hb
    ·rw [hbe];exact z
   rw [q] at q';cases q';obtain ⟨v,hv⟩:=heo;exact ⟨v,by rw [hbe];exact hv⟩
  ·refine (ok b u q).stay (fun c v hc r=>k c v ?_ r) (fun c r=>by rw [ag (nown c b r)];exact r) fun c xs r=>by rw [ag (ntup c xs r)];exact r
   rcases hc with rfl | hc
   ·exact hbe
   ·rintro rfl;rcases he with z | z
    ·exact nown c b hc z
    ·rw [hc] at z;cases z;exact hb rfl
end
structure Un (fs ex:List Addr) (H H':Hp) (h h':Heap):Prop where
 keep:∀ b o,h.get? b=some o→H b=none→b∉fs→b∉ex→h'.get? b=some o
 slot:∀ b o,h.get? b=some o→H b=none→b∈fs→b∉ex→∃ sl,h'.get? b=some { o with slots:=sl }
 free:∀ b o,h.get? b=some o→H b=none→b∉ex→H' b=none
 there:∀ b o,h.get? b=some o→b∉ex→∃ o',h'.get? b=some o'
 tups:∀ b xs,H b=some (.tup xs)→H' b=some (.tup xs)
 frzs:∀ b o u,H b=some (.frz o u)→H' b=some (.frz o u)
 tbls:∀ b ps,H b=some (.tbl ps)→∃ more,H' b=some (.tbl (ps++more))
section
variable {fs fs' ex ex':List Addr} {H H1 H2:Hp} {h h1 h2 h':Heap} {a x e:Addr} {o:HO}
theorem Un.any (u:Un fs ex H H1 h h1) {b:Addr} {ob:Obj} (q:h.get? b=some ob) (n:H b=none) (hx:b∉ex):∃ sl,h1.get? b=some { ob with slots:=sl }:=by
 by_cases hb:b∈fs
 ·exact u.slot b ob q n hb hx
 ·exact ⟨ob.slots,u.keep b ob q n hb hx⟩
theorem Un.trans (a:Un fs ex H H1 h h1) (b:Un fs ex H1 H2 h1 h2):Un fs ex H H2 h h2 where
 keep:=fun c ob q n hc hx=>b.keep c ob (a.keep c ob q n hc hx) (a.free c ob q n hx) hc hx
 slot:=fun c ob q n hc hx=>by
  obtain ⟨sl,e1⟩:=a.slot c ob q n hc hx;obtain ⟨sl',e2⟩:=b.slot c _ e1 (a.free c ob q n hx) hc hx;exact ⟨sl',e2⟩
 free:=fun c ob q n hx=>by
  obtain ⟨o',e1⟩:=a.there c ob q hx;exact b.free c o' e1 (a.free c ob q n hx) hx
 there:=fun c ob q hx=>by
  obtain ⟨o',e1⟩:=a.there c ob q hx;exact b.there c o' e1 hx
 tups:=fun c xs q=>b.tups c xs (a.tups c xs q)
 frzs:=fun c ob xs q=>b.frzs c ob xs (a.frzs c ob xs q)
 tbls:=fun c ps q=>by
  obtain ⟨m1,e1⟩:=a.tbls c ps q;obtain ⟨m2,e2⟩:=b.tbls c _ e1;exact ⟨m1++m2,by rw [e2,aBQ]⟩
theorem Un.kept (k:∀ b u,h.get? b=some u→h'.get? b=some u):Un fs ex H H h h' :=
 ⟨fun b ob q _ _ _=>k b ob q,fun b ob q _ _ _=>⟨ob.slots,k b ob q⟩,fun _ _ _ n _=>n,fun b ob q _=>⟨ob,k b ob q⟩,fun _ _ q=>q,fun _ _ _ q=>q,fun _ ps q=>⟨#[],by rw [q];simp⟩⟩
theorem Un.refl:Un fs ex H H h h:=Un.kept fun _ _ q=>q
theorem Un.laid (k:∀ b u,h.get? b=some u→h'.get? b=some u) (hp:h.objs.size≤a) (hn:H a=none):Un fs ex H (upd H a o) h h' where
 keep:=fun b u q _ _ _=>k b u q
 slot:=fun b u q _ _ _=>⟨u.slots,k b u q⟩
 free:=fun b u q n _=>by rw [ag (aAy (aAj (aAf q) hp))];exact n
 there:=fun b u q _=>⟨u,k b u q⟩
 tups:=fun b xs q=>by rw [ag (ah q hn)];exact q
 frzs:=fun b u xs q=>by rw [ag (ah q hn)];exact q
 tbls:=fun b ps q=>⟨#[],by rw [ag (ah q hn),q];simp⟩
theorem Un.write (mu:Mut (H x)) (he:e=x∨H e=some (.own x)) (k:∀ b u,b≠e→h.get? b=some u→h'.get? b=some u) (heo:∃ u,h'.get? e=some u):Un fs ex H (upd H x o) h h':=by
 have hx:∀ b,H b=none→b≠x:=fun b n z=>by subst z;rw [n] at mu;exact mu
 have hb:∀ b,H b=none→b≠e:=fun b n z=>by
  subst z;rcases he with r | r
  ·exact hx b n r
  ·rw [n] at r;cases r
 have hm:∀ b u,H b=some u→¬ Mut (some u)→b≠x:=fun b u q nm z=>by subst z;rw [q] at mu;exact nm mu
 refine ⟨fun b u q n _ _=>k b u (hb b n) q,fun b u q n _ _=>⟨u.slots,k b u (hb b n) q⟩,fun b u q n _=>by rw [ag (hx b n)];exact n,fun b u q _=>?_,
  fun b xs q=>by rw [ag (hm b _ q fun z=>z)];exact q,fun b u xs q=>by rw [ag (hm b _ q fun z=>z)];exact q,fun b ps q=>⟨#[],by rw [ag (hm b _ q fun z=>z),q];simp⟩⟩
 by_cases hbe:b=e
 ·subst hbe;exact heo
 ·exact ⟨u,k b u hbe q⟩
end
def trk (h:Heap) (H:Hp):List Addr:=(List.range h.objs.size).filter fun a=>(H a).isSome
def lU (h:Heap) (H:Hp):Heap:=W.hideAll h (trk h H)
theorem sv (h:Heap) (H:Hp):(lU h H).objs.size=h.objs.size:=W.hideAll_size _ _
theorem ud {h:Heap} {H:Hp} {b:Addr} {o:Obj} (e:h.get? b=some o) (n:H b=none):(lU h H).get? b=some o :=
 W.hideAll_get _ e fun hm=>by
  have q:(H b).isSome=true:=(List.mem_filter.mp hm).2;rw [n] at q;simp at q
theorem wo {h:Heap} {H:Hp} {b:Addr} {o:Obj} (e:(lU h H).get? b=some o):h.get? b=some o∧H b=none:=by
 have e':h.get? b=some o:=W.of_hideAll (trk h H) e;refine ⟨e',?_⟩
 cases q:H b with
 | none=>rfl
 | some x =>
  have hm:b∈trk h H:=List.mem_filter.mpr ⟨aBy.mpr (aAf e'),by simp [q]⟩;have z:(lU h H).get? b=none:=W.hideAll_none (trk h H) hm;rw [z] at e;cases e
def wq (g h:Heap) (L:Addr):List (Addr×Obj):=(List.range h.objs.size).filterMap fun a=>if a=L∨(g.get? a).isSome=true then none else (h.get? a).map fun o=>(a,o)
def rest (g h:Heap) (L d:Addr):List (Addr×Obj):=(wq g h L).filter fun p=>decide (p.1≠d)
structure Mod (K:W.Frag) (mg:Str→Option Value) (base:Heap):Prop where
 kin:K.In base
 glob:base.Ns mainGlobals mg
 blt:∃ mb,base.Ns builtinsNs mb∧∀ x:Str,x≠ "__name__" →mb x=bootBuiltins x
 nolimit:base.NoLimit
structure Cx where
 prog:Program
 w:World
 K:W.Frag
 mg:Str→Option Value
 base:Heap
 A:Around
 N:List Str
 s₀:Shared
 H₀:Hp
 env:Env
 outer:List Env
 stack:List Env
 ex:List Addr
 fn:Str→Bool
 calm:Bool
 pn:List (Addr×Obj)
 xe:Value→Shared→Prop
def frs (l:List Env):List Addr:=l.filterMap (·.frame)
abbrev Cx.fs (X:Cx):List Addr:=frs X.outer
def Vis (sc:Scope) (x:Str):Prop:=sc.names.lookup x=some .local∨sc.names.lookup x=some .cell∨sc.names.lookup x=some .free
def Loc (sc:Scope) (x:Str):Prop:=sc.names.lookup x=some .local∨sc.names.lookup x=some .cell
def Il (env:Env) (h:Heap) (m:Str→Option Value) (x:Str) (u:Value):Prop :=
 (env.kindOf x=some .local∧m x=some u)∨((env.kindOf x=some .cell∨env.kindOf x=some .free)∧∃ c,env.cells.lookup x=some c∧h.IsCell c (some u))
structure Cx.Ok (X:Cx):Prop where
 mod:Mod X.K X.mg X.base
 kind:X.env.scope.kind=.function
 glob:X.env.globals=mainGlobals
 blt:X.env.builtins=builtinsNs
 above:X.s₀.heap.objs.size≤X.env.locals
 inj:∀ x y c,X.env.cells.lookup x=some c→X.env.cells.lookup y=some c→x=y
 has:∀ x,(X.env.kindOf x=some .cell∨X.env.kindOf x=some .free)→∃ c,X.env.cells.lookup x=some c
 cab:∀ x c,X.fn x=true→X.env.cells.lookup x=some c→X.s₀.heap.objs.size≤c
 hd:X.calm=true→X.A.handled=none
 frames:X.A.frames=some X.stack
 stk:X.stack=X.outer∨(X.stack=X.env :: X.outer∧X.env.frame=some X.env.locals)
 exf:∀ b∈X.ex,b≠X.env.locals∧∀ x c,X.env.cells.lookup x=some c→c≠b
 bs:∀ b o,X.base.get? b=some o→X.s₀.heap.get? b=some o∧X.H₀ b=none
 bsz:X.base.objs.size≤X.s₀.heap.objs.size
 noex:∀ b o,X.base.get? b=some o→b∉X.ex
 exfs:∀ b∈X.ex,b∉X.fs
 funs:X.s₀.heap.FunFrames X.base X.outer
 frf:∀ b∈X.fs,X.H₀ b=none
structure Inv (X:Cx) (pins:List (Addr×Obj)) (σ:List (Option V)) (H:Hp) (s:Shared):Prop where
 ok:X.Ok
 os:s.os=X.s₀.os
 bare:AllBare s.gens
 base:Un X.fs X.ex X.H₀ H X.s₀.heap s.heap
 loc:∃ m,s.heap.Ns X.env.locals m∧∀ (i:Nat) (x:Str) (v:V),X.N[i]?=some x→σ[i]?=some (some v)→Vis X.env.scope x→∃ u,RelV v u∧Il X.env s.heap m x u
 cell:∀ x c,X.env.cells.lookup x=some c→∃ v,s.heap.IsCell c v
 free:H X.env.locals=none
 freeC:∀ x c,X.env.cells.lookup x=some c→H c=none
 pin:∀ p∈X.pn++pins,s.heap.get? p.1=some p.2∧H p.1=none∧p.1≠X.env.locals∧p.1∉X.fs∧∀ v,p.2.data≠.cell v
 hok:HOk X.prog X.w H s.heap
 len:σ.length=X.N.length
section
variable {X:Cx} {pins:List (Addr×Obj)} {σ:List (Option V)} {H H':Hp} {s:Shared} {h':Heap}
theorem Cx.Ok.nofr (ok:X.Ok) {b:Addr} {o:Obj} (e:X.base.get? b=some o):b∉X.fs:=fun hb=>by
 have:=(ok.funs.mem hb).1;rw [e] at this;cases this
theorem Inv.bs (I:Inv X pins σ H s):∀ b o,X.base.get? b=some o→s.heap.get? b=some o∧H b=none:=fun b o e =>
 ⟨I.base.keep b o (I.ok.bs b o e).1 (I.ok.bs b o e).2 (I.ok.nofr e) (I.ok.noex b o e),I.base.free b o (I.ok.bs b o e).1 (I.ok.bs b o e).2 (I.ok.noex b o e)⟩
theorem Inv.bk (I:Inv X pins σ H s):∀ b o,X.base.get? b=some o→s.heap.get? b=some o:=fun b o e=>(I.bs b o e).1
theorem Inv.mod (I:Inv X pins σ H s):Mod X.K X.mg X.base:=I.ok.mod
theorem Inv.kIn (I:Inv X pins σ H s):X.K.In s.heap:=I.ok.mod.kin.keeps I.bk
theorem Inv.lt (I:Inv X pins σ H s):X.env.locals < s.heap.objs.size:=let ⟨_,hn,_⟩:=I.loc;hn.lt
theorem Inv.sz (I:Inv X pins σ H s):X.s₀.heap.objs.size≤s.heap.objs.size:=aAA I.ok.above (aAY I.lt)
theorem Inv.nofs (I:Inv X pins σ H s) {a:Addr} (h:s.heap.objs.size≤a):a∉X.fs:=fun hb=>by
 obtain ⟨_,o,ho,_⟩:=I.ok.funs.mem hb;exact absurd (aAj (aAf ho) (aAA I.sz h)) (aAN _)
theorem Inv.cne (I:Inv X pins σ H s):∀ x c,X.env.cells.lookup x=some c→c≠X.env.locals:=fun x c e z=>by
 obtain ⟨v,o,ho,hd⟩:=I.cell x c e;obtain ⟨m,⟨o',es,ep,ho',hd',_⟩,_⟩:=I.loc;rw [z,ho'] at ho;cases ho;rw [hd'] at hd;cases hd
theorem Inv.funs (I:Inv X pins σ H s):s.heap.FunFrames X.base X.outer:=by
 have all:∀ (l:List Env),(∀ b∈frs l,b∈X.fs)→X.s₀.heap.FunFrames X.base l→s.heap.FunFrames X.base l:=by
  intro l
  induction l with
  | nil=>intro _ _;trivial
  | cons env r ih =>
   intro hs hl;obtain ⟨hk,⟨L,o,hf,hn,ho,hd⟩,hr⟩:=hl;have hL:L∈X.fs:=hs L (by unfold frs;rw [aBO,hf];exact aAd);obtain ⟨sl,e⟩:=I.base.slot L o ho (I.ok.frf L hL) hL fun z=>I.ok.exfs L z hL;exact ⟨hk,⟨L,_,hf,hn,e,hd⟩,ih (fun b hb=>hs b (by unfold frs;rw [aBO,hf];exact aAi _ hb)) hr⟩
 exact all X.outer (fun _ hb=>hb) I.ok.funs
theorem Inv.stack (I:Inv X pins σ H s):s.heap.FunFrames X.base X.stack:=by
 rcases I.ok.stk with e | ⟨e,hf⟩
 ·rw [e];exact I.funs
 ·rw [e];obtain ⟨m,hn,_⟩:=I.loc;refine .cons (by rw [I.ok.kind];decide) hf hn ?_ I.funs;exact Heap.get?_none_of_le (aAA I.ok.bsz I.ok.above)
theorem Inv.stkSub (I:Inv X pins σ H s):∀ b∈frs X.stack,b∈X.env.locals :: X.fs:=fun b hb=>by
 rcases I.ok.stk with e | ⟨e,hf⟩
 ·rw [e] at hb;exact aAi _ hb
 ·rw [e] at hb;unfold frs at hb;rw [aBO,hf] at hb;exact hb
theorem Inv.stkFree (I:Inv X pins σ H s):∀ b∈frs X.stack,H b=none:=fun b hb=>by
 rcases aAp.mp (I.stkSub b hb) with e | hb
 ·rw [e];exact I.free
 ·obtain ⟨_,o,ho,_⟩:=I.ok.funs.mem hb;exact I.base.free b o ho (I.ok.frf b hb) fun z=>I.ok.exfs b z hb
theorem Inv.step {g':Array GenState} {t':Nat} {d':Drawn} {ch:List Addr} (I:Inv X pins σ H s)
  (hch:∀ b∈ch,(b∈X.ex∨X.s₀.heap.objs.size≤b)∧b≠X.env.locals∧(∀ x c,X.env.cells.lookup x=some c→c≠b)∧∀ p∈X.pn++pins,p.1≠b)
  (keep:∀ b o,b≠X.env.locals→b∉X.fs→b∉ch→s.heap.get? b=some o→H b=none→h'.get? b=some o)
  (slot:∀ b o,b≠X.env.locals→b∈X.fs→b∉ch→s.heap.get? b=some o→H b=none→∃ sl,h'.get? b=some { o with slots:=sl }) (free:∀ b o,b∉ch→s.heap.get? b=some o→H b=none→H' b=none)
  (there:∀ b o,b∉ch→s.heap.get? b=some o→∃ o',h'.get? b=some o')
  (tups:∀ b xs,H b=some (.tup xs)→H' b=some (.tup xs)) (frzs:∀ b o u,H b=some (.frz o u)→H' b=some (.frz o u)) (tbls:∀ b ps,H b=some (.tbl ps)→∃ more,H' b=some (.tbl (ps++more)))
  (ns:∀ m,s.heap.Ns X.env.locals m→h'.Ns X.env.locals m) (hok:HOk X.prog X.w H' h') (hg:AllBare g') :
  Inv X pins σ H' { s with heap:=h',gens:=g',drawn:=d',toks:=t' }:=by
 have neL:∀ b o,X.s₀.heap.get? b=some o→b≠X.env.locals:=fun b o e=>aAy (aAj (aAf e) I.ok.above);have neC:∀ b o,X.s₀.heap.get? b=some o→b∉X.ex→b∉ch:=fun b o e hx hb=>by
  rcases (hch b hb).1 with z | z
  ·exact hx z
  ·exact absurd (aAj (aAf e) z) (aAN _)
 have cellK:∀ x c,X.env.cells.lookup x=some c→∀ v,s.heap.IsCell c v→h'.IsCell c v:=fun x c e v ⟨o,ho,hd⟩=>by
  have nch:c∉ch:=fun z=>(hch c z).2.2.1 x c e rfl
  by_cases hc:c∈X.fs
  ·obtain ⟨sl,q⟩:=slot c o (I.cne x c e) hc nch ho (I.freeC x c e);exact ⟨_,q,hd⟩
  ·exact ⟨o,keep c o (I.cne x c e) hc nch ho (I.freeC x c e),hd⟩
 refine ⟨I.ok,I.os,hg,⟨fun b o e n hb hx=>?_,fun b o e n hb hx=>?_,fun b o e n hx=>?_,fun b o e hx=>?_,fun b xs e=>tups b xs (I.base.tups b xs e),fun b o xs e=>frzs b o xs (I.base.frzs b o xs e),fun b ps e=>?_⟩,?_,fun x c e=>?_,?_,fun x c e=>?_,fun p hp=>?_,hok,I.len⟩
 ·exact keep b o (neL b o e) hb (neC b o e hx) (I.base.keep b o e n hb hx) (I.base.free b o e n hx)
 ·obtain ⟨sl,e1⟩:=I.base.slot b o e n hb hx;obtain ⟨sl',e2⟩:=slot b _ (neL b o e) hb (neC b o e hx) e1 (I.base.free b o e n hx);exact ⟨sl',e2⟩
 ·obtain ⟨o',e1⟩:=I.base.there b o e hx;exact free b o' (neC b o e hx) e1 (I.base.free b o e n hx)
 ·obtain ⟨o',e1⟩:=I.base.there b o e hx;exact there b o' (neC b o e hx) e1
 ·obtain ⟨m1,e1⟩:=I.base.tbls b ps e;obtain ⟨m2,e2⟩:=tbls b _ e1;exact ⟨m1++m2,by rw [e2,aBQ]⟩
 ·obtain ⟨m,hn,hl⟩:=I.loc;refine ⟨m,ns m hn,fun i x v e1 e2 e3=>?_⟩;obtain ⟨u,r,l⟩:=hl i x v e1 e2 e3;refine ⟨u,r,?_⟩;rcases l with l | ⟨k,c,e,z⟩
  ·exact .inl l
  ·exact .inr ⟨k,c,e,cellK x c e _ z⟩
 ·obtain ⟨v,z⟩:=I.cell x c e;exact ⟨v,cellK x c e v z⟩
 ·obtain ⟨m,⟨o,_,_,ho,_⟩,_⟩:=I.loc;exact free _ o (fun z=>(hch _ z).2.1 rfl) ho I.free
 ·obtain ⟨v,o,ho,hd⟩:=I.cell x c e;exact free c o (fun z=>(hch c z).2.2.1 x c e rfl) ho (I.freeC x c e)
 ·obtain ⟨e,n,ne,nf,d⟩:=I.pin p hp;have nch:p.1∉ch:=fun z=>(hch p.1 z).2.2.2 p hp rfl;exact ⟨keep p.1 p.2 ne nf nch e n,free p.1 p.2 nch e n,ne,nf,d⟩
theorem Inv.un {t':Nat} (I:Inv X pins σ H s) (u:Un X.fs [] H H' s.heap h') (hok:HOk X.prog X.w H' h'):Inv X pins σ H' { s with heap:=h',toks:=t' }:=by
 obtain ⟨m,⟨o,es,ep,ho,r⟩,_⟩:=id I.loc;obtain ⟨sl,hL⟩:=u.any ho I.free (by simp);exact I.step (g':=s.gens) (d':=s.drawn) (ch:=[]) (fun _ z=>nomatch z) (fun b o _ hb _ e n=>u.keep b o e n hb (by simp)) (fun b o _ hb _ e n=>u.slot b o e n hb (by simp)) (fun b o _ e n=>u.free b o e n (by simp)) (fun b o _ e=>u.there b o e (by simp)) u.tups u.frzs u.tbls (fun m' hm=>by
  obtain ⟨o',es',ep',ho',r'⟩:=hm;rw [ho] at ho';cases ho';exact ⟨_,es',ep',hL,r'⟩) hok I.bare
theorem Inv.call {g':Array GenState} {t':Nat} {d':Drawn} {ch:List Addr} (I:Inv X pins σ H s) (u:Un (frs X.stack) ch H H' s.heap h') (hok:HOk X.prog X.w H' h') (hg:AllBare g')
  (hch:∀ b∈ch,(b∈X.ex∨X.s₀.heap.objs.size≤b)∧b≠X.env.locals∧(∀ x c,X.env.cells.lookup x=some c→c≠b)∧∀ p∈X.pn++pins,p.1≠b) :
  Inv X pins σ H' { s with heap:=h',gens:=g',drawn:=d',toks:=t' }:=by
 obtain ⟨m,⟨o,es,ep,ho,r⟩,_⟩:=id I.loc;obtain ⟨sl,hL⟩:=u.any ho I.free fun z=>(hch _ z).2.1 rfl;exact I.step (ch:=ch) hch (fun b o hL hb hc e n=>u.keep b o e n (fun z=>(aAp.mp (I.stkSub b z)).elim hL hb) hc) (fun b o _ _ hc e n=>u.any e n hc) (fun b o hc e n=>u.free b o e n hc) (fun b o hc e=>u.there b o e hc) u.tups u.frzs u.tbls (fun m' hm=>by
  obtain ⟨o',es',ep',ho',r'⟩:=hm;rw [ho] at ho';cases ho';exact ⟨_,es',ep',hL,r'⟩) hok hg
theorem Inv.turned {t':Nat} {it:Addr} (I:Inv X pins σ H s) (k:∀ b o,b≠it→s.heap.get? b=some o→h'.get? b=some o) (hn:H it=none) (hL:it≠X.env.locals)
  (h1:it∈X.ex∨X.s₀.heap.objs.size≤it) (h2:∀ x c,X.env.cells.lookup x=some c→c≠it) (h3:∀ p∈X.pn++pins,p.1≠it):Inv X pins σ H { s with heap:=h',toks:=t' }:=by
 have nit:∀ b u,H b=some u→b≠it:=fun b u e z=>by rw [z,hn] at e;cases e
 refine I.step (g':=s.gens) (d':=s.drawn) (ch:=[it]) (fun b hb=>?_) (fun b o _ _ hc e _=>k b o (fun z=>hc (by simp [z])) e) (fun b o _ _ hc e _=>⟨o.slots,k b o (fun z=>hc (by simp [z])) e⟩) (fun _ _ _ _ n=>n)
  (fun b o hc e=>⟨o,k b o (fun z=>hc (by simp [z])) e⟩) (fun _ _ e=>e) (fun _ _ _ e=>e) (fun b ps e=>⟨#[],by rw [e];simp⟩) (fun m hm=>?_) (fun b u e=>?_) I.bare
 ·have e:b=it:=by simpa using hb
  subst e;exact ⟨h1,hL,h2,h3⟩
 ·obtain ⟨o,es,ep,ho,r⟩:=hm;exact ⟨o,es,ep,k _ o (Ne.symm hL) ho,r⟩
 ·refine (I.hok b u e).stay (fun c v hc q=>k c v ?_ q) (fun _ q=>q) fun _ _ q=>q;rcases hc with z | z
  ·rw [z];exact nit b u e
  ·exact nit c _ z
theorem Inv.tok (I:Inv X pins σ H s) (t:Nat):Inv X pins σ H { s with toks:=t }:=I.un (h':=s.heap) (t':=t) Un.refl I.hok
theorem Inv.kept {t':Nat} (I:Inv X pins σ H s) (k:∀ b u,s.heap.get? b=some u→h'.get? b=some u):Inv X pins σ H { s with heap:=h',toks:=t' }:=I.un (Un.kept k) (I.hok.kept k)
theorem Inv.laid {a:Addr} {o:HO} {t':Nat} (I:Inv X pins σ H s) (k:∀ b u,s.heap.get? b=some u→h'.get? b=some u) (hp:s.heap.objs.size≤a) (new:ObjOk X.prog X.w (upd H a o) h' a o) :
  Inv X pins σ (upd H a o) { s with heap:=h',toks:=t' }:=I.un (Un.laid k hp (I.hok.fresh hp)) (I.hok.laid k hp new)
theorem Inv.write {x e:Addr} {o:HO} {t':Nat} (I:Inv X pins σ H s) (mu:Mut (H x)) (he:e=x∨H e=some (.own x)) (k:∀ b u,b≠e→s.heap.get? b=some u→h'.get? b=some u) (heo:∃ u,h'.get? e=some u)
  (new:ObjOk X.prog X.w (upd H x o) h' x o):Inv X pins σ (upd H x o) { s with heap:=h',toks:=t' }:=I.un (Un.write mu he k heo) (I.hok.write mu he k heo new)
theorem Inv.pins_of {pins':List (Addr×Obj)} (I:Inv X pins σ H s) (h:∀ p∈pins',s.heap.get? p.1=some p.2∧H p.1=none∧p.1≠X.env.locals∧p.1∉X.fs∧∀ v,p.2.data≠.cell v):Inv X pins' σ H s :=
 ⟨I.ok,I.os,I.bare,I.base,I.loc,I.cell,I.free,I.freeC,fun p hp=>(aAK.mp hp).elim (fun z=>I.pin p (List.mem_append_left _ z)) (h p),I.hok,I.len⟩
theorem jk {N:List Str} (hN:N.Nodup) {i j:Nat} {x:Str} (a:N[i]?=some x) (b:N[j]?=some x):i=j:=by
 obtain ⟨h1,e1⟩:=aAc.mp a;obtain ⟨h2,e2⟩:=aAc.mp b;exact (List.getElem_inj hN).mp (e1.trans e2.symm)
theorem kU {M:Model} {A:Around} {E:Value→Shared→Prop} {i:Nat} {x:Str} {v:V} {u:Value} {Q:Unit→Shared→Prop} (I:Inv X pins σ H s) (hN:X.N.Nodup) (hi:X.N[i]?=some x) (hx:Loc X.env.scope x) (r:RelV v u)
  (h:∀ s',Inv X pins (σ.set i (some v)) H s'→(∃ a,Heap.SameBut a s.heap s'.heap∧(a=X.env.locals∨X.env.cells.lookup x=some a))→Q () s') (hf:X.fn x=true∨X.env.scope.names.lookup x=some .local:=by first | exact .inl rfl | exact .inr rfl | assumption):wpAny M A (storeName X.env x u) Q E s:=by
 obtain ⟨m,hn,hl⟩:=id I.loc;have hcls:(X.env.scope.kind == .class || (X.env.scope.kind == .module && X.env.locals != X.env.globals))=false:=by rw [I.ok.kind];rfl
 have hiσ:i < σ.length:=by rw [I.len];exact (aAc.mp hi).1
 have cne:=I.cne;have tracked:∀ {a:Addr} {h':Heap},(∃ o,s.heap.get? a=some o∧H a=none)→Heap.SameBut a s.heap h'→HOk X.prog X.w H h':=fun {a h'} ha hs b ob e=>by
  obtain ⟨_,_,hfree⟩:=ha;refine (I.hok b ob e).stay (fun c w' hc q=>(hs.2 c ?_).trans q) (fun _ q=>q) fun _ _ q=>q;rintro rfl;rcases hc with rfl | hc
  ·rw [hfree] at e;cases e
  ·rw [hfree] at hc;cases hc
 rcases hx with hk | hk
 ·refine wpAny_storeName_local hk hn (fun h' hn' hs=>?_) hcls;obtain ⟨oL,_,_,hoL,_⟩:=id hn;refine h _ ⟨I.ok,I.os,I.bare,⟨fun b o e n hb hx=>?_,fun b o e n hb hx=>?_,I.base.free,fun b o e hx=>?_,I.base.tups,I.base.frzs,I.base.tbls⟩,⟨_,hn',fun j y v' e1 e2 e3=>?_⟩,fun y c e=>?_,I.free,I.freeC,fun p hp=>?_,tracked ⟨oL,hoL,I.free⟩ hs,by simpa using I.len⟩ ⟨_,hs,.inl rfl⟩
  ·exact (hs.2 b (aAy (aAj (aAf e) I.ok.above))).trans (I.base.keep b o e n hb hx)
  ·obtain ⟨sl,e1⟩:=I.base.slot b o e n hb hx;exact ⟨sl,(hs.2 b (aAy (aAj (aAf e) I.ok.above))).trans e1⟩
  ·obtain ⟨o',e1⟩:=I.base.there b o e hx;exact ⟨o',(hs.2 b (aAy (aAj (aAf e) I.ok.above))).trans e1⟩
  ·by_cases hj:j=i
   ·subst hj;rw [hi] at e1;cases e1;rw [aBB hiσ] at e2
    cases e2
    exact ⟨u,r,.inl ⟨hk,by simp⟩⟩
   ·rw [aBF (Ne.symm hj)] at e2;obtain ⟨u',r',q⟩:=hl j y v' e1 e2 e3;refine ⟨u',r',?_⟩;rcases q with ⟨k,e⟩ | ⟨k,c,e,z⟩
    ·refine .inl ⟨k,?_⟩;have:y≠x:=fun e=>hj (jk hN e1 (e ▸ hi));simp [this,e]
    ·exact .inr ⟨k,c,e,z.sameBut hs (cne y c e)⟩
  ·obtain ⟨w',z⟩:=I.cell y c e;exact ⟨w',z.sameBut hs (cne y c e)⟩
  ·obtain ⟨e,n,ne,nf,d⟩:=I.pin p hp;exact ⟨(hs.2 p.1 ne).trans e,n,ne,nf,d⟩
 ·have hfn:X.fn x=true:=by
   rcases hf with z | z
   ·exact z
   ·rw [z] at hk;cases hk
  obtain ⟨c,hc⟩:=I.ok.has x (.inl hk);obtain ⟨w',z⟩:=I.cell x c hc;refine wpAny_storeName_cell I.ok.kind hk hc z (fun h' hc' hs=>?_);obtain ⟨oc,hoc,hocd⟩:=id z;refine h { s with heap:=h' } ⟨I.ok,I.os,I.bare,⟨fun b o e n hb hx=>?_,fun b o e n hb hx=>?_,I.base.free,fun b o e hx=>?_,I.base.tups,I.base.frzs,I.base.tbls⟩,⟨m,hn.sameBut hs (Ne.symm (cne x c hc)),fun j y v' e1 e2 e3=>?_⟩,fun y c' e=>?_,I.free,I.freeC,fun p hp=>?_,tracked ⟨oc,hoc,I.freeC x c hc⟩ hs,by simpa using I.len⟩ ⟨c,hs,.inr hc⟩
  ·exact (hs.2 b (aAy (aAj (aAf e) (I.ok.cab x c hfn hc)))).trans (I.base.keep b o e n hb hx)
  ·obtain ⟨sl,e1⟩:=I.base.slot b o e n hb hx;exact ⟨sl,(hs.2 b (aAy (aAj (aAf e) (I.ok.cab x c hfn hc)))).trans e1⟩
  ·obtain ⟨o',e1⟩:=I.base.there b o e hx;exact ⟨o',(hs.2 b (aAy (aAj (aAf e) (I.ok.cab x c hfn hc)))).trans e1⟩
  ·by_cases hj:j=i
   ·subst hj;rw [hi] at e1;cases e1;rw [aBB hiσ] at e2
    cases e2
    exact ⟨u,r,.inr ⟨.inl hk,c,hc,hc'⟩⟩
   ·rw [aBF (Ne.symm hj)] at e2;obtain ⟨u',r',q⟩:=hl j y v' e1 e2 e3;refine ⟨u',r',?_⟩;rcases q with q | ⟨k,c',e,z'⟩
    ·exact .inl q
    ·refine .inr ⟨k,c',e,z'.sameBut hs ?_⟩;rintro rfl;exact hj (jk hN e1 (I.ok.inj _ _ _ e hc ▸ hi))
  ·by_cases hcc:c'=c
   ·subst hcc;exact ⟨_,hc'⟩
   ·obtain ⟨w2,z2⟩:=I.cell y c' e;exact ⟨w2,z2.sameBut hs hcc⟩
  ·obtain ⟨e,n,ne,nf,d⟩:=I.pin p hp;refine ⟨(hs.2 p.1 ?_).trans e,n,ne,nf,d⟩;intro q;rw [q,hoc] at e;have q':oc=p.2:=Option.some.inj e;exact d w' (by rw [← q'];exact hocd)
theorem dZ {M:Model} {A:Around} {E:Value→Shared→Prop} {i:Nat} {x:Str} {v:V} {u:Value} {Q:Unit→Shared→Prop} (I:Inv X pins σ H s) (hN:X.N.Nodup) (hi:X.N[i]?=some x) (hx:Loc X.env.scope x) (r:RelV v u)
  (h:∀ s',Inv X pins (σ.set i (some v)) H s'→Q () s') (hf:X.fn x=true∨X.env.scope.names.lookup x=some .local:=by first | exact .inl rfl | exact .inr rfl | assumption):wpAny M A (storeName X.env x u) Q E s :=
 kU I hN hi hx r (fun s' I' _=>h s' I') hf
theorem Inv.call' {s':Shared} {ch:List Addr} (I:Inv X pins σ H s) (ho:s'.os=s.os) (u:Un (frs X.stack) ch H H' s.heap s'.heap) (hok:HOk X.prog X.w H' s'.heap) (hg:AllBare s'.gens)
  (hch:∀ b∈ch,(b∈X.ex∨X.s₀.heap.objs.size≤b)∧b≠X.env.locals∧(∀ x c,X.env.cells.lookup x=some c→c≠b)∧∀ p∈X.pn++pins,p.1≠b):Inv X pins σ H' s':=by
 obtain ⟨h',g',d',t',o'⟩:=s';have e:o'=s.os:=ho;subst e;exact I.call (g':=g') (t':=t') (d':=d') u hok hg hch
end
abbrev XK:=Value→Option Addr→Hp→Prop
abbrev St:=List (Option V)
abbrev VK:=V→Hp→Prop
abbrev TE:=St→Hp→VK→Prop
abbrev TT:=St→Hp→(Bool→Hp→Prop)→Prop
abbrev TA:=St→Hp→(List V→Hp→Prop)→Prop
structure Ends where
 nx:St→Hp→Prop
 rt:VK
 bk:St→Hp→Prop:=fun _ _=>False
 ct:St→Hp→Prop:=fun _ _=>False
abbrev TS:=Ends→St→Hp→Prop
def EP (X:Cx) (pins:List (Addr×Obj)) (σ:St) (Q:VK) (u:Value) (s':Shared):Prop:=∃ v H',Inv X pins σ H' s'∧RelV v u∧Q v H'
def TP (X:Cx) (pins:List (Addr×Obj)) (σ:St) (Q:Bool→Hp→Prop) (b:Bool) (s':Shared):Prop:=∃ H',Inv X pins σ H' s'∧Q b H'
def AP (X:Cx) (pins:List (Addr×Obj)) (σ:St) (Q:List V→Hp→Prop) (us:List Value) (s':Shared):Prop:=∃ vs H',Inv X pins σ H' s'∧Vals vs us∧Q vs H'
def SP (X:Cx) (pins:List (Addr×Obj)) (D:Ends) (f:Flow) (s':Shared):Prop :=
 match f with
 | .next=>∃ σ' H',Inv X pins σ' H' s'∧D.nx σ' H'
 | .brk=>∃ σ' H',Inv X pins σ' H' s'∧D.bk σ' H'
 | .cont=>∃ σ' H',Inv X pins σ' H' s'∧D.ct σ' H'
 | .ret u=>∃ v σ' H',Inv X pins σ' H' s'∧RelV v u∧D.rt v H'
def PE (X:Cx) (e:Expr) (t:TE):Prop :=
 ∀ (pins:List (Addr×Obj)) (s:Shared) (σ:St) (H:Hp) (Q:VK),Inv X pins σ H s→t σ H Q→wpAny (model X.prog X.w) X.A (eval e X.env) (EP X pins σ Q) X.xe s
def PT (X:Cx) (e:Expr) (t:TT):Prop :=
 ∀ (pins:List (Addr×Obj)) (s:Shared) (σ:St) (H:Hp) (Q:Bool→Hp→Prop),Inv X pins σ H s→t σ H Q→wpAny (model X.prog X.w) X.A (isTrue e X.env (eval e X.env)) (TP X pins σ Q) X.xe s
def PW (X:Cx) (e:Expr) (t:TT):Prop :=
 ∀ (whole:Sem Value) (pins:List (Addr×Obj)) (s:Shared) (σ:St) (H:Hp) (Q:Bool→Hp→Prop),Inv X pins σ H s→t σ H Q→wpAny (model X.prog X.w) X.A (isTrue e X.env whole) (TP X pins σ Q) X.xe s
theorem PW.pt {X:Cx} {e:Expr} {t:TT} (h:PW X e t):PT X e t:=h _
def PA (X:Cx) (es:List Expr) (t:TA):Prop :=
 ∀ (pos:Pos) (pins:List (Addr×Obj)) (s:Shared) (σ:St) (H:Hp) (Q:List V→Hp→Prop),Inv X pins σ H s→t σ H Q→wpAny (model X.prog X.w) X.A (spliced (backTo pos (starEach es X.env))) (AP X pins σ Q) X.xe s
def PS (X:Cx) (st:Stmt) (t:TS):Prop :=
 ∀ (pins:List (Addr×Obj)) (s:Shared) (σ:St) (H:Hp) (D:Ends),Inv X pins σ H s→t D σ H→wpAny (model X.prog X.w) X.A (exec st X.env) (SP X pins D) X.xe s
def PSs (X:Cx) (st:List Stmt) (t:TS):Prop :=
 ∀ (pins:List (Addr×Obj)) (s:Shared) (σ:St) (H:Hp) (D:Ends),Inv X pins σ H s→t D σ H→wpAny (model X.prog X.w) X.A (execs st X.env) (SP X pins D) X.xe s
theorem thn {α:Type} {t:Sem α} {Q Q':α→Shared→Prop} {M:Model} {A:Around} {E:Value→Shared→Prop} {s:Shared} (h:wpAny M A t Q E s) (hQ:∀ a s,Q a s→Q' a s):wpAny M A t Q' E s:=wpAny_mono h hQ fun _ _ x=>x
section
variable {X:Cx}
inductive IVar (i:Nat) (σ:St) (H:Hp) (Q:VK):Prop
 | mk (v:V):(σ[i]?=some (some v))→(Q v H)→IVar i σ H Q
def sw (i:Nat):TE:=fun σ H Q=>IVar i σ H Q
def tC (v:V):TE:=fun _ H Q=>Q v H
theorem A6 {i:Nat} {x:Str} {pos:Pos} (hN:X.N[i]?=some x) (hv:Vis X.env.scope x) (hd:(x == ("__debug__" : Str))=false:=by decide) (hcd:(x == ("__classdict__" : Str))=false:=by decide):PE X (.Name x pos) (sw i):=by
 intro pins s σ H Q I h;obtain ⟨v,e,h⟩:=h;obtain ⟨m,hn,hl⟩:=I.loc;obtain ⟨u,r,l⟩:=hl i x v hN e hv;have fin:EP X pins σ Q u s:=⟨v,H,I,r,h⟩;rcases l with ⟨hk,hm⟩ | ⟨hk,c,hc,hcell⟩
 ·exact wpAny_Name (wpAny_loadName_local I.ok.kind hk hn hm fin) hd
 ·rcases hk with hk | hk
  ·exact wpAny_Name (wpAny_loadName_cell I.ok.kind hk hc hcell fin) hd
  ·exact wpAny_Name (wpAny_loadName_free I.ok.kind hk hc hcell fin hcd) hd
theorem pe_int {i j pos}:PE X (.Constant (.int i) j pos) (tC (.int i)):=fun _ _ _ H _ I h=>wpAny_Constant_int ⟨.int i,H,I.tok _,⟨_,rfl⟩,h⟩
theorem pe_bl {b j pos}:PE X (.Constant (.bool b) j pos) (tC (.bl b)):=fun _ _ _ H _ I h=>Constant_bool ⟨.bl b,H,I,rfl,h⟩
theorem pe_non {j pos}:PE X (.Constant .none j pos) (tC .non):=fun _ _ _ H _ I h=>Constant_none ⟨.non,H,I,rfl,h⟩
theorem pe_str {x j pos}:PE X (.Constant (.str x) j pos) (tC (.str x)):=fun _ _ _ H _ I h=>Calls.Constant_str ⟨.str x,H,I.tok _,⟨_,rfl⟩,h⟩
def Gl (X:Cx) (x:Str):Prop:=X.env.kindOf x=some .globalImplicit
theorem fo {E:Value→Shared→Prop} {pins:List (Addr×Obj)} {s:Shared} {σ:St} {H:Hp} {x:Str} {u:Value} {pos:Pos} {Q:Value→Shared→Prop} (I:Inv X pins σ H s) (hg:Gl X x) (hm:X.mg x=some u) (h:Q u s)
  (hd:(x == ("__debug__" : Str))=false:=by decide):wpAny (model X.prog X.w) X.A (eval (.Name x pos) X.env) Q E s :=
 Calls.Name_function_global I.ok.kind hg (Calls.loadGlobal_global (by rw [I.ok.glob];exact I.mod.glob.keeps I.bk) hm h) hd
theorem gX {E:Value→Shared→Prop} {pins:List (Addr×Obj)} {s:Shared} {σ:St} {H:Hp} {x:Str} {u:Value} {pos:Pos} {Q:Value→Shared→Prop} (I:Inv X pins σ H s) (hg:Gl X x) (hm:X.mg x=none) (hv:bootBuiltins x=some u) (h:Q u s)
  (hn:x≠ "__name__" :=by decide) (hd:(x == ("__debug__" : Str))=false:=by decide):wpAny (model X.prog X.w) X.A (eval (.Name x pos) X.env) Q E s:=by
 obtain ⟨mb,h1,h2⟩:=I.mod.blt;exact Calls.Name_function_global I.ok.kind hg (Calls.loadGlobal_builtin (by rw [I.ok.glob];exact I.mod.glob.keeps I.bk) hm (by rw [I.ok.blt];exact h1.keeps I.bk) ((h2 x hn).trans hv) h) hd
theorem lV {x:Str} {v:V} {u:Value} {pos:Pos} (hg:Gl X x) (hm:X.mg x=some u) (r:RelV v u) (hd:(x == ("__debug__" : Str))=false:=by decide):PE X (.Name x pos) (tC v) :=
 fun _ _ _ H _ I h=>fo I hg hm ⟨v,H,I,r,h⟩ hd
theorem wt {x:Str} {v:V} {u:Value} {pos:Pos} (hg:Gl X x) (hm:X.mg x=none) (hv:bootBuiltins x=some u) (r:RelV v u) (hn:x≠ "__name__" :=by decide) (hd:(x == ("__debug__" : Str))=false:=by decide):PE X (.Name x pos) (tC v) :=
 fun _ _ _ H _ I h=>gX I hg hm hv ⟨v,H,I,r,h⟩ hn hd
variable {a b:Expr} {ta tb:TE} {pos:Pos}
def tB (t:TE):TT:=fun σ H Q=>t σ H fun x H1=>∃ c,x=.bl c∧Q c H1
theorem pt_val {e:Expr} {t:TE} (h:PE X e t) (he:∀ whole,isTrue e X.env whole=(do let v ← whole;standAt e.pos;holding [v] (truthy v)):=by intro _;rfl):PT X e (tB t):=by
 intro pins s σ H Q I hw;refine isTrue_plain (thn (h pins s σ H _ I hw) fun v s1 ⟨x,H1,I1,r1,q1⟩=>?_) (he _);obtain ⟨d,rfl,q⟩:=q1
 cases r1
 exact wpAny_truthy_bool ⟨H1,I1,q⟩
variable {tA tB':TT} {rest:List Expr}
def Im (t u:TT):TT:=fun σ H Q=>t σ H fun c H1=>if c=true then u σ H1 Q else Q false H1
def tOr (t u:TT):TT:=fun σ H Q=>t σ H fun c H1=>if c=true then Q true H1 else u σ H1 Q
def Io (t:TT):TT:=fun σ H Q=>t σ H fun c H1=>Q (!c) H1
theorem pw_and1 (ha:PT X a tA):PW X (.BoolOp .And [a] pos) tA:=by
 intro wh pins s σ H Q I h;refine isTrue_and (thn (ha pins s σ H Q I h) fun c s1 e=>?_)
 cases c with
 | true=>exact isTrue_and_nil e
 | false=>exact e
theorem pw_or1 (ha:PT X a tA):PW X (.BoolOp .Or [a] pos) tA:=by
 intro wh pins s σ H Q I h;refine isTrue_or (thn (ha pins s σ H Q I h) fun c s1 e=>?_)
 cases c with
 | false=>exact isTrue_or_nil e
 | true=>exact e
theorem pw_and (ha:PT X a tA) (hb:PW X (.BoolOp .And (b :: rest) pos) tB'):PW X (.BoolOp .And (a :: b :: rest) pos) (Im tA tB'):=by
 intro wh pins s σ H Q I h;refine isTrue_and (thn (ha pins s σ H _ I h) fun c s1 ⟨H1,I1,q1⟩=>?_)
 cases c with
 | true=>exact hb wh pins s1 σ H1 Q I1 q1
 | false=>exact ⟨H1,I1,q1⟩
theorem gu (ha:PT X a tA) (hb:PW X (.BoolOp .Or (b :: rest) pos) tB'):PW X (.BoolOp .Or (a :: b :: rest) pos) (tOr tA tB'):=by
 intro wh pins s σ H Q I h;refine isTrue_or (thn (ha pins s σ H _ I h) fun c s1 ⟨H1,I1,q1⟩=>?_)
 cases c with
 | true=>exact ⟨H1,I1,q1⟩
 | false=>exact hb wh pins s1 σ H1 Q I1 q1
theorem pt_not (ha:PT X a tA):PT X (.UnaryOp .Not a pos) (Io tA):=by
 intro pins s σ H Q I h;exact isTrue_not (ha pins s σ H (fun c H1=>Q (!c) H1) I h)
def GJ (ta tb:TE):TE:=fun σ H Q=>ta σ H fun x H1=>∃ c,x=.bl c∧if c=true then tb σ H1 Q else Q (.bl false) H1
def GK (ta:TE):TE:=fun σ H Q=>ta σ H fun x H1=>∃ c,x=.bl c∧Q (.bl (!c)) H1
theorem dr {op} {t:TE} (h:PE X a t):PE X (.BoolOp op [a] pos) t:=fun pins s σ H Q I hw=>BoolOp_one (h pins s σ H Q I hw)
theorem pe_and (ha:PE X a ta) (hb:PE X (.BoolOp .And (b :: rest) pos) tb):PE X (.BoolOp .And (a :: b :: rest) pos) (GJ ta tb):=by
 intro pins s σ H Q I h;refine BoolOp_and (thn (ha pins s σ H _ I h) fun v s1 ⟨x,H1,I1,r1,q1⟩=>?_);obtain ⟨c,rfl,q1⟩:=q1
 cases r1
 refine wpAny_truthy_bool ?_
 cases c with
 | true=>exact hb pins s1 σ H1 Q I1 q1
 | false=>exact ⟨.bl false,H1,I1,rfl,q1⟩
theorem A7 (ha:PE X a ta):PE X (.UnaryOp .Not a pos) (GK ta):=by
 intro pins s σ H Q I h;refine UnaryOp_ (thn (ha pins s σ H _ I h) fun v s1 ⟨x,H1,I1,r1,q1⟩=>?_);obtain ⟨c,rfl,q1⟩:=q1
 cases r1
 exact not_of (wpAny_truthy_bool ⟨.bl (!c),H1,I1,rfl,q1⟩)
def tIf (t:TT) (ta tb:TE):TE:=fun σ H Q=>t σ H fun c H1=>if c=true then ta σ H1 Q else tb σ H1 Q
theorem jl {c:Expr} (hc:PT X c tA) (ha:PE X a ta) (hb:PE X b tb):PE X (.IfExp c a b pos) (tIf tA ta tb):=by
 intro pins s σ H Q I h;refine wpAny_IfExp (thn (hc pins s σ H _ I h) fun d s1 ⟨H1,I1,q1⟩=>?_)
 cases d with
 | true=>exact ha pins s1 σ H1 Q I1 q1
 | false=>exact hb pins s1 σ H1 Q I1 q1
end
def SqL (K:W.Frag) (H:Hp) (a:Addr) (xs:List V):Prop :=
 Rd H a (.lst xs) ∨
  ∃ (o:Obj) (its:Array Value) (n:Nat),K.lookup a=some o∧o.cls=.type "list" ∧o.dict=none∧o.data=.seq its n∧its.size≤sizeLine∧Vals xs its.toList
def SqT (K:W.Frag) (H:Hp) (a:Addr) (xs:List V):Prop :=
 Rd H a (.tup xs) ∨
  ∃ (o:Obj) (its:Array Value) (n:Nat),K.lookup a=some o∧o.cls=.type "tuple" ∧o.data=.seq its n∧its.size≤sizeLine∧Vals xs its.toList
def Ip:Value→Option V
 | .none=>some .non
 | .bool b=>some (.bl b)
 | .int i _=>some (.int i)
 | .str x _=>some (.str x)
 | .bytes b _=>some (.byt b)
 | .float b _=>some (.flt b)
 | .ref a=>some (.ref a)
 | .type n=>some (.ty n)
 | _=>none
theorem RelV.abs {x:V} {u:Value} (r:RelV x u):Ip u=some x:=by
 cases x with
 | non=>cases r;rfl
 | bl _=>cases r;rfl
 | int _=>obtain ⟨t,rfl⟩:=r;rfl
 | str _=>obtain ⟨t,rfl⟩:=r;rfl
 | byt _=>obtain ⟨t,rfl⟩:=r;rfl
 | flt _=>obtain ⟨t,rfl⟩:=r;rfl
 | ref _=>cases r;rfl
 | ty _=>cases r;rfl
theorem RelV.inj {x y:V} {u:Value} (r:RelV x u) (q:RelV y u):x=y:=Option.some.inj (r.abs.symm.trans q.abs)
theorem Vals.inj:∀ {xs ys:List V} {us:List Value},Vals xs us→Vals ys us→xs=ys
 | _,_,_,.nil,.nil=>rfl
 | _,_,_,.cons r t,.cons r' t'=>by rw [r.inj r',Vals.inj t t']
section
variable {X:Cx} {pins:List (Addr×Obj)} {σ:St} {H:Hp} {s:Shared} {a:Addr} {xs ys:List V}
theorem SqL.of {K:W.Frag} (h:H a=some (.lst xs)):SqL K H a xs:=.inl (.inl h)
theorem Inv.list (I:Inv X pins σ H s) (h:SqL X.K H a xs):∃ its:List Value,Vals xs its∧PlainL s.heap a its.toArray∧xs.length≤sizeLine:=by
 rcases h with h | ⟨o,its,n,hk,hc,hd,hs,hz,r⟩
 ·obtain ⟨z,its,n,r,e⟩:=h.ok I.hok;exact ⟨its,r,⟨_,n,e,rfl,rfl,rfl⟩,z⟩
 ·refine ⟨its.toList,r,⟨o,n,I.kIn a o hk,hc,hd,by simpa using hs⟩,?_⟩;have e:=r.length;simp only [aAQ] at e;lia
theorem Inv.tuple (I:Inv X pins σ H s) (h:SqT X.K H a xs):∃ its:List Value,Vals xs its∧IsTup s.heap a its.toArray∧xs.length≤sizeLine:=by
 rcases h with h | ⟨o,its,n,hk,hc,hs,hz,r⟩
 ·obtain ⟨z,its,r,p⟩:=h.ok I.hok;exact ⟨its,r,p,z⟩
 ·refine ⟨its.toList,r,⟨o,I.kIn a o hk,hc,n,by simpa using hs⟩,?_⟩;have e:=r.length;simp only [aAQ] at e;lia
theorem Inv.list_inj (I:Inv X pins σ H s) (h:SqL X.K H a xs) (h':SqL X.K H a ys):xs=ys:=by
 obtain ⟨its,r,⟨o,n,e,_,_,d⟩,_⟩:=I.list h;obtain ⟨its',r',⟨o',n',e',_,_,d'⟩,_⟩:=I.list h';rw [e] at e';cases e';rw [d] at d';injection d' with d1 _
 have:its=its':=by simpa using congrArg Array.toList d1
 subst this;exact r.inj r'
theorem Inv.tuple_inj (I:Inv X pins σ H s) (h:SqT X.K H a xs) (h':SqT X.K H a ys):xs=ys:=by
 obtain ⟨its,r,⟨o,e,_,n,d⟩,_⟩:=I.tuple h;obtain ⟨its',r',⟨o',e',_,n',d'⟩,_⟩:=I.tuple h';rw [e] at e';cases e';rw [d] at d';injection d' with d1 _
 have:its=its':=by simpa using congrArg Array.toList d1
 subst this;exact r.inj r'
end
abbrev Cx.wish (X:Cx) (E:Value→Shared→Prop):Cx:={ X with xe:=E }
abbrev Cx.nox (X:Cx):Cx:=X.wish fun _ _=>False
theorem Cx.Ok.wish {X:Cx} (ok:X.Ok) (E:Value→Shared→Prop):(X.wish E).Ok :=
 ⟨ok.mod,ok.kind,ok.glob,ok.blt,ok.above,ok.inj,ok.has,ok.cab,ok.hd,ok.frames,ok.stk,ok.exf,ok.bs,ok.bsz,ok.noex,ok.exfs,ok.funs,ok.frf⟩
theorem Cx.Ok.unwish {X:Cx} {E:Value→Shared→Prop} (ok:(X.wish E).Ok):X.Ok :=
 ⟨ok.mod,ok.kind,ok.glob,ok.blt,ok.above,ok.inj,ok.has,ok.cab,ok.hd,ok.frames,ok.stk,ok.exf,ok.bs,ok.bsz,ok.noex,ok.exfs,ok.funs,ok.frf⟩
section
variable {X:Cx} {pins:List (Addr×Obj)} {σ:St} {H:Hp} {s:Shared} {E:Value→Shared→Prop}
theorem Inv.wish (I:Inv X pins σ H s) (E:Value→Shared→Prop):Inv (X.wish E) pins σ H s:=⟨I.ok.wish E,I.os,I.bare,I.base,I.loc,I.cell,I.free,I.freeC,I.pin,I.hok,I.len⟩
theorem Inv.unwish (I:Inv (X.wish E) pins σ H s):Inv X pins σ H s:=⟨I.ok.unwish,I.os,I.bare,I.base,I.loc,I.cell,I.free,I.freeC,I.pin,I.hok,I.len⟩
theorem SP.unwish {D:Ends} {f:Flow} {s':Shared} (h:SP (X.wish E) pins D f s'):SP X pins D f s':=by
 cases f with
 | next=>obtain ⟨σ',H',I,q⟩:=h;exact ⟨σ',H',I.unwish,q⟩
 | brk=>obtain ⟨σ',H',I,q⟩:=h;exact ⟨σ',H',I.unwish,q⟩
 | cont=>obtain ⟨σ',H',I,q⟩:=h;exact ⟨σ',H',I.unwish,q⟩
 | ret u=>obtain ⟨v,σ',H',I,r,q⟩:=h;exact ⟨v,σ',H',I.unwish,r,q⟩
theorem PSs.nox {st:List Stmt} {t:TS} (h:PSs X.nox st t):PSs X st t:=fun pins s σ H D I hw =>
 wpAny_mono (h pins s σ H D (I.wish _) hw) (fun _ _ q=>q.unwish) fun _ _ z=>False.elim z
end
section
variable {X:Cx} {st:Stmt} {rest:List Stmt} {t u:TS} {e:Expr} {te:TE} {pos:Pos}
def GN:TS:=fun D σ H=>D.nx σ H
def ue (t u:TS):TS:=fun D σ H=>t { D with nx:=u D } σ H
theorem pss_nil:PSs X [] GN:=fun _ _ σ H _ I h=>wpAny_execs_nil ⟨σ,H,I,h⟩
theorem pss_cons (h1:PS X st t) (h2:PSs X rest u):PSs X (st :: rest) (ue t u):=by
 intro pins s σ H D I h;refine wpAny_execs_cons (thn (h1 pins s σ H { D with nx:=u D } I h) fun f s1 q=>?_)
 cases f with
 | next =>
  obtain ⟨σ',H',I',q⟩:=q;exact h2 pins s1 σ' H' D I' q
 | ret v=>exact q
 | brk=>exact q
 | cont=>exact q
theorem pss_one (h1:PS X st t):PSs X [st] t:=by
 intro pins s σ H D I h;refine wpAny_execs_cons (thn (h1 pins s σ H D I h) fun f s1 q=>?_)
 cases f with
 | next=>exact wpAny_execs_nil q
 | ret v=>exact q
 | brk=>exact q
 | cont=>exact q
theorem Inv.quiet {pins:List (Addr×Obj)} {σ:St} {H:Hp} {s:Shared} (I:Inv X pins σ H s):interactive X.env=false:=by simp [interactive,I.ok.kind]
def GO (te:TE):TS:=fun D σ H=>te σ H fun _ H1=>D.nx σ H1
theorem ps_expr (he:PE X e te) (hs:swapsWith e none pos.line X.env=pure false:=by rfl):PS X (.Expr e pos) (GO te):=by
 intro pins s σ H D I h;exact wpAny_Expr_any (thn (he pins s σ H _ I h) fun v s1 ⟨x,H1,I1,r1,q1⟩=>⟨σ,H1,I1,q1⟩) I.quiet hs
def Iq (te:TE):TS:=fun D σ H=>te σ H D.rt
theorem ps_ret (he:PE X e te):PS X (.Return (some e) pos) (Iq te):=by
 intro pins s σ H D I h;exact wpAny_Return_some (thn (he pins s σ H _ I h) fun v s1 ⟨x,H1,I1,r1,q1⟩=>⟨x,σ,H1,I1,r1,q1⟩)
def A8 (c:TT) (t u:TS):TS:=fun D σ H=>c σ H fun b H1=>if b=true then t D σ H1 else u D σ H1
theorem ps_if {c:Expr} {a b:List Stmt} {tc:TT} (hc:PT X c tc) (ha:PSs X a t) (hb:PSs X b u):PS X (.If c a b pos) (A8 tc t u):=by
 intro pins s σ H D I h;refine wpAny_If (thn (hc pins s σ H _ I h) fun d s1 ⟨H1,I1,q1⟩=>?_)
 cases d with
 | true=>exact ha pins s1 σ H1 D I1 q1
 | false=>exact hb pins s1 σ H1 D I1 q1
end
abbrev TG:=V→St→Hp→(St→Hp→Prop)→Prop
abbrev TGs:=List V→St→Hp→(St→Hp→Prop)→Prop
def PG (X:Cx) (target:Expr) (t:TG):Prop :=
 ∀ (pins:List (Addr×Obj)) (s:Shared) (σ:St) (H:Hp) (v:V) (u:Value) (Q:St→Hp→Prop),Inv X pins σ H s→RelV v u→t v σ H Q →
  wpAny (model X.prog X.w) X.A (assign target X.env u) (fun _ s'=>∃ σ' H',Inv X pins σ' H' s'∧Q σ' H') X.xe s
def PGs (X:Cx) (ts:List Expr) (t:TGs):Prop :=
 ∀ (pins:List (Addr×Obj)) (s:Shared) (σ:St) (H:Hp) (vs:List V) (us:List Value) (Q:St→Hp→Prop),Inv X pins σ H s→Vals vs us→t vs σ H Q →
  wpAny (model X.prog X.w) X.A (assignInOrder ((assignEach ts X.env).map (·.2)) us) (fun _ s'=>∃ σ' H',Inv X pins σ' H' s'∧Q σ' H') X.xe s
abbrev A9:=V→V→V→Hp→(Hp→Prop)→Prop
def GP (X:Cx) (t:A9):Prop :=
 ∀ (pins:List (Addr×Obj)) (s:Shared) (σ:St) (H:Hp) (o i v:V) (ov iv u:Value) (Q:Hp→Prop),Inv X pins σ H s→RelV o ov→RelV i iv→RelV v u→t o i v H Q →
  wpAny (model X.prog X.w) X.A (setItem ov iv u) (fun _ s'=>∃ H',Inv X pins σ H' s'∧Q H') X.xe s
abbrev TIp:=V→V→Hp→VK→Prop
def PIp (X:Cx) (op:Operator) (t:TIp):Prop :=
 ∀ (pins:List (Addr×Obj)) (s:Shared) (σ:St) (H:Hp) (x y:V) (v u:Value) (Q:VK),Inv X pins σ H s→RelV x v→RelV y u→t x y H Q →
  wpAny (model X.prog X.w) X.A (inplaceOp op v u) (EP X pins σ Q) X.xe s
section
variable {X:Cx} {pos:Pos}
def jm (i:Nat):TG:=fun v σ H Q=>Q (σ.set i (some v)) H
theorem ao {i:Nat} {x:Str} (hN:X.N.Nodup) (hi:X.N[i]?=some x) (hx:Loc X.env.scope x) (hf:X.fn x=true∨X.env.scope.names.lookup x=some .local:=by first | exact .inl rfl | exact .inr rfl | assumption):PG X (.Name x pos) (jm i):=by
 intro pins s σ H v u Q I r h;exact wpAny_assign_Name (dZ I hN hi hx r (fun s' I'=>⟨_,H,I',h⟩) hf)
def Ir:TGs:=fun vs σ H Q=>vs=[]∧Q σ H
def GQ (t:TG) (u:TGs):TGs:=fun vs σ H Q=>∃ v r,vs=v :: r∧t v σ H fun σ' H'=>u r σ' H' Q
theorem du:PGs X [] Ir:=by
 intro pins s σ H vs us Q I r h;obtain ⟨e,h⟩:=h;subst e
 cases r
 exact assignInOrder_nil ⟨σ,H,I,h⟩
theorem aJ {e:Expr} {es:List Expr} {t:TG} {u:TGs} (h1:PG X e t) (h2:PGs X es u)
  (hs:(assignEach (e :: es) X.env).map (·.2)=assign e X.env :: (assignEach es X.env).map (·.2):=by rfl):PGs X (e :: es) (GQ t u):=by
 intro pins s σ H vs us Q I r h;obtain ⟨v,vr,e1,h⟩:=h;subst e1
 cases r with
 | cons r rr =>
  rw [hs];refine assignInOrder_cons (thn (h1 pins s σ H _ _ _ I r h) fun _ s1 ⟨σ1,H1,I1,q1⟩=>?_);exact h2 pins s1 σ1 H1 _ _ Q I1 rr q1
def GR (K:W.Frag) (n:Nat) (t:TGs):TG:=fun v σ H Q=>∃ a xs,v=.ref a∧SqT K H a xs∧xs.length=n∧t xs σ H Q
theorem lW {es:List Expr} {k:Nat} {t:TGs} {n:Nat} (hc:X.calm=true) (h:PGs X es t)
  (hn:(assignEach es X.env).length=n:=by rfl) (hst:(assignEach es X.env).findIdx? (·.1)=none:=by rfl):PG X (.Tuple es k pos) (GR X.K n t):=by
 intro pins s σ H v u Q I r hw;obtain ⟨a,xs,e1,hq,hl,hw⟩:=hw;subst e1
 cases r
 obtain ⟨its,rv,ht,hz⟩:=I.tuple hq;refine assign_Tuple_tuple (I.ok.hd hc) ht (by simp [hn,← hl,rv.length]) hst fun h' hx=>?_;have I1:Inv X pins σ H { s with heap:=h' }:=I.kept (t':=s.toks) fun b o e=>hx b o (aAy (aAf e)) e;exact h pins _ σ H xs _ Q I1 (by simpa using rv) hw
def gSub (to ti:TE) (t:A9):TG:=fun v σ H Q=>to σ H fun o H1=>ti σ H1 fun i H2=>t o i v H2 fun H3=>Q σ H3
theorem uf {o i:Expr} {to ti:TE} {t:A9} (ho:PE X o to) (hi:PE X i ti) (hs:GP X t)
  (ha:∀ v,assign (.Subscript o i pos) X.env v=(do
   let ov ← holding [v] (eval o X.env)
   let iv ← holding [v,ov] (eval i X.env)
   standAt pos
   holding [v,ov,iv] (setItem ov iv v)
   release [v,ov,iv] []):=by intro _;rfl):PG X (.Subscript o i pos) (gSub to ti t):=by
 intro pins s σ H v u Q I r h;rw [ha];refine wpAny_bind (wpAny_holding (thn (ho pins s σ H _ I h) fun ov s1 ⟨x,H1,I1,r1,q1⟩=>?_));refine wpAny_bind (wpAny_holding (thn (hi pins s1 σ H1 _ I1 q1) fun iv s2 ⟨y,H2,I2,r2,q2⟩=>?_));refine wpAny_bind (wpAny_standAt (wpAny_bind (wpAny_holding (thn (hs pins s2 σ H2 x y v ov iv u _ I2 r1 r2 r q2) fun _ s3 ⟨H3,I3,q3⟩=>?_))));exact wpAny_release ⟨σ,H3,I3,q3⟩
def ww (te:TE) (g:TG):TS:=fun D σ H=>te σ H fun x H1=>g x σ H1 D.nx
theorem ug {tg e:Expr} {te:TE} {g:TG} (he:PE X e te) (hg:PG X tg g) (hs:swapsWithSole [tg] e pos.line X.env=pure false:=by rfl) (hw:swappedStores [tg] e X.env=pure none:=by rfl)
  (h1:(assignEach [tg] X.env).map (·.2)=[assign tg X.env]:=by rfl):PS X (.Assign [tg] e pos) (ww te g):=by
 intro pins s σ H D I h;refine wpAny_Assign_stores (thn (he pins s σ H _ I h) fun v s1 ⟨x,H1,I1,r1,q1⟩=>?_) hs hw;rw [h1];exact thn (hg pins s1 σ H1 x v _ I1 r1 q1) fun _ s2 q=>q
theorem ps_set {i:Nat} {x:Str} {e:Expr} {te:TE} {pos':Pos} (hN:X.N.Nodup) (hi:X.N[i]?=some x) (hx:Loc X.env.scope x) (he:PE X e te) (hs:swapsWith e (some (.Name x pos')) pos.line X.env=pure false:=by rfl) (hf:X.fn x=true∨X.env.scope.names.lookup x=some .local:=by first | exact .inl rfl | exact .inr rfl | assumption) :
  PS X (.Assign [.Name x pos'] e pos) (ww te (jm i)):=by
 intro pins s σ H D I h;refine wpAny_Assign_Name (thn (he pins s σ H _ I h) fun v s1 ⟨y,H1,I1,r1,q1⟩=>?_) hs;exact dZ I1 hN hi hx r1 (fun s2 I2=>⟨_,H1,I2,q1⟩) hf
def Iu (i:Nat) (te:TE) (ti:TIp):TS:=fun D σ H=>∃ x,σ[i]?=some (some x)∧te σ H fun y H1=>ti x y H1 fun z H2=>D.nx (σ.set i (some z)) H2
theorem pU {i:Nat} {x:Str} {e:Expr} {te:TE} {op:Operator} {ti:TIp} {pos':Pos} (hN:X.N.Nodup) (hi:X.N[i]?=some x) (hx:Loc X.env.scope x) (he:PE X e te) (ho:PIp X op ti) (hf:X.fn x=true∨X.env.scope.names.lookup x=some .local:=by first | exact .inl rfl | exact .inr rfl | assumption) :
  PS X (.AugAssign (.Name x pos') op e pos) (Iu i te ti):=by
 intro pins s σ H D I h;obtain ⟨v,e1,h⟩:=h;obtain ⟨m,hn,hl⟩:=I.loc;have vis:Vis X.env.scope x:=by rcases hx with k | k;exact .inl k;exact .inr (.inl k)
 obtain ⟨u,r,l⟩:=hl i x v hi e1 vis;refine wpAny_AugAssign_Name ?_;have go:wpAny (model X.prog X.w) X.A (eval e X.env) (fun w s₂=>wpAny (model X.prog X.w) X.A (inplaceOp op u w) (fun r s₃=>wpAny (model X.prog X.w) X.A (storeName X.env x r) (fun _=>SP X pins D .next) X.xe s₃) X.xe s₂) X.xe s:=by
  refine thn (he pins s σ H _ I h) fun w s1 ⟨y,H1,I1,r1,q1⟩=>?_;refine thn (ho pins s1 σ H1 v y u w _ I1 r r1 q1) fun z s2 ⟨zv,H2,I2,r2,q2⟩=>?_;exact dZ I2 hN hi hx r2 (fun s3 I3=>⟨_,H2,I3,q2⟩) hf
 rcases l with ⟨hk,hm⟩ | ⟨hk,c,hc,hcell⟩
 ·exact wpAny_loadName_local I.ok.kind hk hn hm go
 ·rcases hk with hk | hk
  ·exact wpAny_loadName_cell I.ok.kind hk hc hcell go
  ·rcases hx with k | k
   ·have:X.env.scope.names.lookup x=some .free:=hk;rw [k] at this;cases this
   ·have:X.env.scope.names.lookup x=some .free:=hk;rw [k] at this;cases this
def ipI (f:Int→Int→Int):TIp:=fun x y H Q=>∃ i j,x=.int i∧y=.int j∧Q (.int (f i j)) H
theorem ip_add:PIp X .Add (ipI fun i j=>i+j):=by
 intro pins s σ H x y v u Q I r1 r2 h;obtain ⟨i,j,e1,e2,q⟩:=h;subst e1;subst e2;obtain ⟨t,rfl⟩:=r1;obtain ⟨t',rfl⟩:=r2;exact iadd_int ⟨.int _,H,I.tok _,⟨_,rfl⟩,q⟩
theorem Ba:PIp X .Sub (ipI fun i j=>i - j):=by
 intro pins s σ H x y v u Q I r1 r2 h;obtain ⟨i,j,e1,e2,q⟩:=h;subst e1;subst e2;obtain ⟨t,rfl⟩:=r1;obtain ⟨t',rfl⟩:=r2;exact isub_int ⟨.int _,H,I.tok _,⟨_,rfl⟩,q⟩
end
section
variable {X:Cx} {pos:Pos}
def Bb (c:TT) (tb:TS):TS:=fun D σ H=>∃ W:Nat→St→Hp→Prop,(∃ m,W m σ H)∧∀ m σ H,W m σ H →
 c σ H fun b H1=>if b=true then ∃ N:St→Hp→Prop,(∀ σ' H',N σ' H'→∃ m',m' < m∧W m' σ' H')∧tb { D with nx:=N,ct:=N,bk:=D.nx } σ H1 else D.nx σ H1
theorem jn {c:Expr} {body:List Stmt} {tc:TT} {tb:TS} (hp:PassesOwn (model X.prog X.w) X.A X.env X.xe) (hc:PT X c tc) (hb:PSs X body tb):PS X (.While c body [] pos) (Bb tc tb):=by
 intro pins s σ H D I h;obtain ⟨W,⟨m0,w0⟩,turn⟩:=h;refine wpAny_While (codeAny_whileLoop (fun n s'=>∃ σ' H',Inv X pins σ' H' s'∧W n σ' H') ?_ m0 ⟨σ,H,I,w0⟩);rintro n s1 ⟨σ1,H1,I1,w1⟩;refine wpAny_passesOwn hp (thn (hc pins s1 σ1 H1 _ I1 (turn n σ1 H1 w1)) fun b s2 ⟨H2,I2,q2⟩=>?_)
 cases b with
 | true =>
  obtain ⟨N,hN,q2⟩:=q2;rw [if_pos rfl];refine wpAny_passesOwn hp (thn (hb pins s2 σ1 H2 _ I2 q2) fun f s3 q3=>?_)
  cases f with
  | next =>
   obtain ⟨σ3,H3,I3,n3⟩:=q3;obtain ⟨m',hm,w3⟩:=hN σ3 H3 n3;exact ⟨m',hm,σ3,H3,I3,w3⟩
  | cont =>
   obtain ⟨σ3,H3,I3,n3⟩:=q3;obtain ⟨m',hm,w3⟩:=hN σ3 H3 n3;exact ⟨m',hm,σ3,H3,I3,w3⟩
  | brk=>exact q3
  | ret v=>exact q3
 | false =>
  rw [if_neg aAw];exact wpAny_execs_nil ⟨σ1,H2,I2,q2⟩
end
structure It where
 go:Nat→Hp→Prop
 yld:Nat→Hp→V→Hp→Prop
 stop:Nat→Hp→Prop
def fG (X:Cx) (pins:List (Addr×Obj)) (H:Hp) (b:Addr):Prop :=
 H b=none∧b≠X.env.locals∧b∉X.fs∧(b∈X.ex∨X.s₀.heap.objs.size≤b)∧(∀ x c,X.env.cells.lookup x=some c→c≠b)∧∀ p∈X.pn++pins,p.1≠b
theorem Inv.fpOk {X:Cx} {pins:List (Addr×Obj)} {σ:St} {H H':Hp} {s:Shared} {b:Addr} (I:Inv X pins σ H s) (hb:s.heap.objs.size≤b) (hn:H' b=none):fG X pins H' b:=by
 refine ⟨hn,aBk (aAj I.lt hb),I.nofs hb,.inr (aAA I.sz hb),fun x c e z=>?_,fun p hp z=>?_⟩
 ·obtain ⟨v,q⟩:=I.cell x c e;exact absurd (aAj q.lt (by rw [z];exact hb)) (aAN _)
 ·exact absurd (aAj (aAf (I.pin p hp).1) (by rw [z];exact hb)) (aAN _)
structure Turn (P:Program) (w:World) (K:W.Frag) (tg:Expr) (J:It) (fp:List Addr) (it:Addr) (tn:Nat→Heap→Prop):Prop where
 mem:it∈fp
 obj:∀ i h,tn i h→∀ b∈fp,∃ o,h.get? b=some o∧∀ v,o.data≠.cell v
 keep:∀ i h h',tn i h→(∀ b∈fp,∀ o,h.get? b=some o→h'.get? b=some o)→tn i h'
 item:∀ (X:Cx),X.prog=P→X.w=w→X.K=K→X.calm=true→∀ (i:Nat) (pins:List (Addr×Obj)) (s:Shared) (σ:St) (H:Hp) (E:Value→Shared→Prop),Inv X pins σ H s→(∀ b∈fp,fG X pins H b)→tn i s.heap→J.go i H →
  wpAny (model P w) X.A (pyNext (.ref it)) (fun r s1=>∃ u,r=some u ∧
   wpAny (model P w) X.A (letOwnedTupleGo tg (.ref it) u) (fun _ s2=>∃ x H',Inv X pins σ H' s2∧RelV x u∧J.yld i H x H'∧tn (i+1) s2.heap∧∀ b∈fp,H' b=none) E s1) E s
 done:∀ (X:Cx),X.prog=P→X.w=w→X.K=K→X.calm=true→∀ (i:Nat) (pins:List (Addr×Obj)) (s:Shared) (σ:St) (H:Hp) (E:Value→Shared→Prop),Inv X pins σ H s→(∀ b∈fp,fG X pins H b)→tn i s.heap→J.stop i H →
  wpAny (model P w) X.A (pyNext (.ref it)) (fun r s1=>r=none∧Inv X pins σ H s1) E s
 self:∀ (A:Around) (i:Nat) (s:Shared) (Q:Value→Shared→Prop) (E:Value→Shared→Prop),tn i s.heap→Q (.ref it) s→wpAny (model P w) A (pyIter (.ref it)) Q E s
abbrev TI:=St→Hp→(It→Hp→Prop)→Prop
def PIE (X:Cx) (pins:List (Addr×Obj)) (σ:St) (tg:Expr) (R:It→Hp→Prop) (itv:Value) (s2:Shared):Prop :=
 ∃ (it:Addr) (fp:List Addr) (tn:Nat→Heap→Prop) (J:It) (H':Hp),itv=.ref it∧Inv X pins σ H' s2∧Turn X.prog X.w X.K tg J fp it tn∧tn 0 s2.heap∧(∀ b∈fp,fG X pins H' b)∧R J H'
def PI (X:Cx) (tg iter:Expr) (wi:TI):Prop :=
 ∀ (pins:List (Addr×Obj)) (s:Shared) (σ:St) (H:Hp) (R:It→Hp→Prop),Inv X pins σ H s→wi σ H R →
  wpAny (model X.prog X.w) X.A (eval iter X.env) (fun v s1=>wpAny (model X.prog X.w) X.A (pyIter v) (PIE X pins σ tg R) X.xe s1) X.xe s
theorem nl {M:Model} {A:Around} {E:Value→Shared→Prop} {s:Shared} {tg:Expr} {it:Addr} {u:Value} {o:Obj} {n:String} {vs:Array Value} {Q:Unit→Shared→Prop} (ho:s.heap.get? it=some o) (hc:o.cls=.type n) (hd:o.data=.fields vs)
    (hn:["enumerate","zip","dict_itemiterator","dict_reverseitemiterator","odict_iterator","itertools.zip_longest","itertools.pairwise"].contains n=false) (hQ:Q () s):wpAny M A (letOwnedTupleGo tg (.ref it) u) Q E s:=by
  unfold letOwnedTupleGo
  cases tg <;> first
    | exact wpAny_pure hQ
    | (cases u <;> first
        | exact wpAny_pure hQ
        | (refine wpAny_bind (wpAny_load ho ?_)
           rw [hc,hd];show wpAny M A (if (["enumerate","zip","dict_itemiterator","dict_reverseitemiterator","odict_iterator","itertools.zip_longest","itertools.pairwise"].contains n && vs[0]? == some (rawInt _))=true then _ else _) Q E s;rw [if_neg (by intro h;rw [hn,Bool.false_and] at h;cases h)];exact wpAny_pure hQ))
def Itl (K:W.Frag) (a:Addr):It :=
 ⟨fun i H=>∃ xs x,SqL K H a xs∧xs[i]?=some x,fun i H x H'=>H'=H∧∀ xs,SqL K H a xs→xs[i]?=some x,fun i H=>∃ xs,SqL K H a xs∧xs.length≤i⟩
def Itt (K:W.Frag) (a:Addr):It :=
 ⟨fun i H=>∃ xs x,SqT K H a xs∧xs[i]?=some x,fun i H x H'=>H'=H∧∀ xs,SqT K H a xs→xs[i]?=some x,fun i H=>∃ xs,SqT K H a xs∧xs.length≤i⟩
def Itr (lo:Int) (n:Nat):It:=⟨fun i _=>i < n,fun i H x H'=>H'=H∧x=.int (lo+i),fun i _=>n≤i⟩
theorem sx {P:Program} {w:World} {K:W.Frag} {tg:Expr} (a it:Addr):Turn P w K tg (Itl K a) [it] it (fun i h=>h.IsListIter it a i) where
 mem:=by simp
 obj:=fun i h st b hb=>by
  have e:b=it:=by simpa using hb
  subst e;obtain ⟨o,e,c,d⟩:=st;exact ⟨o,e,fun v z=>by rw [d] at z;cases z⟩
 keep:=fun i h h' st k=>st.at fun o e=>k it (by simp) o e
 item:=by
  intro X hP hw hK hc i pins s σ H E I hf st hg;subst hP hw hK;obtain ⟨xs,x,hq,hx⟩:=hg;obtain ⟨its,rv,p,hz⟩:=I.list hq;obtain ⟨u,hu,ru⟩:=rv.get hx;obtain ⟨f0,f1,f2,f3,f4,f5⟩:=hf it (by simp);refine wpAny_pyNext_list_item st p.isList (x:=u) (by simpa using hu) fun h' st' sb=>?_;have I1:Inv X pins σ H { s with heap:=h' }:=I.turned (t':=s.toks) (fun b o hb e=>(sb.2 b hb).trans e) f0 f1 f3 f4 f5;obtain ⟨o,e,c,d⟩:=id st';exact ⟨u,rfl,nl (s:={ s with heap:=h' }) e c d (by decide) ⟨x,H,I1,ru,⟨rfl,fun ys hy=>by rw [I.list_inj hy hq];exact hx⟩,st',fun b hb=>(hf b hb).1⟩⟩
 done:=by
  intro X hP hw hK hc i pins s σ H E I hf st hg;subst hP hw hK;obtain ⟨xs,hq,hx⟩:=hg;obtain ⟨its,rv,p,hz⟩:=I.list hq;obtain ⟨f0,f1,f2,f3,f4,f5⟩:=hf it (by simp);have hl:=rv.length;exact wpAny_pyNext_list_end (I.ok.hd hc) st p.isList (by simp;lia) fun h' eb=>⟨rfl,I.turned (t':=s.toks) (fun b o hb e=>eb b o hb e) f0 f1 f3 f4 f5⟩
 self:=fun _ _ _ _ _ st h=>wpAny_pyIter_listiter st h
theorem pV {P:Program} {w:World} {K:W.Frag} {tg:Expr} (a it:Addr):Turn P w K tg (Itt K a) [it] it (fun i h=>h.IsTupleIter it a i) where
 mem:=by simp
 obj:=fun i h st b hb=>by
  have e:b=it:=by simpa using hb
  subst e;obtain ⟨o,e,c,d⟩:=st;exact ⟨o,e,fun v z=>by rw [d] at z;cases z⟩
 keep:=fun i h h' st k=>st.at fun o e=>k it (by simp) o e
 item:=by
  intro X hP hw hK hc i pins s σ H E I hf st hg;subst hP hw hK;obtain ⟨xs,x,hq,hx⟩:=hg;obtain ⟨its,rv,p,hz⟩:=I.tuple hq;obtain ⟨u,hu,ru⟩:=rv.get hx;obtain ⟨f0,f1,f2,f3,f4,f5⟩:=hf it (by simp);refine wpAny_pyNext_tuple_item st (show s.heap.IsTuple a its.toArray from p) (x:=u) (by simpa using hu) fun h' st' sb=>?_;have I1:Inv X pins σ H { s with heap:=h' }:=I.turned (t':=s.toks) (fun b o hb e=>(sb.2 b hb).trans e) f0 f1 f3 f4 f5;obtain ⟨o,e,c,d⟩:=id st';exact ⟨u,rfl,nl (s:={ s with heap:=h' }) e c d (by decide) ⟨x,H,I1,ru,⟨rfl,fun ys hy=>by rw [I.tuple_inj hy hq];exact hx⟩,st',fun b hb=>(hf b hb).1⟩⟩
 done:=by
  intro X hP hw hK hc i pins s σ H E I hf st hg;subst hP hw hK;obtain ⟨xs,hq,hx⟩:=hg;obtain ⟨its,rv,p,hz⟩:=I.tuple hq;obtain ⟨f0,f1,f2,f3,f4,f5⟩:=hf it (by simp);have hl:=rv.length;exact wpAny_pyNext_tuple_end (I.ok.hd hc) st (show s.heap.IsTuple a its.toArray from p) (by simp;lia) fun h' eb=>⟨rfl,I.turned (t':=s.toks) (fun b o hb e=>eb b o hb e) f0 f1 f3 f4 f5⟩
 self:=fun _ _ _ _ _ st h=>wpAny_pyIter_tupleiter st h
theorem pW {P:Program} {w:World} {K:W.Frag} {tg:Expr} (it:Addr) (lo:Int) (n:Nat):Turn P w K tg (Itr lo n) [it] it (fun i h=>IsRangeIter h it (lo+(i:Nat)*1) ((n:Int) - (i:Nat)) 1) where
 mem:=by simp
 obj:=fun i h st b hb=>by
  have e:b=it:=by simpa using hb
  subst e;exact ⟨_,st,fun v z=>by
   have z':Data.fields _=Data.cell v:=z
   cases z'⟩
 keep:=fun i h h' st k=>k it (by simp) _ st
 item:=by
  intro X hP hw hK hc i pins s σ H E I hf st hg;subst hP hw hK;obtain ⟨f0,f1,f2,f3,f4,f5⟩:=hf it (by simp);have W:=Walks.range (prog:=X.prog) (w:=X.w) (I.ok.hd hc) it lo 1 n;refine W.item i s _ _ hg st fun v h' tk hv st' kk=>?_;obtain ⟨t,rfl⟩:=hv;have I1:Inv X pins σ H { s with heap:=h',toks:=tk }:=I.turned (fun b o hb e=>kk b o (by simpa using hb) e) f0 f1 f3 f4 f5;refine ⟨_,rfl,nl (s:={ s with heap:=h',toks:=tk }) (n:= "range_iterator") st' rfl rfl (by decide) ⟨.int (lo+i),H,I1,⟨t,?_⟩,⟨rfl,rfl⟩,st',fun b hb=>(hf b hb).1⟩⟩;rw [Int.mul_one]
 done:=by
  intro X hP hw hK hc i pins s σ H E I hf st hg;subst hP hw hK;obtain ⟨f0,f1,f2,f3,f4,f5⟩:=hf it (by simp);exact wpAny_pyNext_range_end (I.ok.hd hc) st (by have:n≤i:=hg;lia) fun h' eb=>⟨rfl,I.turned (t':=s.toks) (fun b o hb e=>eb b o hb e) f0 f1 f3 f4 f5⟩
 self:=fun _ _ _ _ _ st h=>wpAny_pyIter_rangeiter st h
section
variable {X:Cx} {tg:Expr}
def xX (K:W.Frag) (tl:TE):TI:=fun σ H R=>tl σ H fun x H1=>∃ a,x=.ref a∧(∃ xs,SqL K H1 a xs)∧R (Itl K a) H1
def GS (K:W.Frag) (tl:TE):TI:=fun σ H R=>tl σ H fun x H1=>∃ a,x=.ref a∧(∃ xs,SqT K H1 a xs)∧R (Itt K a) H1
theorem wx {l:Expr} {tl:TE} (hl:PE X l tl):PI X tg l (xX X.K tl):=by
 intro pins s σ H R I h;refine thn (hl pins s σ H _ I h) fun v s1 ⟨x,H1,I1,r1,q1⟩=>?_;obtain ⟨a,e,⟨xs,hq⟩,q⟩:=q1;subst e
 cases r1
 obtain ⟨its,rv,p,hz⟩:=I1.list hq;refine wpAny_pyIter_list p.isList ?_;refine ⟨s1.heap.objs.size,[s1.heap.objs.size],_,_,H1,rfl,I1.kept (t':=s1.toks) fun b o e=>aAb _ e,sx a _,⟨_,aAq _ rfl,rfl,rfl⟩,fun b hb=>?_,q⟩;have e:b=s1.heap.objs.size:=by simpa using hb
 subst e;exact I1.fpOk (aAl _) (I1.hok.fresh (aAl _))
theorem Bc {l:Expr} {tl:TE} (hl:PE X l tl):PI X tg l (GS X.K tl):=by
 intro pins s σ H R I h;refine thn (hl pins s σ H _ I h) fun v s1 ⟨x,H1,I1,r1,q1⟩=>?_;obtain ⟨a,e,⟨xs,hq⟩,q⟩:=q1;subst e
 cases r1
 obtain ⟨its,rv,p,hz⟩:=I1.tuple hq;refine wpAny_pyIter_tuple (show s1.heap.IsTuple a its.toArray from p) ?_;refine ⟨s1.heap.objs.size,[s1.heap.objs.size],_,_,H1,rfl,I1.kept (t':=s1.toks) fun b o e=>aAb _ e,pV a _,⟨_,aAq _ rfl,rfl,rfl⟩,fun b hb=>?_,q⟩;have e:b=s1.heap.objs.size:=by simpa using hb
 subst e;exact I1.fpOk (aAl _) (I1.hok.fresh (aAl _))
theorem uh {pins:List (Addr×Obj)} {σ:St} {H:Hp} {s:Shared} {R:It→Hp→Prop} {E:Value→Shared→Prop} {lo hi:Int} {t u v:Tok} {tk:Nat} (I:Inv X pins σ H s) (h1:-(2 ^ 62)≤lo) (h2:lo < 2 ^ 62) (h3:-(2 ^ 62)≤hi) (h4:hi < 2 ^ 62)
  (q:R (Itr lo (hi - lo).toNat) H):wpAny (model X.prog X.w) X.A (pyIter (.ref s.heap.objs.size)) (PIE X pins σ tg R) E { s with heap:=s.heap.push { cls:=.type "range",data:=.fields #[.int lo t,.int hi u,.int 1 v] },toks:=tk }:=by
 refine wpAny_pyIter_range (IsRange.new ..) (small_one h1 h2 h3 h4) ?_;have I1:Inv X pins σ H { s with heap:=s.heap.push { cls:=.type "range",data:=.fields #[.int lo t,.int hi u,.int 1 v] },toks:=tk }:=I.kept fun b o e=>aAb _ e;refine ⟨(s.heap.push { cls:=.type "range",data:=.fields #[.int lo t,.int hi u,.int 1 v] }).objs.size,[(s.heap.push { cls:=.type "range",data:=.fields #[.int lo t,.int hi u,.int 1 v] }).objs.size],_,_,H,rfl,
  I1.kept (t':=tk) fun b o e=>aAb _ e,pW _ lo (hi - lo).toNat,?_,fun b hb=>?_,q⟩
 ·have e1:lo+((0:Nat):Int)*1=lo:=by simp
  have e2:(((hi - lo).toNat:Nat):Int) - ((0:Nat):Int)=Builtin.Range.rangeSize lo hi 1:=by rw [rangeSize_one];split <;> lia
  show IsRangeIter _ _ (lo+((0:Nat):Int)*1) ((((hi - lo).toNat:Nat):Int) - ((0:Nat):Int)) 1;rw [e1,e2];exact aAq _ rfl
 ·have e:b=(s.heap.push { cls:=.type "range",data:=.fields #[.int lo t,.int hi u,.int 1 v] }).objs.size:=by simpa using hb
  subst e;exact I1.fpOk (aAl _) (I1.hok.fresh (aAl _))
def GT (ta:TA):TI:=fun σ H R=>ta σ H fun vs H1=>∃ j:Int,vs=[.int j]∧-(2 ^ 62)≤j∧j < 2 ^ 62∧R (Itr 0 j.toNat) H1
theorem bf {a:Expr} {ta:TA} {p pos:Pos} (hg:Gl X "range") (hm:X.mg "range" = none) (ha:PA X [a] ta) (hs:starEach [a] X.env=[(false,eval a X.env)]:=by rfl):PI X tg (.Call (.Name "range" p) [a] [] pos) (GT ta):=by
 intro pins s σ H R I h;refine Call_ (gX I hg hm boot_range (PyProof.Rows.callWith_type1 (thn (ha pos pins s σ H _ I h) fun us s1 ⟨vs,H1,I1,r1,q1⟩=>?_) hs rfl));obtain ⟨j,e,q1,q2,q⟩:=q1;subst e
 cases r1 with
 | cons r rr =>
  cases rr
  obtain ⟨t,rfl⟩:=r;exact call_range_1 (uh I1 (by lia) (by lia) q1 q2 (by simpa using q))
def tFor (wi:TI) (g:TG) (tb:TS):TS:=fun D σ H=>wi σ H fun J H1=>∃ W:Nat→Nat→St→Hp→Prop,(∃ m,W 0 m σ H1)∧∀ i m σ H,W i m σ H →
 (J.stop i H∧D.nx σ H)∨(J.go i H∧∃ N:St→Hp→Prop,(∀ σ' H',N σ' H'→∃ m',m' < m∧W (i+1) m' σ' H')∧∀ x H',J.yld i H x H'→g x σ H' fun σ2 H2=>tb { D with nx:=N,ct:=N,bk:=D.nx } σ2 H2)
def lX (fp:List Addr) (h:Heap):List (Addr×Obj):=fp.filterMap fun b=>(h.get? b).map fun o=>(b,o)
theorem bT {fp:List Addr} {h:Heap} {b:Addr} {o:Obj} (hb:b∈fp) (e:h.get? b=some o):(b,o)∈lX fp h:=aAO.mpr ⟨b,hb,by rw [e];rfl⟩
theorem sy {fp:List Addr} {h:Heap} {p:Addr×Obj} (hp:p∈lX fp h):p.1∈fp∧h.get? p.1=some p.2:=by
 obtain ⟨b,hb,e⟩:=aAO.mp hp
 cases q:h.get? b with
 | none=>rw [q] at e;cases e
 | some o =>
  rw [q] at e;have e':(b,o)=p:=Option.some.inj e;subst e';exact ⟨hb,q⟩
theorem Inv.pinned {pins:List (Addr×Obj)} {σ:St} {H:Hp} {s:Shared} {fp:List Addr} (I:Inv X pins σ H s) (hf:∀ b∈fp,fG X pins H b) (ho:∀ b∈fp,∃ o,s.heap.get? b=some o∧∀ v,o.data≠.cell v):Inv X (pins++lX fp s.heap) σ H s :=
 I.pins_of fun p hp=>(aAK.mp hp).elim (fun z=>I.pin p (aAG _ z)) fun z=>by
  obtain ⟨hb,e⟩:=sy z;obtain ⟨f0,f1,f2,_⟩:=hf p.1 hb;obtain ⟨o,e',d⟩:=ho p.1 hb;rw [e] at e';cases e';exact ⟨e,f0,f1,f2,d⟩
theorem Inv.unpinned {pins pl:List (Addr×Obj)} {σ:St} {H:Hp} {s:Shared} (I:Inv X (pins++pl) σ H s):Inv X pins σ H s:=I.pins_of fun p hp=>I.pin p (aAG _ (List.mem_append_left _ hp))
theorem ps_for {iter:Expr} {body:List Stmt} {wi:TI} {g:TG} {tb:TS} {pos:Pos} (hp:PassesOwn (model X.prog X.w) X.A X.env X.xe) (hc:X.calm=true) (hi:PI X tg iter wi) (hg:PG X tg g) (hb:PSs X body tb)
  (hs:∀ x,foldedSetIterable iter X.env x=pure x:=by intro _;rfl):PS X (.For tg iter body [] pos) (tFor wi g tb):=by
 intro pins s σ H D I h;refine wpAny_For (thn (hi pins s σ H _ I h) fun v s1 h1=>thn h1 fun itv s2 h2=>?_) hs;obtain ⟨it,fp,tn,J,H2,e,I2,T,st2,f2,W,⟨m0,w0⟩,turn⟩:=h2;subst e;have stat:∀ {H':Hp},(∀ b∈fp,H' b=none)→∀ b∈fp,fG X pins H' b:=fun hn b hb=>⟨hn b hb,(f2 b hb).2⟩;refine codeAny_forLoop_any (fun n s'=>∃ i σ' H',Inv X pins σ' H' s'∧tn i s'.heap∧(∀ b∈fp,H' b=none)∧W i n σ' H') ?_ m0 ⟨0,σ,H2,I2,st2,fun b hb=>(f2 b hb).1,w0⟩;rintro n s3 ⟨i,σ3,H3,I3,st3,fr3,w3⟩;rcases turn i n σ3 H3 w3 with ⟨stop,qn⟩ | ⟨go,N,hN,step⟩
 ·refine wpAny_passesOwn hp (thn (T.done X rfl rfl rfl hc i pins s3 σ3 H3 X.xe I3 (stat fr3) st3 stop) fun r s4 ⟨hr,I4⟩=>?_);subst hr;exact wpAny_execs_nil ⟨σ3,H3,I4,qn⟩
 ·refine wpAny_passesOwn hp (thn (T.item X rfl rfl rfl hc i pins s3 σ3 H3 X.xe I3 (stat fr3) st3 go) fun r s4 ⟨u,hr,h4⟩=>?_);subst hr;refine wpAny_passesOwn hp (thn h4 fun _ s5 ⟨x,H5,I5,r5,y5,st5,fr5⟩=>?_);have I5':=I5.pinned (stat fr5) (T.obj _ _ st5);refine wpAny_passesOwn hp (thn (hg _ s5 σ3 H5 x u _ I5' r5 (step x H5 y5)) fun _ s6 ⟨σ6,H6,I6,q6⟩=>?_);refine wpAny_passesOwn hp (thn (hb _ s6 σ6 H6 _ I6 q6) fun f s7 q7=>?_);have again:∀ {σ7:St} {H7:Hp},Inv X (pins++lX fp s5.heap) σ7 H7 s7→N σ7 H7→∃ m,m < n∧∃ i σ' H',Inv X pins σ' H' s7∧tn i s7.heap∧(∀ b∈fp,H' b=none)∧W i m σ' H':=fun {σ7 H7} I7 n7=>by
   obtain ⟨m',hm,w7⟩:=hN σ7 H7 n7;refine ⟨m',hm,i+1,σ7,H7,I7.unpinned,T.keep _ _ _ st5 fun b hb o e=>(I7.pin (b,o) (aAG _ (aAG _ (bT hb e)))).1,fun b hb=>?_,w7⟩;obtain ⟨o,e,d⟩:=T.obj _ _ st5 b hb;exact (I7.pin (b,o) (aAG _ (aAG _ (bT hb e)))).2.1
  cases f with
  | next=>obtain ⟨σ7,H7,I7,n7⟩:=q7;exact again I7 n7
  | cont=>obtain ⟨σ7,H7,I7,n7⟩:=q7;exact again I7 n7
  | brk=>obtain ⟨σ7,H7,I7,q7⟩:=q7;exact ⟨σ7,H7,I7.unpinned,q7⟩
  | ret v=>obtain ⟨x7,σ7,H7,I7,r7,q7⟩:=q7;exact ⟨x7,σ7,H7,I7.unpinned,r7,q7⟩
end
theorem ei {K:W.Frag} {a:Addr} {xs:List V} {g:TG} {tb:TS} {D:Ends} {σ:St} {H:Hp} (Pv:Nat→St→Hp→Prop) (h0:Pv 0 σ H) (hl:∀ i σ H,i≤xs.length→Pv i σ H→SqL K H a xs)
  (hs:∀ i x σ H,xs[i]?=some x→Pv i σ H→g x σ H fun σ2 H2=>tb { D with nx:=Pv (i+1),ct:=Pv (i+1),bk:=D.nx } σ2 H2) (hd:∀ σ H,Pv xs.length σ H→D.nx σ H) :
  ∃ W:Nat→Nat→St→Hp→Prop,(∃ m,W 0 m σ H)∧∀ i m σ H,W i m σ H →
   ((Itl K a).stop i H∧D.nx σ H)∨((Itl K a).go i H∧∃ N:St→Hp→Prop,(∀ σ' H',N σ' H'→∃ m',m' < m∧W (i+1) m' σ' H')∧∀ x H',(Itl K a).yld i H x H'→g x σ H' fun σ2 H2=>tb { D with nx:=N,ct:=N,bk:=D.nx } σ2 H2):=by
 refine ⟨fun i m σ H=>m=xs.length - i∧i≤xs.length∧Pv i σ H,⟨xs.length,by simp,aAx _,h0⟩,?_⟩;rintro i m σ H ⟨rfl,hi,p⟩;have q:=hl i σ H hi p
 by_cases hlt:i < xs.length
 ·refine .inr ⟨⟨xs,xs[i],q,by simp [hlt]⟩,Pv (i+1),fun σ' H' p'=>⟨xs.length - (i+1),by lia,rfl,hlt,p'⟩,fun x H' y=>?_⟩;obtain ⟨e,y⟩:=y;subst e;exact hs i x σ _ (y xs q) p
 ·have e:i=xs.length:=by lia
  subst e;exact .inl ⟨⟨xs,q,aAl _⟩,hd σ H p⟩
theorem lY {K:W.Frag} {a:Addr} {xs:List V} {g:TG} {tb:TS} {D:Ends} {σ:St} {H:Hp} (Pv:Nat→St→Hp→Prop) (h0:Pv 0 σ H) (hl:∀ i σ H,i≤xs.length→Pv i σ H→SqT K H a xs)
  (hs:∀ i x σ H,xs[i]?=some x→Pv i σ H→g x σ H fun σ2 H2=>tb { D with nx:=Pv (i+1),ct:=Pv (i+1),bk:=D.nx } σ2 H2) (hd:∀ σ H,Pv xs.length σ H→D.nx σ H) :
  ∃ W:Nat→Nat→St→Hp→Prop,(∃ m,W 0 m σ H)∧∀ i m σ H,W i m σ H →
   ((Itt K a).stop i H∧D.nx σ H)∨((Itt K a).go i H∧∃ N:St→Hp→Prop,(∀ σ' H',N σ' H'→∃ m',m' < m∧W (i+1) m' σ' H')∧∀ x H',(Itt K a).yld i H x H'→g x σ H' fun σ2 H2=>tb { D with nx:=N,ct:=N,bk:=D.nx } σ2 H2):=by
 refine ⟨fun i m σ H=>m=xs.length - i∧i≤xs.length∧Pv i σ H,⟨xs.length,by simp,aAx _,h0⟩,?_⟩;rintro i m σ H ⟨rfl,hi,p⟩;have q:=hl i σ H hi p
 by_cases hlt:i < xs.length
 ·refine .inr ⟨⟨xs,xs[i],q,by simp [hlt]⟩,Pv (i+1),fun σ' H' p'=>⟨xs.length - (i+1),by lia,rfl,hlt,p'⟩,fun x H' y=>?_⟩;obtain ⟨e,y⟩:=y;subst e;exact hs i x σ _ (y xs q) p
 ·have e:i=xs.length:=by lia
  subst e;exact .inl ⟨⟨xs,q,aAl _⟩,hd σ H p⟩
theorem gY {lo:Int} {n:Nat} {g:TG} {tb:TS} {D:Ends} {σ:St} {H:Hp} (Pv:Nat→St→Hp→Prop) (h0:Pv 0 σ H)
  (hs:∀ i σ H,i < n→Pv i σ H→g (.int (lo+i)) σ H fun σ2 H2=>tb { D with nx:=Pv (i+1),ct:=Pv (i+1),bk:=D.nx } σ2 H2) (hd:∀ σ H,Pv n σ H→D.nx σ H) :
  ∃ W:Nat→Nat→St→Hp→Prop,(∃ m,W 0 m σ H)∧∀ i m σ H,W i m σ H →
   ((Itr lo n).stop i H∧D.nx σ H)∨((Itr lo n).go i H∧∃ N:St→Hp→Prop,(∀ σ' H',N σ' H'→∃ m',m' < m∧W (i+1) m' σ' H')∧∀ x H',(Itr lo n).yld i H x H'→g x σ H' fun σ2 H2=>tb { D with nx:=N,ct:=N,bk:=D.nx } σ2 H2):=by
 refine ⟨fun i m σ H=>m=n - i∧i≤n∧Pv i σ H,⟨n,by simp,aAx _,h0⟩,?_⟩;rintro i m σ H ⟨rfl,hi,p⟩
 by_cases hlt:i < n
 ·refine .inr ⟨hlt,Pv (i+1),fun σ' H' p'=>⟨n - (i+1),by lia,rfl,hlt,p'⟩,fun x H' y=>?_⟩;obtain ⟨e,y⟩:=y;subst e y;exact hs i σ _ hlt p
 ·have e:i=n:=by lia
  subst e;exact .inl ⟨aAl _,hd σ H p⟩
abbrev R2:=V→V→Hp→VK→Prop
def OpR (X:Cx) (f:Value→Value→Sem Value) (r:R2):Prop :=
 ∀ (pins:List (Addr×Obj)) (s:Shared) (σ:St) (H:Hp) (x y:V) (v u:Value) (Q:VK),Inv X pins σ H s→RelV x v→RelV y u→r x y H Q →
  wpAny (model X.prog X.w) X.A (f v u) (EP X pins σ Q) X.xe s
def UnR (X:Cx) (f:Value→Sem Value) (r:V→Hp→VK→Prop):Prop :=
 ∀ (pins:List (Addr×Obj)) (s:Shared) (σ:St) (H:Hp) (x:V) (v:Value) (Q:VK),Inv X pins σ H s→RelV x v→r x H Q →
  wpAny (model X.prog X.w) X.A (f v) (EP X pins σ Q) X.xe s
def aO (X:Cx) (f:Value) (r:List V→Hp→VK→Prop):Prop :=
 ∀ (pins:List (Addr×Obj)) (s:Shared) (σ:St) (H:Hp) (xs:List V) (us:List Value) (Q:VK),Inv X pins σ H s→Vals xs us→r xs H Q →
  wpAny (model X.prog X.w) X.A (call f us) (EP X pins σ Q) X.xe s
def tOp (r:R2) (ta tb:TE):TE:=fun σ H Q=>ta σ H fun x H1=>tb σ H1 fun y H2=>r x y H2 Q
def tUn (r:V→Hp→VK→Prop) (ta:TE):TE:=fun σ H Q=>ta σ H fun x H1=>r x H1 Q
inductive IRI (C:Int→Int→Prop) (g:Int→Int→V) (x y:V) (H:Hp) (Q:VK):Prop
 | mk (i j:Int):(x=.int i)→(y=.int j)→(C i j)→(Q (g i j) H)→IRI C g x y H Q
def rI (C:Int→Int→Prop) (g:Int→Int→V):R2:=fun x y H Q=>IRI C g x y H Q
inductive IRI0 (g:Int→Int→V) (x y:V) (H:Hp) (Q:VK):Prop
 | mk (i j:Int):(x=.int i)→(y=.int j)→(Q (g i j) H)→IRI0 g x y H Q
def rI0 (g:Int→Int→V):R2:=fun x y H Q=>IRI0 g x y H Q
def rU (g:Int→V):V→Hp→VK→Prop:=fun x H Q=>∃ i,x=.int i∧Q (g i) H
section
variable {X:Cx} {a b c:Expr} {ta tb tc:TE} {pos:Pos}
theorem Bd (ha:PE X a ta) (hb:PE X b tb) {pins:List (Addr×Obj)} {s:Shared} {σ:St} {H:Hp} {R:V→V→Hp→Prop} (I:Inv X pins σ H s)
  (h:ta σ H fun x H1=>tb σ H1 fun y H2=>R x y H2) {Q:Value→Shared→Prop} {f:Value→Value→Sem Value}
  (hf:∀ v u s2 x y H2,Inv X pins σ H2 s2→RelV x v→RelV y u→R x y H2→wpAny (model X.prog X.w) X.A (f v u) Q X.xe s2) :
  wpAny (model X.prog X.w) X.A (eval a X.env) (fun v s₁=>wpAny (model X.prog X.w) X.A (eval b X.env) (fun u s₂=>wpAny (model X.prog X.w) X.A (f v u) Q X.xe s₂) X.xe s₁) X.xe s:=by
 refine thn (ha pins s σ H _ I h) fun v s1 ⟨x,H1,I1,r1,q1⟩=>?_;refine thn (hb pins s1 σ H1 _ I1 q1) fun u s2 ⟨y,H2,I2,r2,q2⟩=>?_;exact hf v u s2 x y H2 I2 r1 r2 q2
theorem pe_op {op:Operator} {r:R2} (ho:OpR X (binaryOp op) r) (ha:PE X a ta) (hb:PE X b tb):PE X (.BinOp a op b pos) (tOp r ta tb):=by
 intro pins s σ H Q I h;exact wpAny_BinOp (Bd ha hb I h fun v u s2 x y H2 I2 rx ry q=>ho pins s2 σ H2 x y v u Q I2 rx ry q)
theorem pe_un {op:UnaryOp} {r:V→Hp→VK→Prop} (ho:UnR X (unaryOp op) r) (ha:PE X a ta):PE X (.UnaryOp op a pos) (tUn r ta):=by
 intro pins s σ H Q I h;exact UnaryOp_ (thn (ha pins s σ H _ I h) fun v s1 ⟨x,H1,I1,r1,q1⟩=>ho pins s1 σ H1 x v Q I1 r1 q1)
theorem opI {f:Value→Value→Sem Value} {C:Int→Int→Prop} {g:Int→Int→Int}
  (rule:∀ (i j:Int) (t u:Tok) (s:Shared) (Q:Value→Shared→Prop) (E:Value→Shared→Prop),C i j→Q (.int (g i j) s.toks) { s with toks:=s.toks+1 }→wpAny (model X.prog X.w) X.A (f (.int i t) (.int j u)) Q E s) :
  OpR X f (rI C fun i j=>.int (g i j)):=by
 intro pins s σ H x y v u Q I rx ry h;obtain ⟨i,j,rfl,rfl,hc,q⟩:=h;obtain ⟨t,rfl⟩:=rx;obtain ⟨t',rfl⟩:=ry;exact rule i j t t' s _ _ hc ⟨.int (g i j),H,I.tok _,⟨_,rfl⟩,q⟩
theorem GU {f:Value→Value→Sem Value} {g:Int→Int→Int}
  (rule:∀ (i j:Int) (t u:Tok) (s:Shared) (Q:Value→Shared→Prop) (E:Value→Shared→Prop),Q (.int (g i j) s.toks) { s with toks:=s.toks+1 }→wpAny (model X.prog X.w) X.A (f (.int i t) (.int j u)) Q E s) :
  OpR X f (rI0 fun i j=>.int (g i j)):=by
 intro pins s σ H x y v u Q I rx ry h;obtain ⟨i,j,rfl,rfl,q⟩:=h;obtain ⟨t,rfl⟩:=rx;obtain ⟨t',rfl⟩:=ry;exact rule i j t t' s _ _ ⟨.int (g i j),H,I.tok _,⟨_,rfl⟩,q⟩
theorem wz {f:Value→Value→Sem Value} {g:Int→Int→Bool}
  (rule:∀ (i j:Int) (t u:Tok) (s:Shared) (Q:Value→Shared→Prop) (E:Value→Shared→Prop),Q (.bool (g i j)) s→wpAny (model X.prog X.w) X.A (f (.int i t) (.int j u)) Q E s) :
  OpR X f (rI0 fun i j=>.bl (g i j)):=by
 intro pins s σ H x y v u Q I rx ry h;obtain ⟨i,j,rfl,rfl,q⟩:=h;obtain ⟨t,rfl⟩:=rx;obtain ⟨t',rfl⟩:=ry;exact rule i j t t' s _ _ ⟨.bl (g i j),H,I,rfl,q⟩
def Iv (i j:Int):Prop:=0≤j∧j≤1000000∧i.natAbs < 2 ^ 64
def CMul (i j:Int):Prop:=(-(2 ^ 64) < i∧i < 2 ^ 64)∨(-(2 ^ 64) < j∧j < 2 ^ 64)
theorem CMul.ok {i j:Int} (h:CMul i j):IntMulOk i j:=by
 rcases h with ⟨h1,h2⟩ | ⟨h1,h2⟩
 ·exact .of_left (intBits_le_64 h1 h2)
 ·exact .of_right (intBits_le_64 h1 h2)
theorem aB:OpR X (binaryOp .Add) (rI0 fun i j=>.int (i+j)):=GU fun _ _ _ _ _ _ _ q=>add_int q
theorem dv:OpR X (binaryOp .Sub) (rI0 fun i j=>.int (i - j)):=GU fun _ _ _ _ _ _ _ q=>sub_int q
theorem em:OpR X (binaryOp .Mult) (rI CMul fun i j=>.int (i*j)):=opI fun _ _ _ _ _ _ _ hc q=>mul_int q hc.ok
theorem dz:OpR X (binaryOp .Mod) (rI (fun _ j=>0 < j) fun i j=>.int (i % j)):=opI fun i j _ _ _ _ _ hc q=>by
 have h1:(0:Int) < j:=hc;exact mod_int' (by lia) (by rw [Int.fmod_eq_emod_of_nonneg i (by lia)];exact q)
theorem er:OpR X (binaryOp .Pow) (rI Iv fun i j=>.int (i ^ j.toNat)):=opI fun _ _ _ _ _ _ _ hc q=>pow_int_small hc.1 hc.2.1 hc.2.2 q
theorem unI {f:Value→Sem Value} {g:Int→Int}
  (rule:∀ (i:Int) (t:Tok) (s:Shared) (Q:Value→Shared→Prop) (E:Value→Shared→Prop),Q (.int (g i) s.toks) { s with toks:=s.toks+1 }→wpAny (model X.prog X.w) X.A (f (.int i t)) Q E s) :
  UnR X f (rU fun i=>.int (g i)):=by
 intro pins s σ H x v Q I rx h;obtain ⟨i,rfl,q⟩:=h;obtain ⟨t,rfl⟩:=rx;exact rule i t s _ _ ⟨.int (g i),H,I.tok _,⟨_,rfl⟩,q⟩
theorem un_neg:UnR X (unaryOp .USub) (rU fun i=>.int (-i)):=unI fun _ _ _ _ _ q=>neg_int q
end
def GV:V→V→Bool
 | .non,.non=>true | .non,.int _=>true | .int _,.non=>true | .non,.bl _=>true | .bl _,.non=>true | .non,.str _=>true | .str _,.non=>true
 | .int _,.int _=>true | .bl _,.bl _=>true | .str _,.str _=>true | .byt _,.byt _=>true
 | .int _,.str _=>true | .str _,.int _=>true | .bl _,.str _=>true | .str _,.bl _=>true
 | _,_=>false
def rEq:R2:=fun x y H Q=>GV x y=true∧Q (.bl (decide (x=y))) H
def rNe:R2:=fun x y H Q=>GV x y=true∧Q (.bl (!decide (x=y))) H
theorem qU {i j:Int}:decide (V.int i=V.int j)=(i == j):=by
 rw [aAX];simp
theorem uk {i j:Bool}:decide (V.bl i=V.bl j)=(i == j):=by
 rw [aAX];simp
theorem qV {i j:Str}:decide (V.str i=V.str j)=(i == j):=by
 rw [aAX];simp
theorem qW {i j:Array UInt8}:decide (V.byt i=V.byt j)=(i.toList == j.toList):=by
 rw [aAX]
 cases i
 cases j
 simp
section
variable {X:Cx} {a b c:Expr} {ta tb tc:TE} {pos:Pos}
theorem az {pins:List (Addr×Obj)} {σ:St} {H:Hp} {s:Shared} {Q:VK} {k k':Bool} (I:Inv X pins σ H s) (q:Q (.bl k) H) (e:k=k'):EP X pins σ Q (.bool k') s:=by
 subst e;exact ⟨.bl k,H,I,rfl,q⟩
theorem op_eq:OpR X (compareOp .Eq) rEq:=by
 intro pins s σ H x y v u Q I rx ry h;obtain ⟨hs,q⟩:=h
 cases x with
 | non =>
  cases rx
  cases y with
  | non=>cases ry;exact EqNone.eq_none_none (az I q (by simp))
  | bl j=>cases ry;exact EqNone.eq_none_bool (az I q (by simp))
  | int j=>obtain ⟨t',rfl⟩:=ry;exact EqNone.eq_none_int (az I q (by simp))
  | str j=>obtain ⟨t',rfl⟩:=ry;exact EqNone.eq_none_str (az I q (by simp))
  | _=>exact absurd (show false=true from hs) aAw
 | bl i =>
  cases rx
  cases y with
  | non=>cases ry;exact EqNone.eq_bool_none (az I q (by simp))
  | bl j=>cases ry;exact eq_bool (az I q uk)
  | str j=>obtain ⟨t',rfl⟩:=ry;exact EqMixed.eq_bool_str (az I q (by simp))
  | _=>exact absurd (show false=true from hs) aAw
 | int i =>
  obtain ⟨t,rfl⟩:=rx
  cases y with
  | non=>cases ry;exact EqNone.eq_int_none (az I q (by simp))
  | int j=>obtain ⟨t',rfl⟩:=ry;exact eq_int (az I q qU)
  | str j=>obtain ⟨t',rfl⟩:=ry;exact EqMixed.eq_int_str (az I q (by simp))
  | _=>exact absurd (show false=true from hs) aAw
 | str i =>
  obtain ⟨t,rfl⟩:=rx
  cases y with
  | non=>cases ry;exact EqNone.eq_str_none (az I q (by simp))
  | bl j=>cases ry;exact EqMixed.eq_str_bool (az I q (by simp))
  | int j=>obtain ⟨t',rfl⟩:=ry;exact EqMixed.eq_str_int (az I q (by simp))
  | str j=>obtain ⟨t',rfl⟩:=ry;exact eq_str (az I q qV)
  | _=>exact absurd (show false=true from hs) aAw
 | byt i =>
  obtain ⟨t,rfl⟩:=rx
  cases y with
  | byt j=>obtain ⟨t',rfl⟩:=ry;exact W.eq_bytes (az I q qW)
  | _=>exact absurd (show false=true from hs) aAw
 | _=>cases y <;> exact absurd (show false=true from hs) aAw
theorem op_ne:OpR X (compareOp .NotEq) rNe:=by
 intro pins s σ H x y v u Q I rx ry h;obtain ⟨hs,q⟩:=h
 cases x with
 | non =>
  cases rx
  cases y with
  | non=>cases ry;exact EqNone.ne_none_none (az I q (by simp))
  | bl j=>cases ry;exact EqNone.ne_none_bool (az I q (by simp))
  | int j=>obtain ⟨t',rfl⟩:=ry;exact EqNone.ne_none_int (az I q (by simp))
  | str j=>obtain ⟨t',rfl⟩:=ry;exact EqNone.ne_none_str (az I q (by simp))
  | _=>exact absurd (show false=true from hs) aAw
 | bl i =>
  cases rx
  cases y with
  | non=>cases ry;exact EqNone.ne_bool_none (az I q (by simp))
  | bl j=>cases ry;exact ne_bool (az I q (congrArg not uk))
  | str j=>obtain ⟨t',rfl⟩:=ry;exact EqMixed.ne_bool_str (az I q (by simp))
  | _=>exact absurd (show false=true from hs) aAw
 | int i =>
  obtain ⟨t,rfl⟩:=rx
  cases y with
  | non=>cases ry;exact EqNone.ne_int_none (az I q (by simp))
  | int j=>obtain ⟨t',rfl⟩:=ry;exact ne_int (az I q (congrArg not qU))
  | str j=>obtain ⟨t',rfl⟩:=ry;exact EqMixed.ne_int_str (az I q (by simp))
  | _=>exact absurd (show false=true from hs) aAw
 | str i =>
  obtain ⟨t,rfl⟩:=rx
  cases y with
  | non=>cases ry;exact EqNone.ne_str_none (az I q (by simp))
  | bl j=>cases ry;exact EqMixed.ne_str_bool (az I q (by simp))
  | int j=>obtain ⟨t',rfl⟩:=ry;exact EqMixed.ne_str_int (az I q (by simp))
  | str j=>obtain ⟨t',rfl⟩:=ry;exact ne_str (az I q (congrArg not qV))
  | _=>exact absurd (show false=true from hs) aAw
 | byt i =>
  obtain ⟨t,rfl⟩:=rx
  cases y with
  | byt j=>obtain ⟨t',rfl⟩:=ry;exact W.ne_bytes (az I q (congrArg not qW))
  | _=>exact absurd (show false=true from hs) aAw
 | _=>cases y <;> exact absurd (show false=true from hs) aAw
theorem fM:OpR X (compareOp .Lt) (rI0 fun i j=>.bl (decide (i < j))):=wz fun _ _ _ _ _ _ _ q=>lt_int q
theorem nn:OpR X (compareOp .LtE) (rI0 fun i j=>.bl (decide (i≤j))):=wz fun _ _ _ _ _ _ _ q=>le_int q
theorem op_gt:OpR X (compareOp .Gt) (rI0 fun i j=>.bl (decide (j < i))):=wz fun _ _ _ _ _ _ _ q=>gt_int q
theorem GX:OpR X (compareOp .GtE) (rI0 fun i j=>.bl (decide (j≤i))):=wz fun _ _ _ _ _ _ _ q=>ge_int q
theorem sA:OpR X (compareOp .Lt) (fun x y H Q=>∃ i j,x=.str i∧y=.str j∧Q (.bl (decide (i.cps.toList < j.cps.toList))) H):=by
 intro pins s σ H x y v u Q I rx ry h;obtain ⟨i,j,rfl,rfl,q⟩:=h;obtain ⟨t,rfl⟩:=rx;obtain ⟨t',rfl⟩:=ry;exact lt_str (az I q rfl)
theorem op_in_str:OpR X (compareOp .In) (fun x y H Q=>∃ i j,x=.str i∧y=.str j∧Q (.bl (!(Builtin.Str.occurrences j i 0 j.length 1).isEmpty)) H):=by
 intro pins s σ H x y v u Q I rx ry h;obtain ⟨i,j,rfl,rfl,q⟩:=h;obtain ⟨t,rfl⟩:=rx;obtain ⟨t',rfl⟩:=ry;exact in_str (az I q rfl)
theorem Be:OpR X (compareOp .Is) (fun x y H Q=>y=.non∧Q (.bl (decide (x=.non))) H):=by
 intro pins s σ H x y v u Q I rx ry h;obtain ⟨rfl,q⟩:=h
 cases ry
 refine is_none_gen (az I q ?_)
 cases x <;> first
  | (cases rx;rfl)
  | (obtain ⟨t,rfl⟩:=rx;rfl)
theorem OpR.or {f:Value→Value→Sem Value} {r r':R2} (h:OpR X f r) (h':OpR X f r'):OpR X f (fun x y H Q=>r x y H Q∨r' x y H Q):=by
 intro pins s σ H x y v u Q I rx ry q;rcases q with q | q
 ·exact h pins s σ H x y v u Q I rx ry q
 ·exact h' pins s σ H x y v u Q I rx ry q
theorem nomark (b:Expr) {op:CmpOp} (h:op≠.In:=by decide) (h2:op≠.NotIn:=by decide):behindInMarks op b=false:=by
 have e1:(op == CmpOp.In)=false:=by cases op <;> first | rfl | exact absurd rfl h
 have e2:(op == CmpOp.NotIn)=false:=by cases op <;> first | rfl | exact absurd rfl h2
 cases b <;> simp [behindInMarks,e1,e2]
theorem pe_cmpR {op:CmpOp} {r:R2} (ho:OpR X (compareOp op) r) (ha:PE X a ta) (hb:PE X b tb) (hm:behindInMarks op b=false):PE X (.Compare a [op] [b] pos) (tOp r ta tb):=by
 intro pins s σ H Q I h;exact wpAny_Compare1 (Bd ha hb I h fun v u s2 x y H2 I2 rx ry q=>ho pins s2 σ H2 x y v u Q I2 rx ry q) hm
inductive IBl (x:V) (H':Hp) (Q:Bool→Hp→Prop):Prop
 | mk (k:Bool):(x=.bl k)→(Q k H')→IBl x H' Q
def ul (t:TE):TT:=fun σ H Q=>t σ H fun x H'=>IBl x H' Q
theorem pt_cmpR {op:CmpOp} {r:R2} (ho:OpR X (compareOp op) r) (ha:PE X a ta) (hb:PE X b tb) (hm:behindInMarks op b=false):PT X (.Compare a [op] [b] pos) (ul (tOp r ta tb)):=by
 intro pins s σ H Q I h;refine wpAny_isTrue_Compare1 (thn (ha pins s σ H _ I h) fun v s1 ⟨x,H1,I1,r1,q1⟩=>thn (hb pins s1 σ H1 _ I1 q1) fun u s2 ⟨y,H2,I2,r2,q2⟩ =>
  thn (ho pins s2 σ H2 x y v u _ I2 r1 r2 q2) fun c s3 ⟨z,H3,I3,r3,k,e,q3⟩=>?_) hm
 subst e
 cases r3
 exact wpAny_truthy_bool ⟨H3,I3,q3⟩
def Bf (r r':R2) (ta tb tc:TE):TE:=fun σ H Q=>ta σ H fun x H1=>tb σ H1 fun y H2=>r x y H2 fun z H3=>∃ k,z=.bl k ∧
 (if k=true then tc σ H3 fun w' H4=>r' y w' H4 Q else Q (.bl false) H3)
theorem nu {op op':CmpOp} {r r':R2} (ho:OpR X (compareOp op) r) (ho':OpR X (compareOp op') r') (ha:PE X a ta) (hb:PE X b tb) (hc:PE X c tc)
  (hm:lastMarks [op,op'] [b,c]=false:=by with_unfolding_all rfl):PE X (.Compare a [op,op'] [b,c] pos) (Bf r r' ta tb tc):=by
 intro pins s σ H Q I h;refine Compare_chain (thn (ha pins s σ H _ I h) fun v s1 ⟨x,H1,I1,r1,q1⟩=>chain_link (thn (hb pins s1 σ H1 _ I1 q1) fun u s2 ⟨y,H2,I2,r2,q2⟩ =>
  thn (ho pins s2 σ H2 x y v u _ I2 r1 r2 q2) fun d s3 ⟨z,H3,I3,r3,k,e,q3⟩=>?_)) hm
 subst e
 cases r3
 refine wpAny_truthy_bool ?_
 cases k with
 | false=>exact ite_ff ⟨.bl false,H3,I3,rfl,q3⟩
 | true=>exact ite_tt (chain_last (thn (hc pins s3 σ H3 _ I3 q3) fun w' s4 ⟨z',H4,I4,r4,q4⟩=>ho' pins s4 σ H4 y z' u w' Q I4 r2 r4 q4))
theorem gZ:(sizeLine:Nat) < 2 ^ 63:=by rw [sizeLine_eq];decide
theorem op_add_str:OpR X (binaryOp .Add) (fun x y H Q=>∃ i j,x=.str i∧y=.str j∧i.length+j.length≤sizeLine∧Q (.str (i++j)) H):=by
 intro pins s σ H x y v u Q I rx ry h;obtain ⟨i,j,rfl,rfl,hz,q⟩:=h;obtain ⟨t,rfl⟩:=rx;obtain ⟨t',rfl⟩:=ry;exact add_str (fun t' tk=>⟨.str (i++j),H,I.tok _,⟨_,rfl⟩,q⟩) hz
theorem cP {x:V} {us:List Value} (r:Vals [x] us):∃ u,us=[u]∧RelV x u:=by
 cases r with
 | cons r1 r2=>cases r2;exact ⟨_,rfl,r1⟩
theorem kW {x y:V} {us:List Value} (r:Vals [x,y] us):∃ u w',us=[u,w']∧RelV x u∧RelV y w':=by
 cases r with
 | cons r1 r2 =>
  cases r2 with
  | cons r3 r4=>cases r4;exact ⟨_,_,rfl,r1,r3⟩
theorem kX (hc:X.calm=true):aO X (.builtin "max") (fun xs H Q=>∃ i j,xs=[.int i,.int j]∧Q (.int (if j > i then j else i)) H):=by
 intro pins s σ H xs us Q I r h;obtain ⟨i,j,rfl,q⟩:=h;obtain ⟨u,w',rfl,⟨t,rfl⟩,⟨t',rfl⟩⟩:=kW r;refine max_two_ints (I.ok.hd hc) fun h' tk k=>⟨_,H,I.kept k,?_,q⟩
 by_cases hj:j > i
 ·rw [if_pos hj,if_pos hj];exact ⟨_,rfl⟩
 ·rw [if_neg hj,if_neg hj];exact ⟨_,rfl⟩
theorem call_min2 (hc:X.calm=true):aO X (.builtin "min") (fun xs H Q=>∃ i j,xs=[.int i,.int j]∧Q (.int (if j < i then j else i)) H):=by
 intro pins s σ H xs us Q I r h;obtain ⟨i,j,rfl,q⟩:=h;obtain ⟨u,w',rfl,⟨t,rfl⟩,⟨t',rfl⟩⟩:=kW r;refine min_two_ints (I.ok.hd hc) fun h' tk k=>⟨_,H,I.kept k,?_,q⟩
 by_cases hj:j < i
 ·rw [if_pos hj,if_pos hj];exact ⟨_,rfl⟩
 ·rw [if_neg hj,if_neg hj];exact ⟨_,rfl⟩
theorem kY:aO X (.type "int") (fun xs H Q=>(∃ i,xs=[.int i]∧Q (.int i) H)∨∃ k,xs=[.bl k]∧Q (.int (if k then 1 else 0)) H):=by
 intro pins s σ H xs us Q I r h;rcases h with ⟨i,rfl,q⟩ | ⟨k,rfl,q⟩
 ·obtain ⟨u,rfl,t,rfl⟩:=cP r;exact call_int_int ⟨.int i,H,I,⟨_,rfl⟩,q⟩
 ·obtain ⟨u,rfl,r1⟩:=cP r
  cases r1
  exact call_int_bool ⟨.int (if k then 1 else 0),H,I.tok _,⟨_,rfl⟩,q⟩
theorem call_str_int:aO X (.type "str") (fun xs H Q=>∃ i,xs=[.int i]∧i.natAbs.log2 < 1920∧Q (.str (toString i)) H):=by
 intro pins s σ H xs us Q I r h;obtain ⟨i,rfl,hz,q⟩:=h;obtain ⟨u,rfl,t,rfl⟩:=cP r;exact PySem.P.str_of_int hz ⟨.str _,H,I.tok _,⟨_,rfl⟩,q⟩
theorem um:aO X (.builtin "ord") (fun xs H Q=>∃ x,xs=[.str x]∧x.length=1∧Q (.int (x.cps.getD 0 0:Nat)) H):=by
 intro pins s σ H xs us Q I r h;obtain ⟨x,rfl,hz,q⟩:=h;obtain ⟨u,rfl,t,rfl⟩:=cP r;exact ord_of_one hz ⟨.int _,H,I.tok _,⟨_,rfl⟩,q⟩
end
structure ObjM (h:Heap) (x dx C:Addr) (mA:Str→Option Value):Prop where
 obj:h.get? x=some (W.instObj C dx)
 ns:h.Ns1 dx mA
 ne:dx≠x
theorem sC {h:Heap} {dx:Addr} {mA:Str→Option Value} (n:h.Ns1 dx mA):∃ od,h.get? dx=some od∧∀ name,W.lookIn name od=some (mA name):=by
 obtain ⟨o,es,ep,ho,hd,hk,_,hm⟩:=n;refine ⟨o,ho,fun name=>?_⟩;have e:=hm name;unfold nsFind findBy at e;rw [← Array.find?_toList] at e;unfold W.lookIn;rw [hd];dsimp only
 split
 ·rename_i y q
  rw [q] at e;exact congrArg some e
 ·rename_i q
  rw [q] at e;have a:es.toList.any (·.refKey)=false:=by
   rw [List.any_eq_false];intro y hy;obtain ⟨z,t,hkey⟩:=hk y (Array.mem_toList_iff.mp hy);simp [DictEntry.refKey,hkey]
  have a':¬ es.toList.any (·.refKey)=true:=by rw [a];exact aAw
  rw [if_neg a'];exact congrArg some e
theorem ObjM.look {h:Heap} {x dx C:Addr} {mA:Str→Option Value} (I:ObjM h x dx C mA):∃ od,W.InstAt h x (W.instObj C dx) C (some od)∧∀ name,W.lookIn name od=some (mA name) :=
 let ⟨od,ho,hl⟩:=sC I.ns
 ⟨od,⟨I.obj,rfl,rfl,ho⟩,hl⟩
section
variable {prog:Program} {w:World} {A:Around} {E:Value→Shared→Prop} {s:Shared} {K:W.Frag} {x dx C f:Addr} {mA:Str→Option Value} {name:Str} {v:Value}
theorem wA {expr:Bool} {Q:Value→Shared→Prop} (X:K.In s.heap) (I:ObjM s.heap x dx C mA) (hg:W.plainGet K C name=true) (hh:W.hasDictIn K C=true)
  (ha:W.findIn K (.ref C) name=some none) (hv:mA name=some v) (hv':W.handedIn v=true) (h:Q v { s with toks:=s.toks+1 }) :
  wpAny (model prog w) A (getAttr (.ref x) name expr) Q E s:=by
 obtain ⟨od,J,hl⟩:=I.look;exact W.get_value X J (W.plainGet_of hg).1 (W.findObj_own hh ha rfl (by rw [hl,hv])) hv' h
theorem uo {pl:Sem Bool} {Q:Value×List Value→Shared→Prop} (X:K.In s.heap) (I:ObjM s.heap x dx C mA) (hg:W.plainGet K C name=true)
  (hf:W.findIn K (.ref C) name=some (some (.ref f))) (ht:W.isFn K (.ref f)=true) (hv:mA name=none) (h:Q (.ref f,[.ref x]) s) :
  wpAny (model prog w) A (getMethod (.ref x) name pl) Q E s:=by
 obtain ⟨od,J,hl⟩:=I.look;exact W.method_fn X J (W.plainGet_of hg).1 (W.plainGet_of hg).2 hf (beq_iff_eq.mp ht) (by show (W.lookIn name od).map (·.isSome)=some false;rw [hl,hv];rfl) h
theorem wB {ns:List Str} {Q:Unit→Shared→Prop} (X:K.In s.heap) (I:ObjM s.heap x dx C mA)
  (hs:W.findIn K (.ref C) "__setattr__" = some (some (.builtin "object.__setattr__"))) (hp:W.plainOver K C=true) (ht:W.takerIn K C name=some none) (hh:W.hasDictIn K C=true)
  (hw:PySem.Within mA ns) (hsz:ns.length≤sizeLine)
  (h:∀ h',ObjM h' x dx C (fun y=>if y=name then some v else mA y)→Heap.SameBut dx s.heap h'→Q () { s with heap:=h',toks:=s.toks+2 }) :
  wpAny (model prog w) A (setAttr (.ref x) name v) Q E s:=by
 obtain ⟨od,J,hl⟩:=I.look;refine W.set_plain X J hs (W.osa_open (s:={ s with toks:=s.toks+1 }) (r:=none) X J hp ht fun b=>?_);obtain ⟨cd,hc,hd'⟩:=W.any_some hh;have hx:s.heap.get? x=some ⟨.ref C,some dx,.plain,#[]⟩:=I.obj;refine wpAny_bind (wpAny_pure (wpAny_bind (wpAny_bind (wpAny_loadPart hx (wpAny_bind (W.Looks.here (s:={ s with toks:=s.toks+1 }) (W.looks_clsIn X hc) ?_))))));rw [hd'];refine wpAny_pure (a:=some dx) (wpAny_bind (wpAny_pure (wpAny_bind ?_)));refine wpAny_nsSet1 (s:={ s with toks:=s.toks+1 }) I.ns fun h' hn2 hs2=>?_;obtain ⟨oD,esD,epD,hoD,hdD,hcD⟩:=hn2.count (PySem.Within.cons name v hw);refine wpAny_bind (wpAny_lookBehind hoD (by rw [hdD];exact pastItsLine_dict (aAA hcD (by rw [aAe];lia))) ?_);exact wpAny_pure (h _ ⟨(hs2.2 _ (Ne.symm I.ne)).trans I.obj,hn2,I.ne⟩ hs2)
theorem uq {R:Result→Shared→Prop} {vs:List Value} {kw:List (Str×Value)} (X:K.In s.heap) (hm:W.makesIn K C=true)
  (hi:W.findIn K (.ref C) "__init__" = some (some (.ref f))) (hf:W.typeIn K (.ref f)=some (.type "function"))
  (h:codeAny (model prog w) (A.under (.builtin "type.__call__" ⟨.ref C :: vs,kw⟩)) (.call (.ref f) ⟨.ref (s.heap.objs.size+1) :: vs,kw⟩) (W.InitBack (s.heap.objs.size+1) R)
   { s with heap:=(s.heap.push W.emptyDict).push (W.instObj C s.heap.objs.size) }) :
  codeAny (model prog w) A (.call (.ref C) ⟨vs,kw⟩) R s:=by
 obtain ⟨hh,g,d,t,os⟩:=s;exact W.make_core (W.makes_of X hm) (W.looks_findIn X hi) (fun self=>W.bind_fn X self hf) (.inl rfl) h
end
def dA (f:Str) (v:V):List (Str×V)→List (Str×V)
 | []=>[(f,v)]
 | (g,x) :: r=>if g=f then (g,v) :: r else (g,x) :: dA f v r
theorem iJ (f g:Str) (v:V):∀ fs:List (Str×V),(dA f v fs).lookup g=if g=f then some v else fs.lookup g
 | []=>by
  show List.lookup g [(f,v)]=_
  by_cases h:g=f
  ·have hb:(g == f)=true:=beq_iff_eq.mpr h;simp only [List.lookup,hb,if_pos h]
  ·have hb:(g == f)=false:=beq_eq_false_iff_ne.mpr h;simp only [List.lookup,hb,if_neg h]
 | (k,x) :: r=>by
  have ih:=iJ f g v r;rw [show dA f v ((k,x) :: r)=(if k=f then (k,v) :: r else (k,x) :: dA f v r) from rfl]
  by_cases hk:k=f
  ·rw [if_pos hk]
   by_cases h:g=k
   ·have hb:(g == k)=true:=beq_iff_eq.mpr h;simp only [List.lookup,hb,if_pos (h.trans hk)]
   ·have hb:(g == k)=false:=beq_eq_false_iff_ne.mpr h;simp only [List.lookup,hb,if_neg (fun e:g=f=>h (e.trans hk.symm))]
  ·rw [if_neg hk]
   by_cases h:g=k
   ·have hb:(g == k)=true:=beq_iff_eq.mpr h;simp only [List.lookup,hb,if_neg (fun e:g=f=>hk (h.symm.trans e))]
   ·have hb:(g == k)=false:=beq_eq_false_iff_ne.mpr h;simp only [List.lookup,hb];exact ih
theorem hG (f:Str) (v:V):∀ fs:List (Str×V),f∈(dA f v fs).map (·.1)∧∀ g,g∈fs.map (·.1)→g∈(dA f v fs).map (·.1)
 | []=>⟨by simp [dA],fun g h=>by simp at h⟩
 | (k,x) :: r=>by
  obtain ⟨i1,i2⟩:=hG f v r;rw [show dA f v ((k,x) :: r)=(if k=f then (k,v) :: r else (k,x) :: dA f v r) from rfl]
  by_cases hk:k=f
  ·rw [if_pos hk];subst hk;exact ⟨by simp,fun g h=>by simpa using h⟩
  ·rw [if_neg hk];refine ⟨?_,fun g h=>?_⟩
   ·rw [aAt];exact aAi _ i1
   ·rw [aAt] at h ⊢;rcases aAp.mp h with e | e
    ·exact aAp.mpr (.inl e)
    ·exact aAi _ (i2 g e)
theorem iK (f:Str) (v:V):∀ fs:List (Str×V),(dA f v fs).length≤fs.length+1
 | []=>by simp [dA]
 | (k,x) :: r=>by
  have ih:=iK f v r;rw [show dA f v ((k,x) :: r)=(if k=f then (k,v) :: r else (k,x) :: dA f v r) from rfl]
  by_cases hk:k=f
  ·rw [if_pos hk,aAe,aAe];lia
  ·rw [if_neg hk,aAe,aAe];lia
theorem RelO.some_of {v:V} {o:Option Value} (r:RelO (some v) o):∃ u,o=some u∧RelV v u:=by
 cases o with
 | none=>exact (show False from r).elim
 | some u=>exact ⟨u,rfl,r⟩
theorem RelO.none_of {o:Option Value} (r:RelO none o):o=none:=by
 cases o with
 | none=>rfl
 | some u=>exact (show False from r).elim
theorem sD {v:V} {u:Value} (r:RelV v u):W.handedIn u=true:=by
 cases v with
 | non=>cases (show u=Value.none from r);rfl
 | bl b=>cases (show u=Value.bool b from r);rfl
 | int i=>obtain ⟨t,e⟩:=(show ∃ t,u=Value.int i t from r);cases e;rfl
 | str x=>obtain ⟨t,e⟩:=(show ∃ t,u=Value.str x t from r);cases e;rfl
 | byt b=>obtain ⟨t,e⟩:=(show ∃ t,u=Value.bytes b t from r);cases e;rfl
 | flt b=>obtain ⟨t,e⟩:=(show ∃ t,u=Value.float b t from r);cases e;rfl
 | ref a=>cases (show u=Value.ref a from r);rfl
 | ty n=>cases (show u=Value.type n from r);rfl
section
variable {P:Program} {w:World} {H H':Hp} {h h':Heap} {a C dx:Addr} {fs fs':List (Str×V)}
theorem lZ (hok:HOk P w H h) (e:H a=some (.ins C dx fs)):∃ mA,ObjM h a dx C mA∧(∀ f,RelO (fs.lookup f) (mA f))∧PySem.Within mA (fs.map (·.1))∧fs.length≤1000∧H dx=some (.own a):=by
 obtain ⟨d,z,ne,ob,mA,n,r,q⟩:=(show ObjOk P w H h a (.ins C dx fs) from hok a _ e);exact ⟨mA,⟨ob,n,ne⟩,r,q,z,d⟩
end
structure Cls (K:W.Frag) (C:Addr):Prop where
 pg:W.plainGet K C Str.empty=true
 hd:W.hasDictIn K C=true
 po:W.plainOver K C=true
 sa:W.findIn K (.ref C) "__setattr__" = some (some (.builtin "object.__setattr__"))
theorem Cls.get {K:W.Frag} {C:Addr} (c:Cls K C) (f:Str):W.plainGet K C f=true:=c.pg
def NoAttr (K:W.Frag) (C:Addr) (f:Str):Prop:=W.findIn K (.ref C) f=some none
theorem NoAttr.taker {K:W.Frag} {C:Addr} {f:Str} (n:NoAttr K C f):W.takerIn K C f=some none:=by
 unfold W.takerIn;rw [show W.findIn K (.ref C) f=some none from n]
 rfl
structure Meth (K:W.Frag) (C:Addr) (m:Str) (f:Addr):Prop where
 at_:W.findIn K (.ref C) m=some (some (.ref f))
 fn:W.isFn K (.ref f)=true
 kp:W.keepIn K (.ref f)=true
section
variable {X:Cx} {pins:List (Addr×Obj)} {σ:St} {H:Hp} {s:Shared} {a C dx:Addr} {fs:List (Str×V)} {f:Str} {v:V} {A:Around} {E:Value→Shared→Prop}
theorem jo {b:Bool} {Q:Value→Shared→Prop} (I:Inv X pins σ H s) (e:H a=some (.ins C dx fs)) (c:Cls X.K C) (n:NoAttr X.K C f) (l:fs.lookup f=some v)
  (h:∀ u s',Inv X pins σ H s'→RelV v u→Q u s'):wpAny (model X.prog X.w) A (getAttr (.ref a) f b) Q E s:=by
 obtain ⟨mA,O,r,_,_,_⟩:=lZ I.hok e;obtain ⟨u,hu,ru⟩:=RelO.some_of (v:=v) (o:=mA f) (by rw [← l];exact r f);exact wA I.kIn O (c.get f) c.hd n hu (sD ru) (h u _ (I.tok _) ru)
theorem pX {m:Str} {g:Addr} {pl:Sem Bool} {Q:Value×List Value→Shared→Prop} (I:Inv X pins σ H s) (e:H a=some (.ins C dx fs)) (c:Cls X.K C) (k:Meth X.K C m g) (l:fs.lookup m=none)
  (h:Q (.ref g,[.ref a]) s):wpAny (model X.prog X.w) A (getMethod (.ref a) m pl) Q E s:=by
 obtain ⟨mA,O,r,_,_,_⟩:=lZ I.hok e;have hn:mA m=none:=RelO.none_of (by rw [← l];exact r m);exact uo I.kIn O (c.get m) k.at_ k.fn hn h
theorem jp {y:V} {u:Value} {Q:Unit→Shared→Prop} (I:Inv X pins σ H s) (e:H a=some (.ins C dx fs)) (c:Cls X.K C) (n:NoAttr X.K C f) (hl:fs.length < 1000) (ry:RelV y u)
  (h:∀ s',Inv X pins σ (upd H a (.ins C dx (dA f y fs))) s'→Q () s'):wpAny (model X.prog X.w) A (setAttr (.ref a) f u) Q E s:=by
 obtain ⟨mA,O,r,wi,_,ho⟩:=lZ I.hok e;have hz:(fs.map (·.1)).length≤sizeLine:=by rw [aAa,sizeLine_eq];lia
 refine wB I.kIn O c.sa c.po n.taker c.hd wi hz fun h' O' sb=>h _ ?_;have hd:∃ o,h'.get? dx=some o:=let ⟨o,_,_,e',_⟩:=O'.ns;⟨o,e'⟩;refine I.write (x:=a) (e:=dx) (by rw [e];exact True.intro) (.inr ho) (fun b q hb z=>(sb.2 b hb).trans z) hd ?_;refine ⟨by rw [ag O.ne];exact ho,?_,O.ne,O'.obj,_,O'.ns,fun g=>?_,fun g hg=>?_⟩
 ·have:=iK f y fs;lia
 ·show RelO ((dA f y fs).lookup g) (if g=f then some u else mA g);rw [iJ]
  by_cases q:g=f
  ·rw [if_pos q,if_pos q];exact ry
  ·rw [if_neg q,if_neg q];exact r g
 ·by_cases q:g=f
  ·rw [q];exact (hG f y fs).1
  ·refine (hG f y fs).2 g (wi g fun z=>hg ?_);show (if g=f then some u else mA g)=none;rw [if_neg q];exact z
theorem Inv.made (I:Inv X pins σ H s):Inv X pins σ (upd (upd H s.heap.objs.size (.own (s.heap.objs.size+1))) (s.heap.objs.size+1) (.ins C s.heap.objs.size []))
  { s with heap:=(s.heap.push W.emptyDict).push (W.instObj C s.heap.objs.size) }:=by
 have e1:(s.heap.push W.emptyDict).get? s.heap.objs.size=some W.emptyDict:=aAq s.heap rfl;have e2:((s.heap.push W.emptyDict).push (W.instObj C s.heap.objs.size)).get? (s.heap.objs.size+1)=some (W.instObj C s.heap.objs.size):=by
  have:=aAq (s.heap.push W.emptyDict) (o:=W.instObj C s.heap.objs.size) rfl
  rwa [aAT] at this
 have e3:(s.heap.push W.emptyDict).Ns s.heap.objs.size (fun _=>none):=⟨W.emptyDict,#[],_,e1,rfl,(fun e he=>absurd he (by simp)),fun _=>rfl⟩;have I1:=I.laid (a:=s.heap.objs.size) (o:=.own (s.heap.objs.size+1)) (h':=s.heap.push W.emptyDict) (t':=s.toks) (fun b u q=>aAb _ q) (aAl _) ⟨_,e1⟩;refine I1.laid (a:=s.heap.objs.size+1) (o:=.ins C s.heap.objs.size []) (t':=s.toks) (fun b u q=>aAb _ q) (aB3 (aAT _ _)) ?_;have ne:s.heap.objs.size≠s.heap.objs.size+1:=aAy (aA5 _);refine ⟨by rw [ag ne,ac],aAx _,ne,e2,fun _=>none,(Heap.Ns1.of_empty e3).at fun o q=>aAb _ q,fun _=>True.intro,fun y hy=>absurd rfl hy⟩
theorem wC {prog:Program} {w:World} {env:Env} {e:Expr} {f:Str} {pos:Pos} {s:Shared} {Q:Value→Shared→Prop} (hb:attributeBase e f env (eval e env)=eval e env)
  (h:wpAny (model prog w) A (eval e env) (fun o s₁=>wpAny (model prog w) A (getAttr o f true) Q E s₁) E s):wpAny (model prog w) A (eval (.Attribute e f pos) env) Q E s :=
 Attribute_any_ h (by rw [arm_eval_Attribute,hb])
end
def Iw (K:W.Frag) (ta:TE) (f:Str):TE:=fun σ H Q=>ta σ H fun x H1=>∃ a C dx fs v,x=.ref a∧H1 a=some (.ins C dx fs)∧Cls K C∧NoAttr K C f∧fs.lookup f=some v∧Q v H1
def Ix (K:W.Frag) (ta tv:TE) (f:Str):TS:=fun D σ H=>tv σ H fun y H1=>ta σ H1 fun x H2=>∃ a C dx fs,x=.ref a∧H2 a=some (.ins C dx fs)∧Cls K C∧NoAttr K C f∧fs.length < 1000 ∧
 D.nx σ (upd H2 a (.ins C dx (dA f y fs)))
def Iy (X:Cx) (op:Operator) (rd:V→V→Hp→VK→Prop):Prop :=
 ∀ (pins:List (Addr×Obj)) (s:Shared) (σ:St) (H:Hp) (x y:V) (u v:Value) (Q:VK),Inv X pins σ H s→RelV x u→RelV y v→rd x y H Q→wpAny (model X.prog X.w) X.A (inplaceOp op u v) (EP X pins σ Q) X.xe s
def wD (K:W.Frag) (ta tv:TE) (rd:V→V→Hp→VK→Prop) (f:Str):TS:=fun D σ H=>ta σ H fun x H1=>∃ a C dx fs v,x=.ref a∧H1 a=some (.ins C dx fs)∧Cls K C∧NoAttr K C f∧fs.lookup f=some v ∧
 tv σ H1 fun y H2=>rd v y H2 fun z H3=>∃ dx' fs',H3 a=some (.ins C dx' fs')∧fs'.length < 1000∧D.nx σ (upd H3 a (.ins C dx' (dA f z fs')))
section
variable {X:Cx} {o e value:Expr} {f:Str} {pos pos' tpos:Pos} {ta tv:TE}
theorem pY (he:PE X e ta) (hb:attributeBase e f X.env (eval e X.env)=eval e X.env):PE X (.Attribute e f pos) (Iw X.K ta f):=by
 intro pins s σ H Q I h;refine wC hb (thn (he pins s σ H _ I h) fun u s1 ⟨x,H1,I1,rx,a,C,dx,fs,v,ex,ea,c,n,l,q⟩=>?_);subst ex;obtain rfl:u=Value.ref a:=rx;exact jo I1 ea c n l fun u' s2 I2 ru=>⟨v,H1,I2,ru,q⟩
theorem ur (ha:PE X o ta) (hv:PE X value tv) (hs:swapsWith value (some (.Attribute o f pos')) pos.line X.env=pure false):PS X (.Assign [.Attribute o f pos'] value pos) (Ix X.K ta tv f):=by
 intro pins s σ H D I h;refine plainObj_wpAny_Assign_Attribute (thn (hv pins s σ H _ I h) fun u s1 ⟨y,H1,I1,ry,q⟩=>thn (ha pins s1 σ H1 _ I1 q) fun ov s2 ⟨x,H2,I2,rx,a,C,dx,fs,ex,ea,c,n,l,q2⟩=>?_) hs;subst ex;obtain rfl:ov=Value.ref a:=rx;exact jp I2 ea c n l ry fun s3 I3=>⟨σ,_,I3,q2⟩
theorem ps_fldaug {op:Operator} {rd:V→V→Hp→VK→Prop} (ha:PE X o ta) (hv:PE X value tv) (hop:Iy X op rd):PS X (.AugAssign (.Attribute o f tpos) op value pos) (wD X.K ta tv rd f):=by
 intro pins s σ H D I h;refine wpAny_AugAssign_AttributeAny (thn (ha pins s σ H _ I h) fun ov s1 ⟨x,H1,I1,rx,a,C,dx,fs,v,ex,ea,c,n,l,q⟩=>?_);subst ex;obtain rfl:ov=Value.ref a:=rx;refine jo I1 ea c n l fun u s2 I2 ru=>thn (hv pins s2 σ H1 _ I2 q) fun w3 s3 ⟨y,H2,I3,ry,q3⟩=>thn (hop pins s3 σ H2 v y u w3 _ I3 ru ry q3) fun w4 s4 ⟨z,H3,I4,rz,dx',fs',ea',l',q4⟩=>?_;exact jp I4 ea' c n l' rz fun s5 I5=>⟨σ,_,I5,q4⟩
end
section
variable {X:Cx} {pins:List (Addr×Obj)} {σ:St} {H:Hp} {s:Shared} {A:Around} {E:Value→Shared→Prop} {Q:Value→Shared→Prop} {c:Value} {b:Bool}
end
structure Room (k:Nat) (A:Around):Prop where
 hd:A.handled=none
 dp:A.depth+3*k+5 < recursionLimit
 un:A.units+16*k+200 < cLine
theorem Room.mono {j k:Nat} {A:Around} (r:Room k A) (h:j≤k):Room j A:=⟨r.hd,by have:=r.dp;lia,by have:=r.un;lia⟩
theorem Room.deeper {k:Nat} {A:Around} (r:Room (k+1) A) (env:Env):Room k (A.deeper env) :=
 ⟨r.hd,by have:=r.dp;show A.depth+1+3*k+5 < _;lia,by have:=r.un;show A.units+3+16*k+200 < _;lia⟩
theorem pZ {A:Around} {C:Addr} {us:List Value} {kw:List (Str×Value)}:(A.under (.builtin "type.__call__" ⟨.ref C :: us,kw⟩)).depth=A.depth+1:=by
 first | rfl | simp [Around.under,Code.weight,Code.isCreation,Code.isGuard,Code.isCaller,Code.frames,Code.isFrame,guardIds]
theorem qa {A:Around} {C:Addr} {us:List Value} {kw:List (Str×Value)}:(A.under (.builtin "type.__call__" ⟨.ref C :: us,kw⟩)).units=A.units+1:=by
 first | rfl | simp [Around.under,Code.cUnits,Code.frames,Code.isFrame]
theorem Room.make {k:Nat} {A:Around} (r:Room (k+1) A) (C:Addr) (us:List Value) (kw:List (Str×Value)):Room k (A.under (.builtin "type.__call__" ⟨.ref C :: us,kw⟩)) :=
 ⟨r.hd,by have:=r.dp;rw [pZ];lia,by have:=r.un;rw [qa];lia⟩
theorem Room.depth {k:Nat} {A:Around} (r:Room k A):A.depth < recursionLimit:=by have:=r.dp;lia
theorem Room.units {k:Nat} {A:Around} (r:Room k A):A.units+64 < cLine:=by have:=r.un;lia
def wE:TA:=fun _ H Q=>Q [] H
def jq (ta:TE) (tr:TA):TA:=fun σ H Q=>ta σ H fun x H1=>tr σ H1 fun xs H2=>Q (x :: xs) H2
section
variable {X:Cx} {e:Expr} {es:List Expr} {te:TE} {t:TA} {pos:Pos}
theorem pa_nil:PA X [] wE:=fun _ _ _ _ H Q I h=>Calls.spliced_nil ⟨[],H,I,.nil,h⟩
theorem aI (ha:PE X e te) (hr:PA X es t) (hs:starEach (e :: es) X.env=(false,eval e X.env) :: starEach es X.env:=by rfl):PA X (e :: es) (jq te t):=by
 intro pos pins s σ H Q I h;rw [hs];show wpAny _ _ (spliced ((false,eval e X.env) :: backTo pos (starEach es X.env))) _ _ s;refine Calls.spliced_cons (thn (ha pins s σ H _ I h) fun u s1 ⟨x,H1,I1,r1,q1⟩=>?_);exact thn (hr pos pins s1 σ H1 _ I1 q1) fun us s2 ⟨xs,H2,I2,r2,q2⟩=>⟨x :: xs,H2,I2,.cons r1 r2,q2⟩
def Iz (t:TA):TE:=fun σ H Q=>t σ H fun xs H1=>xs.length≤sizeLine∧∀ p,H1 p=none→Q (.ref p) (upd H1 p (.lst xs))
theorem pe_lst (h:PA X es t):PE X (.List es pos) (Iz t):=by
 intro pins s σ H Q I hq;refine wpAny_List_spliced (thn (h pos pins s σ H _ I hq) fun us s1 ⟨xs,H1,I1,r,z,q⟩=>⟨by rw [← r.length];exact z,?_⟩);have hf:H1 s1.heap.objs.size=none:=I1.hok.fresh (aAl _);refine ⟨.ref s1.heap.objs.size,upd H1 s1.heap.objs.size (.lst xs),I1.laid (t':=s1.toks) (fun b u e=>aAb _ e) (aAl _) ?_,rfl,q _ hf⟩;exact ⟨z,us,0,r,aAq _ rfl⟩
end
abbrev Sp:=List V→Hp→VK→XK→Prop
abbrev CXT:=List Env→Hp→Shared→XK→Value→Shared→Prop
structure Env0 (P:Program) (w:World) (K:W.Frag) (mg:Str→Option Value) (base:Heap) (A:Around) (outer:List Env) (s:Shared) (H:Hp):Prop where
 frames:A.frames=some outer
 mod:Mod K mg base
 bs:∀ b o,base.get? b=some o→s.heap.get? b=some o∧H b=none
 bsz:base.objs.size≤s.heap.objs.size
 funs:s.heap.FunFrames base outer
 frf:∀ b∈frs outer,H b=none
 hok:HOk P w H s.heap
 bare:AllBare s.gens
def CE (outer:List Env) (P:Program) (w:World) (H:Hp) (s:Shared) (Q:VK) (u:Value) (s':Shared):Prop :=
 ∃ v H',s'.os=s.os∧AllBare s'.gens∧Un (frs outer) [] H H' s.heap s'.heap∧HOk P w H' s'.heap∧RelV v u∧Q v H'
def CR (CX:CXT) (outer:List Env) (P:Program) (w:World) (H:Hp) (s:Shared) (Q:VK) (E:XK) (r:Result) (s':Shared):Prop :=
 match r with
 | .ok (.ret u)=>CE outer P w H s Q u s'
 | .ok _=>False
 | .error e=>CX outer H s E e s'
structure FnOk (P:Program) (w:World) (K:W.Frag) (mg:Str→Option Value) (base:Heap) (CX:CXT) (k:Nat) (f:Addr) (fd:FuncData) (ps:List Str) (sp:Sp):Prop where
 len:∀ vs H Q E,sp vs H Q E→vs.length=ps.length
 run:∀ (A:Around) (outer:List Env) (s:Shared) (H:Hp) (args:Args) (us:List Value) (vs:List V) (Q:VK) (E:XK),Room k A→Env0 P w K mg base A outer s H→BindsTo s fd args (ps.zip us)→Vals vs us→sp vs H Q E →
  codeAny (model P w) A (.call (.ref f) args) (CR CX outer P w H s Q E) s
theorem FnOk.mono {P:Program} {w:World} {K:W.Frag} {mg:Str→Option Value} {base:Heap} {CX:CXT} {j k:Nat} {f:Addr} {fd:FuncData} {ps:List Str} {sp:Sp} (F:FnOk P w K mg base CX j f fd ps sp) (h:j≤k) :
  FnOk P w K mg base CX k f fd ps sp:=⟨F.len,fun A outer s H args us vs Q E hr=>F.run A outer s H args us vs Q E (hr.mono h)⟩
theorem FnOk.imp {P:Program} {w:World} {K:W.Frag} {mg:Str→Option Value} {base:Heap} {CX:CXT} {k:Nat} {f:Addr} {fd:FuncData} {ps:List Str} {sp sp':Sp} (F:FnOk P w K mg base CX k f fd ps sp)
  (h:∀ vs H Q E,sp' vs H Q E→sp vs H Q E):FnOk P w K mg base CX k f fd ps sp' :=
 ⟨fun vs H Q E q=>F.len vs H Q E (h _ _ _ _ q),fun A outer s H args us vs Q E hr he hb hv hs=>F.run A outer s H args us vs Q E hr he hb hv (h _ _ _ _ hs)⟩
theorem Env0.make {P:Program} {w:World} {K:W.Frag} {mg:Str→Option Value} {base:Heap} {A:Around} {outer:List Env} {s:Shared} {H:Hp} (e:Env0 P w K mg base A outer s H) (C:Addr) (us:List Value) (kw:List (Str×Value)) :
  Env0 P w K mg base (A.under (.builtin "type.__call__" ⟨.ref C :: us,kw⟩)) outer s H:=⟨by first | exact e.frames | (simpa [Around.under,Code.envs,Code.isFrame,pushEnvs] using e.frames),e.mod,e.bs,e.bsz,e.funs,e.frf,e.hok,e.bare⟩
section
variable {X:Cx} {pins:List (Addr×Obj)} {σ:St} {H:Hp} {s s':Shared}
theorem Inv.env0 (I:Inv X pins σ H s):Env0 X.prog X.w X.K X.mg X.base X.A X.stack s H :=
 ⟨I.ok.frames,I.ok.mod,I.bs,aAA I.ok.bsz I.sz,I.stack,I.stkFree,I.hok,I.bare⟩
theorem Inv.after {Q:VK} {u:Value} (I:Inv X pins σ H s) (h:CE X.stack X.prog X.w H s Q u s'):EP X pins σ Q u s':=by
 obtain ⟨v,H',os,bare,un,hok,r,q⟩:=h;obtain ⟨hh,g,d,t,os'⟩:=s';obtain rfl:os'=s.os:=os;exact ⟨v,H',I.call (h':=hh) (g':=g) (d':=d) (t':=t) (ch:=[]) un hok bare (fun b z=>absurd z (by simp)),r,q⟩
end
def xY (sp:Sp) (dvs:List V) (E:XK) (t:TA):TE:=fun σ H Q=>t σ H fun vs H1=>sp (vs++dvs) H1 Q E
def GY (C:Addr) (m:Str) (sp:Sp) (dvs:List V) (E:XK) (ta:TE) (t:TA):TE:=fun σ H Q=>ta σ H fun x H1=>∃ a dx fs,x=.ref a∧H1 a=some (.ins C dx fs)∧fs.lookup m=none ∧
 t σ H1 fun vs H2=>sp (x :: (vs++dvs)) H2 Q E
def GZ (C:Addr) (sp:Sp) (dvs:List V) (E:XK) (t:TA):TE:=fun σ H Q=>t σ H fun vs H1=>∀ x dx,H1 x=none→H1 dx=none→dx≠x →
 sp (.ref x :: (vs++dvs)) (upd (upd H1 dx (.own x)) x (.ins C dx [])) (fun v H2=>v=.non∧Q (.ref x) H2) E
def Binds (K:W.Frag) (fd:FuncData) (ps:List Str) (ds:List Value):Prop :=
 ∀ (s:Shared) (us:List Value),K.In s.heap→(us++ds).length=ps.length→BindsTo s fd ⟨us,[]⟩ (ps.zip (us++ds))
theorem Binds.all {K:W.Frag} {fd:FuncData} {ps:List Str} (h:∀ us:List Value,us.length=ps.length→bindArgs fd ⟨us,[]⟩=pure (ps.zip us)):Binds K fd ps []:=fun s us _ hl=>by
 rw [aA2] at hl ⊢;exact .of_eq (h us hl)
def et (CX:CXT) (X:Cx) (E:XK):Prop:=∀ (pins:List (Addr×Obj)) (σ:St) (H:Hp) (s:Shared) (e:Value) (s':Shared),Inv X pins σ H s→CX X.stack H s E e s'→X.xe e s'
section
variable {X:Cx} {CX:CXT} {k:Nat} {f C:Addr} {fd:FuncData} {ps:List Str} {sp:Sp} {dvs:List V} {ds:List Value} {E:XK} {x m:Str} {p pos apos:Pos} {e o:Expr} {es:List Expr} {ta:TE} {t:TA}
theorem ut {pins:List (Addr×Obj)} {σ:St} {H:Hp} {s:Shared} {Q:VK} {us:List Value} {vs:List V} (F:FnOk X.prog X.w X.K X.mg X.base CX k f fd ps sp) (hr:Room k X.A) (hb:Binds X.K fd ps ds) (hd:Vals dvs ds) (hx:et CX X E)
  (I:Inv X pins σ H s) (r:Vals vs us) (h:sp (vs++dvs) H Q E):wpAny (model X.prog X.w) X.A (call (.ref f) us) (EP X pins σ Q) X.xe s:=by
 have r2:Vals (vs++dvs) (us++ds):=r.append hd;have hl:(us++ds).length=ps.length:=by rw [← r2.length];exact F.len _ _ _ _ h
 refine wpAny_call (codeAny_mono (F.run X.A X.stack s H ⟨us,[]⟩ (us++ds) (vs++dvs) Q E hr I.env0 (hb s us I.kIn hl) r2 h) fun r s' hq=>?_)
 cases r with
 | error e=>exact hx pins σ H s e s' I hq
 | ok fl =>
  cases fl with
  | ret u=>exact I.after hq
  | next=>exact False.elim hq
  | brk=>exact False.elim hq
  | cont=>exact False.elim hq
theorem pe_call (F:FnOk X.prog X.w X.K X.mg X.base CX k f fd ps sp) (hr:Room k X.A) (hg:Gl X x) (hm:X.mg x=some (.ref f)) (hk:W.keepIn X.K (.ref f)=true) (hb:Binds X.K fd ps ds) (hd:Vals dvs ds) (hx:et CX X E)
  (ha:PA X (e :: es) t) (hdb:(x == ("__debug__" : Str))=false:=by decide) (he:starEach (e :: es) X.env=(false,eval e X.env) :: starEach es X.env:=by rfl) (hpl:(backTo pos (starEach es X.env)).any (·.1)=false:=by rfl) :
  PE X (.Call (.Name x p) (e :: es) [] pos) (xY sp dvs E t):=by
 intro pins s σ H Q I h;refine wpAny_Call_Name_kw (fo I hg hm ?_ hdb);refine W.callWith_K (h₀:=X.base) I.ok.mod.kin hk (thn (ha pos pins s σ H _ I h) fun us s1 ⟨vs,H1,I1,r,q⟩=>⟨I1.kIn,?_⟩) he hpl;exact ut F hr hb hd hx I1 r q
theorem pe_meth {pl:Sem Bool} (he:PE X o ta) (c:Cls X.K C) (hm:Meth X.K C m f) (F:FnOk X.prog X.w X.K X.mg X.base CX k f fd ps sp) (hr:Room k X.A) (hb:Binds X.K fd ps ds) (hd:Vals dvs ds) (hx:et CX X E) (ha:PA X (e :: es) t)
  (hst:starEach (e :: es) X.env=(false,eval e X.env) :: starEach es X.env:=by rfl) (hpl:(backTo pos (starEach es X.env)).any (·.1)=false:=by rfl)
  (ht:eval (.Call (.Attribute o m apos) (e :: es) [] pos) X.env=(do
   let ov ← eval o X.env
   standAt apos.atName
   let (f,first) ← holding [ov] (getMethod ov m pl)
   callWith pos f first (backTo pos (starEach (e :: es) X.env)) (backToKw pos (keywordEach [] X.env))):=by rfl) :
  PE X (.Call (.Attribute o m apos) (e :: es) [] pos) (GY C m sp dvs E ta t):=by
 intro pins s σ H Q I h;refine W.methodCall_KW (pl:=pl) (thn (he pins s σ H _ I h) fun u s1 ⟨x,H1,I1,rx,a,dx,fs,ex,ea,l,q⟩=>?_) ht;subst ex;obtain rfl:u=Value.ref a:=rx;refine pX I1 ea c hm l ?_;refine W.callWith_K (first:=[.ref a]) (h₀:=X.base) I.ok.mod.kin hm.kp (thn (ha pos pins s1 σ H1 _ I1 q) fun us s2 ⟨vs,H2,I2,r,q2⟩=>⟨I2.kIn,?_⟩) hst hpl;exact ut (us:=.ref a :: us) (vs:=.ref a :: vs) F hr hb hd hx I2 (.cons rfl r) q2
structure Mk (K:W.Frag) (C f:Addr):Prop where
 makes:W.makesIn K C=true
 init:W.findIn K (.ref C) "__init__" = some (some (.ref f))
 fn:W.isFn K (.ref f)=true
 kp:W.keepIn K (.ref C)=true
theorem uu {pins:List (Addr×Obj)} {σ:St} {H:Hp} {s:Shared} {Q:VK} {us:List Value} {vs:List V} (M:Mk X.K C f) (F:FnOk X.prog X.w X.K X.mg X.base CX k f fd ps sp) (hr:Room (k+1) X.A) (hb:Binds X.K fd ps ds) (hd:Vals dvs ds)
  (hx:et CX X E) (I:Inv X pins σ H s) (r:Vals vs us)
  (h:∀ x dx,H x=none→H dx=none→dx≠x→sp (.ref x :: (vs++dvs)) (upd (upd H dx (.own x)) x (.ins C dx [])) (fun v H2=>v=.non∧Q (.ref x) H2) E) :
  wpAny (model X.prog X.w) X.A (call (.ref C) us) (EP X pins σ Q) X.xe s:=by
 have hq:=h (s.heap.objs.size+1) s.heap.objs.size (I.hok.fresh (aBC _)) (I.hok.fresh (aAl _)) (aAy (aA5 _));have I2:=Inv.made (C:=C) I;have r2:Vals (V.ref (s.heap.objs.size+1) :: (vs++dvs)) (Value.ref (s.heap.objs.size+1) :: (us++ds)):=.cons rfl (r.append hd);have hl:(Value.ref (s.heap.objs.size+1) :: us++ds).length=ps.length:=by
  have e:=r2.length;rw [F.len _ _ _ _ hq] at e;exact e.symm
 refine wpAny_call (uq (f:=f) I.kIn M.makes M.init (beq_iff_eq.mp M.fn) (codeAny_mono (F.run _ X.stack _ _ ⟨Value.ref (s.heap.objs.size+1) :: us,[]⟩ (Value.ref (s.heap.objs.size+1) :: (us++ds)) _ _ E (hr.make C us [])
  (I2.env0.make C us []) (hb _ (Value.ref (s.heap.objs.size+1) :: us) I2.kIn hl) r2 hq) fun r s' hq'=>?_))
 cases r with
 | error e=>exact hx pins σ _ _ e s' I2 hq'
 | ok fl =>
  cases fl with
  | ret u =>
   obtain ⟨v,H',I3,rv,ev,q3⟩:=I2.after hq';subst ev;exact ⟨rv,⟨V.ref (s.heap.objs.size+1),H',I3,rfl,q3⟩⟩
  | next=>exact False.elim hq'
  | brk=>exact False.elim hq'
  | cont=>exact False.elim hq'
theorem wF (M:Mk X.K C f) (F:FnOk X.prog X.w X.K X.mg X.base CX k f fd ps sp) (hr:Room (k+1) X.A) (hg:Gl X x) (hm:X.mg x=some (.ref C)) (hb:Binds X.K fd ps ds) (hd:Vals dvs ds) (hx:et CX X E)
  (ha:PA X (e :: es) t) (hdb:(x == ("__debug__" : Str))=false:=by decide) (he:starEach (e :: es) X.env=(false,eval e X.env) :: starEach es X.env:=by rfl) (hpl:(backTo pos (starEach es X.env)).any (·.1)=false:=by rfl) :
  PE X (.Call (.Name x p) (e :: es) [] pos) (GZ C sp dvs E t):=by
 intro pins s σ H Q I h;refine wpAny_Call_Name_kw (fo I hg hm ?_ hdb);refine W.callWith_K (h₀:=X.base) I.ok.mod.kin M.kp (thn (ha pos pins s σ H _ I h) fun us s1 ⟨vs,H1,I1,r,q⟩=>⟨I1.kIn,?_⟩) he hpl;exact uu M F hr hb hd hx I1 r q
end
section
variable {X:Cx} {CX:CXT} {k:Nat} {f C:Addr} {fd:FuncData} {ps ks:List Str} {sp:Sp} {E:XK} {x m:Str} {p pos apos kpos:Pos} {e o:Expr} {es:List Expr} {kws:List Keyword} {te ta:TE} {t tk:TA} {nm:Option Str}
variable {g:List Value→List Value→List Value} {gV:List V→List V→List V}
end
structure FnScope (N P:List Str) (sc:Scope):Prop where
 kind:sc.kind=.function
 co:sc.isCoroutine=false
 gen:sc.isGenerator=false
 nd:N.Nodup
 pre:N.take P.length=P
 par:∀ x∈P,sc.names.lookup x=some .local∨sc.names.lookup x=some .cell
 nofree:∀ y∈sc.names,y.2≠.free
theorem kZ {kindOf:Str→Option NameKind} {x:Str}:∀ {binds:List (Str×Value)} {m:Str→Option Value},(∀ v,(x,v)∉binds)→bindL kindOf binds m x=m x
 | [],_,_=>rfl
 | (n,v) :: r,m,h=>by
  unfold bindL;rw [kZ fun w hw=>h w (aAi _ hw)]
  split
  ·have:x≠n:=by rintro rfl;exact h v aAd
   simp [this]
  ·rfl
theorem k7 {kindOf:Str→Option NameKind} {x:Str}:∀ {binds:List (Str×Value)} {m:Str→Option Value},(∀ v,(x,v)∉binds)→bindC kindOf binds m x=m x
 | [],_,_=>rfl
 | (n,v) :: r,m,h=>by
  unfold bindC;rw [k7 fun w hw=>h w (aAi _ hw)]
  split
  ·rfl
  ·have:x≠n:=by rintro rfl;exact h v aAd
   simp [this]
theorem k8 {kindOf:Str→Option NameKind} {x:Str} {v:Value}:∀ {P:List Str} {vs:List Value} {i:Nat} {m:Str→Option Value},P.Nodup→P[i]?=some x→vs[i]?=some v→kindOf x=some .local →
  bindL kindOf (P.zip vs) m x=some v
 | [],_,_,_,_,h,_,_=>by simp at h
 | _ :: _,[],_,_,_,_,h,_=>by simp at h
 | p :: P,w :: vs,0,m,nd,h1,h2,hk=>by
  simp at h1 h2;subst h1;subst h2;show bindL kindOf ((p,w) :: P.zip vs) m p=_;unfold bindL;rw [kZ fun v hv=>(aBo.mp nd).1 (aCc hv).1,if_pos hk];simp
 | p :: P,w :: vs,i+1,m,nd,h1,h2,hk=>by
  show bindL kindOf ((p,w) :: P.zip vs) m x=_;unfold bindL;exact k8 (i:=i) (aBo.mp nd).2 (by simpa using h1) (by simpa using h2) hk
theorem k9 {kindOf:Str→Option NameKind} {x:Str} {v:Value}:∀ {P:List Str} {vs:List Value} {i:Nat} {m:Str→Option Value},P.Nodup→P[i]?=some x→vs[i]?=some v→kindOf x≠some .local →
  bindC kindOf (P.zip vs) m x=some v
 | [],_,_,_,_,h,_,_=>by simp at h
 | _ :: _,[],_,_,_,_,h,_=>by simp at h
 | p :: P,w :: vs,0,m,nd,h1,h2,hk=>by
  simp at h1 h2;subst h1;subst h2;show bindC kindOf ((p,w) :: P.zip vs) m p=_;unfold bindC;rw [k7 fun v hv=>(aBo.mp nd).1 (aCc hv).1,if_neg hk];simp
 | p :: P,w :: vs,i+1,m,nd,h1,h2,hk=>by
  show bindC kindOf ((p,w) :: P.zip vs) m x=_;unfold bindC;exact k9 (i:=i) (aBo.mp nd).2 (by simpa using h1) (by simpa using h2) hk
def gx (N:List Str) (vs:List V):St:=vs.map some++List.replicate (N.length - vs.length) none
def nv (CX:CXT) (P:Program) (w:World) (K:W.Frag) (mg:Str→Option Value) (base:Heap) (N:List Str) (qual:Str) (scope:Scope) (f:Addr) (cd:Value) (A:Around) (outer:List Env) (s:Shared) (H:Hp) (E:XK):Cx where
 prog:=P
 w:=w
 K:=K
 mg:=mg
 base:=base
 A:=A.deeper (envOfC qual scope s.heap.objs.size f cd)
 N:=N
 s₀:=s
 H₀:=H
 env:=envOfC qual scope s.heap.objs.size f cd
 outer:=outer
 stack:=envOfC qual scope s.heap.objs.size f cd :: outer
 ex:=[]
 calm:=true
 fn:=fun _=>true
 pn:=[]
 xe:=fun e s'=>wpAny (model P w) (A.deeper (envOfC qual scope s.heap.objs.size f cd)) (leaving (envOfC qual scope s.heap.objs.size f cd) e) (fun _ s''=>CX outer H s E e s'') (fun e' s''=>CX outer H s E e' s'') s'
theorem nz {sc:Scope} {n:Nat} {x:Str} (h:sc.names.lookup x=some .cell):∃ c,(cellsFrom n sc.names []).lookup x=some c:=by
 have q:=W.cellsFrom_some sc.names n [] (.inl h);exact Option.isSome_iff_exists.mp q
theorem sE {CX:CXT} {P:Program} {w:World} {K:W.Frag} {mg:Str→Option Value} {base:Heap} {N ps:List Str} {qual:Str} {scope:Scope} {f:Addr} {cd:Value} {A:Around} {outer:List Env} {s s1:Shared} {H:Hp} {E:XK} {us:List Value} {vs:List V}
  (S:FnScope N ps scope) (hd:A.handled=none) (e0:Env0 P w K mg base A outer s H) (hl:vs.length=ps.length) (r:Vals vs us)
  (x:InCallC s s.heap.objs.size (bindL (envOfC qual scope s.heap.objs.size f cd).kindOf (ps.zip us) fun _=>none) (cellsFrom (s.heap.objs.size+1) scope.names []) (bindC (envOfC qual scope s.heap.objs.size f cd).kindOf (ps.zip us) fun _=>none) s1) :
  Inv (nv CX P w K mg base N qual scope f cd A outer s H E) [] (gx N vs) H s1:=by
 have hpl:ps.length≤N.length:=by have:=congrArg List.length S.pre;rw [aAz] at this;lia
 obtain ⟨h1,tk,rfl,hk⟩:=x.done;have noA:∀ b:Addr,b∉(nv CX P w K mg base N qual scope f cd A outer s H E).ex:=fun b z=>absurd (show b∈([]:List Addr) from z) (by simp);refine ⟨⟨e0.mod,S.kind,rfl,rfl,aAl _,fun y z c h1 h2=>?_,fun y hy=>?_,fun y c _ h=>?_,fun _=>hd,Around.frames_deeper e0.frames,.inr ⟨rfl,rfl⟩,fun b z=>absurd z (noA b),e0.bs,e0.bsz,fun b _ _=>noA b,fun b z=>absurd z (noA b),e0.funs,e0.frf⟩,
  rfl,e0.bare,Un.kept hk,⟨_,x.toInCall.ns,fun i y v h1 h2 h3=>?_⟩,fun y c h=>⟨_,x.cell y c h⟩,e0.hok.fresh (aAl _),fun y c h=>?_,fun p hp=>absurd (show p∈([]:List (Addr×Obj)) from hp) (by simp),e0.hok.kept hk,?_⟩
 ·exact name_of_addr x.apart (mem_of_lookup h1) (mem_of_lookup h2)
 ·have hy:scope.names.lookup y=some .cell∨scope.names.lookup y=some .free:=hy;rcases hy with hy | hy
  ·exact nz hy
  ·exact absurd rfl (S.nofree _ (mem_of_lookup hy))
 ·exact aAY (x.above y c (mem_of_lookup h))
 ·have hi:i < vs.length:=by
   unfold gx at h2
   by_cases hi:i < vs.length
   ·exact hi
   ·rw [aA4 (by simpa using hi)] at h2;rw [aCa] at h2
    split at h2 <;> cases h2
  have ha:vs[i]?=some v:=by
   unfold gx at h2;rw [aBi (by simpa using hi),aAg] at h2
   cases e:vs[i]? with
   | none=>rw [e] at h2;cases h2
   | some a=>rw [e] at h2;cases h2;rfl
  obtain ⟨u,hu,rv⟩:=r.get ha;have hp:ps[i]?=some y:=by
   rw [← S.pre,List.getElem?_take_of_lt (by lia)];exact h1
  have ndP:ps.Nodup:=by rw [← S.pre];exact S.nd.sublist (aBq _ _)
  refine ⟨u,rv,?_⟩;rcases S.par y (aAn hp) with k | k
  ·exact .inl ⟨k,k8 ndP hp hu k⟩
  ·obtain ⟨c,e⟩:=nz (n:=s.heap.objs.size+1) k;refine .inr ⟨.inl k,c,e,?_⟩;have q:=x.cell y c e;rw [k9 ndP hp hu (by show scope.names.lookup y≠_;rw [k];decide)] at q;exact q
 ·exact e0.hok.fresh (aAY (x.above y c (mem_of_lookup h)))
 ·unfold gx;show _=N.length;rw [aAk,aAa,aAP];lia
theorem xZ {CX:CXT} {P:Program} {w:World} {K:W.Frag} {mg:Str→Option Value} {base:Heap} {k:Nat} {f:Addr} {name qual:Str} {params:Arguments} {body:List Stmt} {scope:Scope} {dV kV doc pm cdv ct oc:Value} {an od:Option Addr}
  {osl:Array (Option Value)} {N ps:List Str} {sp:Sp} (lk:K.lookup f=some ⟨oc,od,.func (W.fnOf name qual params body scope dV kV doc pm an cdv ct),osl⟩) (hcd:W.codeIn K cdv qual=true) (S:FnScope N ps scope)
  (len:∀ vs H Q E,sp vs H Q E→vs.length=ps.length)
  (hbody:∀ (A:Around) (outer:List Env) (s:Shared) (H:Hp) (vs:List V) (Q:VK) (E:XK),Room k (A.deeper (envOfC qual scope s.heap.objs.size f cdv))→sp vs H Q E →
   ∃ t,PSs (nv CX P w K mg base N qual scope f cdv A outer s H E) body t∧t { nx:=fun _ H'=>Q .non H',rt:=Q } (gx N vs) H) :
  FnOk P w K mg base CX (k+1) f (W.fnOf name qual params body scope dV kV doc pm an cdv ct) ps sp:=by
 refine ⟨len,fun A outer s H args us vs Q E hr e0 hb r hsp=>?_⟩;have hl:=len _ _ _ _ hsp;have KX:K.In s.heap:=e0.mod.kin.keeps fun b o e=>(e0.bs b o e).1;have lim:s.heap.NoLimit:=e0.mod.nolimit.keeps fun b o e=>(e0.bs b o e).1;have hkind:∀ y∈ps.zip us,scope.names.lookup y.1=some .local∨(scope.names.lookup y.1=some .cell∧((cellsFrom (s.heap.objs.size+1) scope.names []).lookup y.1).isSome=true):=fun ⟨n,v⟩ hy=>by
  rcases S.par n (aCc hy).1 with q | q
  ·exact .inl q
  ·exact .inr ⟨q,W.cellsFrom_some _ _ _ (.inl q)⟩
 refine codeAny_call_function hr.depth (KX _ _ lk) rfl S.co S.gen rfl (W.codeRec_of KX hcd) (hb _ _ _ _ ?_);refine wpAny_newFunctionEnv_cells S.kind hkind fun env he s1 x=>?_;subst he;refine ⟨lim.keeps x.toInCall.keep,codeAny_func ?_⟩;obtain ⟨t,ht,hq⟩:=hbody A outer s H vs Q E (hr.deeper _) hsp;have I:Inv (nv CX P w K mg base N qual scope f cdv A outer s H E) [] (gx N vs) H s1:=sE S hr.hd e0 hl r x;refine wpAny_mono (ht [] s1 (gx N vs) H _ I hq) (fun fl s' hs=>?_) fun e s' hs=>hs;have fin:∀ {σ':St} {H':Hp} {v:V} {u:Value},Inv (nv CX P w K mg base N qual scope f cdv A outer s H E) [] σ' H' s'→RelV v u→Q v H'→CE outer P w H s Q u s' :=
  fun {σ' H' v u} J rv q=>⟨v,H',J.os,J.bare,J.base,J.hok,rv,q⟩
 cases fl with
 | ret u =>
  obtain ⟨v,σ',H',J,rv,q⟩:=hs;exact fin J rv q
 | next =>
  obtain ⟨σ',H',J,q⟩:=hs;exact fin (v:=V.non) (u:=Value.none) J rfl q
 | brk =>
  obtain ⟨_,_,_,q⟩:=hs;exact False.elim q
 | cont =>
  obtain ⟨_,_,_,q⟩:=hs;exact False.elim q
section
variable {X:Cx} {x:Str} {p pos:Pos} {e:Expr} {es:List Expr} {t:TA} {id T:String} {r:List V→Hp→VK→Prop}
def tCB (r:List V→Hp→VK→Prop) (t:TA):TE:=fun σ H Q=>t σ H fun vs H1=>r vs H1 Q
theorem pe_callB (hc:aO X (.builtin id) r) (hg:Gl X x) (hm:X.mg x=none) (hv:bootBuiltins x=some (.builtin id)) (ha:PA X (e :: es) t) (hn:x≠ "__name__" :=by decide) (hdb:(x == ("__debug__" : Str))=false:=by decide)
  (he:starEach (e :: es) X.env=(false,eval e X.env) :: starEach es X.env:=by rfl) (hpl:(backTo pos (starEach es X.env)).any (·.1)=false:=by rfl):PE X (.Call (.Name x p) (e :: es) [] pos) (tCB r t):=by
 intro pins s σ H Q I h;refine wpAny_Call_Name_kw (gX I hg hm hv ?_ hn hdb);exact PyProof.Rows.callWith_builtin1 (thn (ha pos pins s σ H _ I h) fun us s1 ⟨vs,H1,I1,r1,q1⟩=>hc pins s1 σ H1 vs us Q I1 r1 q1) he hpl
theorem pe_callTy (hc:aO X (.type T) r) (hg:Gl X x) (hm:X.mg x=none) (hv:bootBuiltins x=some (.type T)) (ha:PA X (e :: es) t) (hn:x≠ "__name__" :=by decide) (hdb:(x == ("__debug__" : Str))=false:=by decide)
  (he:starEach (e :: es) X.env=(false,eval e X.env) :: starEach es X.env:=by rfl) (hpl:(backTo pos (starEach es X.env)).any (·.1)=false:=by rfl):PE X (.Call (.Name x p) (e :: es) [] pos) (tCB r t):=by
 intro pins s σ H Q I h;refine wpAny_Call_Name_kw (gX I hg hm hv ?_ hn hdb);exact PyProof.Rows.callWith_type1 (thn (ha pos pins s σ H _ I h) fun us s1 ⟨vs,H1,I1,r1,q1⟩=>hc pins s1 σ H1 vs us Q I1 r1 q1) he hpl
end
end L2
namespace HT
open PySem PyProof.Rows
section
open PySem.SeqAt
open PySem.AutoSeq1 (wpAny_loadPart')
open PySem.MeetsSeq PySem.MeetsSeq2 PySem.MeetsSeq3
end
section
variable {prog:Program} {w:World} {A:Around} {E:Value→Shared→Prop} {s:Shared}
def sIx (n d:Nat):Option Int→Nat
 | none=>d
 | some v=>if v < 0 then (v+(n:Int)).toNat else min v.toNat n
theorem sIx_none (n d:Nat):sIx n d none=d:=rfl
theorem sIx_nat (n d k:Nat):sIx n d (some (k:Int))=min k n:=by
 show (if (k:Int) < 0 then ((k:Int)+(n:Int)).toNat else min (k:Int).toNat n)=min k n;rw [if_neg (by lia),aA8]
end
end HT
namespace L2
open PySem PySem.Spec PyProof.Rows
abbrev TO:=St→Hp→(Option Int→Hp→Prop)→Prop
def PO (X:Cx) (e:Option Expr) (t:TO):Prop :=
 ∀ (pins:List (Addr×Obj)) (s:Shared) (σ:St) (H:Hp) (Q:Option Int→Hp→Prop),Inv X pins σ H s→t σ H Q →
  wpAny (model X.prog X.w) X.A (evalPart e X.env) (fun u s'=>∃ o H',Inv X pins σ H' s'∧IsPart u o∧Q o H') X.xe s
def wG:TO:=fun _ H Q=>Q none H
inductive IPrt (x:V) (H1:Hp) (Q:Option Int→Hp→Prop):Prop
 | mk (i:Int):(x=.int i)→(Q (some i) H1)→IPrt x H1 Q
def G0 (t:TE):TO:=fun σ H Q=>t σ H fun x H1=>IPrt x H1 Q
section
variable {X:Cx} {e:Expr} {te:TE} {lo hi:Option Expr} {tl th:TO} {pos p2:Pos}
theorem dB:PO X none wG:=by
 intro pins s σ H Q I h;rw [evalPart_none];exact wpAny_pure ⟨none,H,I,.none,h⟩
theorem po_some (h:PE X e te):PO X (some e) (G0 te):=by
 intro pins s σ H Q I hw;rw [evalPart_some];refine thn (h pins s σ H _ I hw) fun u s1 ⟨x,H1,I1,r1,q1⟩=>?_;obtain ⟨i,rfl,q⟩:=q1;obtain ⟨t,rfl⟩:=r1;exact ⟨some i,H1,I1,.int i t,q⟩
def SlR (X:Cx) (r:V→Option Int→Option Int→Hp→VK→Prop):Prop :=
 ∀ (pins:List (Addr×Obj)) (s:Shared) (σ:St) (H:Hp) (x:V) (v vl vu:Value) (lo hi:Option Int) (sl:Addr) (Q:VK),Inv X pins σ H s→RelV x v→s.heap.IsSliceOf sl vl vu .none→IsPart vl lo→IsPart vu hi→r x lo hi H Q →
  ∃ T id,typeLookup (.type T) "__getitem__" = pure (some (.builtin id))∧s.TypeIs v T∧wpAny (model X.prog X.w) X.A (getItem v (.ref sl)) (EP X pins σ Q) X.xe s
def tSl (r:V→Option Int→Option Int→Hp→VK→Prop) (te:TE) (tl th:TO):TE:=fun σ H Q=>te σ H fun x H1=>tl σ H1 fun l H2=>th σ H2 fun u H3=>r x l u H3 Q
theorem pe_slice {r:V→Option Int→Option Int→Hp→VK→Prop} (hr:SlR X r) (he:PE X e te) (hl:PO X lo tl) (hu:PO X hi th):PE X (.Subscript e (.Slice lo hi none p2) pos) (tSl r te tl th):=by
 intro pins s σ H Q I h;refine Subscript_ (thn (he pins s σ H _ I h) fun v s1 ⟨x,H1,I1,r1,q1⟩=>?_);refine wpAny_Slice (thn (hl pins s1 σ H1 _ I1 q1) fun vl s2 ⟨l,H2,I2,pl,q2⟩=>thn (hu pins s2 σ H2 _ I2 q2) fun vu s3 ⟨u,H3,I3,pu,q3⟩=>?_);rw [evalPart_none];refine wpAny_pure ?_;have I4:Inv X pins σ H3 { s3 with heap:=s3.heap.push { cls:=.type "slice",data:=.fields #[vl,vu,.none] } }:=I3.kept (t':=s3.toks) fun b ob q=>aAb _ q;obtain ⟨T,id,hT,ht,hg⟩:=hr pins { s3 with heap:=s3.heap.push { cls:=.type "slice",data:=.fields #[vl,vu,.none] } } σ H3 x v vl vu l u s3.heap.objs.size Q I4 r1 (Heap.IsSliceOf.new ..) pl pu q3;show wpAny (model X.prog X.w) X.A (subscriptTail e (.Slice lo hi none p2) v (.ref s3.heap.objs.size)) (EP X pins σ Q) X.xe { s3 with heap:=s3.heap.push { cls:=.type "slice",data:=.fields #[vl,vu,.none] } };exact tail_any (ops:=[.ref s3.heap.objs.size,v]) ht hT hg (by with_unfolding_all rfl)
def nA (xs:List V) (lo hi:Option Int):List V:=(xs.drop (HT.sIx xs.length 0 lo)).take (HT.sIx xs.length xs.length hi - HT.sIx xs.length 0 lo)
theorem nB (xs:List V) (lo hi:Option Int):(nA xs lo hi).length≤xs.length:=by
 unfold nA;rw [aAz,aAJ];lia
end
def ixN (n:Nat) (i:Int):Option Nat:=if 0≤i then (if i < n then some i.toNat else none) else if -(n:Int)≤i then some (i+n).toNat else none
def atI {α:Type} (xs:List α) (i:Int):Option α:=(ixN xs.length i).bind fun j=>xs[j]?
theorem i9 {n:Nat} {i:Int} {j:Nat} (h:ixN n i=some j):seqIndex? i n=some j∧j < n∧-(n:Int)≤i∧i < n:=by
 unfold ixN at h
 by_cases h0:0≤i
 ·rw [if_pos h0] at h
  by_cases h1:i < n
  ·rw [if_pos h1] at h;have e:i.toNat=j:=Option.some.inj h;exact ⟨by rw [seqIndex_of h0 h1,e],by lia,by lia,h1⟩
  ·rw [if_neg h1] at h;cases h
 ·rw [if_neg h0] at h
  by_cases h1:-(n:Int)≤i
  ·rw [if_pos h1] at h;have e:(i+n).toNat=j:=Option.some.inj h;exact ⟨by rw [seqIndex_neg (by lia) h1,e],by lia,h1,by lia⟩
  ·rw [if_neg h1] at h;cases h
theorem gy {α:Type} {xs:List α} {i:Int} {v:α} (h:atI xs i=some v):∃ j,seqIndex? i xs.length=some j∧xs[j]?=some v∧j < xs.length∧-(xs.length:Int)≤i∧i < xs.length:=by
 unfold atI at h
 cases e:ixN xs.length i with
 | none=>rw [e] at h;cases h
 | some j =>
  rw [e] at h;obtain ⟨h1,h2,h3,h4⟩:=i9 e;exact ⟨j,h1,h,h2,h3,h4⟩
theorem ce {α:Type} {xs:List α} {j:Nat} {v:α} (h:xs[j]?=some v):atI xs (j:Int)=some v:=by
 have hj:j < xs.length:=(aAc.mp h).1;have e:ixN xs.length (j:Int)=some j:=by
  unfold ixN;rw [if_pos (by lia),if_pos (by lia)];simp
 unfold atI;rw [e];exact h
def wI (b:Expr):Prop:=∀ o i,subscripted b false o i=operate [o,i] (getItem o i)
def IxR (X:Cx) (r:R2):Prop :=
 ∀ (value slice:Expr) (pins:List (Addr×Obj)) (s:Shared) (σ:St) (H:Hp) (x y:V) (v u:Value) (Q:VK),Inv X pins σ H s→RelV x v→RelV y u→r x y H Q →
  subscripted slice false v u=operate [v,u] (getItem v u)→wpAny (model X.prog X.w) X.A (subscriptTail value slice v u) (EP X pins σ Q) X.xe s
def MtR (X:Cx) (id:String) (r:V→List V→Hp→VK→Prop):Prop :=
 ∀ (pins:List (Addr×Obj)) (s:Shared) (σ:St) (H:Hp) (x:V) (xs:List V) (v:Value) (us:List Value) (Q:VK),Inv X pins σ H s→RelV x v→Vals xs us→r x xs H Q →
  wpAny (model X.prog X.w) X.A (call (.builtin id) (v :: us)) (EP X pins σ Q) X.xe s
section
variable {X:Cx} {a b:Expr} {ta tb:TE} {pos:Pos}
theorem pe_ix {r:R2} (hr:IxR X r) (ha:PE X a ta) (hb:PE X b tb) (hs:wI b):PE X (.Subscript a b pos) (tOp r ta tb):=by
 intro pins s σ H Q I h;exact Subscript_ (Bd ha hb I h fun v u s2 x y H2 I2 rx ry q=>hr a b pins s2 σ H2 x y v u Q I2 rx ry q (hs _ _))
inductive IIxL (K:W.Frag) (x y:V) (H:Hp) (Q:VK):Prop
 | mk (p:Addr) (xs:List V) (i:Int) (v:V):(x=.ref p)→(y=.int i)→(SqL K H p xs)→(atI xs i=some v)→(Q v H)→IIxL K x y H Q
def G5 (K:W.Frag):R2:=fun x y H Q=>IIxL K x y H Q
def IA (K:W.Frag):R2:=fun x y H Q=>∃ p xs i v,x=.ref p∧y=.int i∧SqT K H p xs∧atI xs i=some v∧Q v H
def IB:R2:=fun x y H Q=>∃ z i c,x=.str z∧y=.int i∧z.length≤sizeLine∧atI z.cps.toList i=some c∧Q (.str ⟨#[c]⟩) H
theorem wJ:IxR X (G5 X.K):=by
 intro value slice pins s σ H x y v u Q I rx ry h hs;obtain ⟨p,xs,i,z,rfl,rfl,hq,he,q⟩:=h
 cases rx
 obtain ⟨t,rfl⟩:=ry;obtain ⟨its,r,pl,hz⟩:=I.list hq;obtain ⟨j,h1,h2,h3,h4,h5⟩:=gy he;obtain ⟨w,ew,rw'⟩:=r.get h2;have hl:=r.length;have hn:=gZ;have fin:EP X pins σ Q w s:=⟨z,H,I,rw',q⟩
 by_cases h0:0≤i
 ·have hj:i.toNat=j:=by
   rw [seqIndex_of h0 h5] at h1;exact Option.some.inj h1
  exact item_listR pl.isList h0 (by lia) (by rw [hj];simpa using ew) fin hs
 ·have hj:(i+(its.toArray.size:Int)).toNat=j:=by
   rw [seqIndex_neg (by lia) h4] at h1;rw [aAv,← hl];exact Option.some.inj h1
  exact subscriptTail_builtinR (x:=w) pl.isList.typeIs slot_list_getitem.lookup
   (wpAny_getItem_list_neg (Q:=fun r s'=>r=w∧EP X pins σ Q r s') pl.isList (by lia) (by rw [aAv] <;> lia) (by lia) (by rw [hj];simpa using ew) ⟨rfl,fin⟩) hs
theorem uv:IxR X (IA X.K):=by
 intro value slice pins s σ H x y v u Q I rx ry h hs;obtain ⟨p,xs,i,z,rfl,rfl,hq,he,q⟩:=h
 cases rx
 obtain ⟨t,rfl⟩:=ry;obtain ⟨its,r,pl,hz⟩:=I.tuple hq;obtain ⟨j,h1,h2,h3,h4,h5⟩:=gy he;obtain ⟨w,ew,rw'⟩:=r.get h2;have hl:=r.length;have hn:=gZ;have fin:EP X pins σ Q w s:=⟨z,H,I,rw',q⟩;exact subscriptTail_builtinR (x:=w) pl.typeIs slot_tuple_getitem.lookup
  (getItem_tuple (j:=j) (Q:=fun r s'=>r=w∧EP X pins σ Q r s') pl (by lia) (by lia) (by rw [aAv,← hl];exact h1) (by simpa using ew) ⟨rfl,fin⟩) hs
theorem ix_str:IxR X IB:=by
 intro value slice pins s σ H x y v u Q I rx ry h hs;obtain ⟨z,i,c,rfl,rfl,hz,he,q⟩:=h;obtain ⟨t,rfl⟩:=rx;obtain ⟨t',rfl⟩:=ry;obtain ⟨j,h1,h2,h3,h4,h5⟩:=gy he;have hl:z.cps.toList.length=z.length:=by simp [Str.length]
 rw [hl] at h1 h4 h5;have hn:=gZ;exact tail_any (typeIs_str s z t) slot_str_getitem.lookup (getItem_str (c:=c) (by
  have e1:decide (i < -(2 ^ 63:Int))=false:=decide_eq_false (by lia);have e2:decide (i≥2 ^ 63)=false:=decide_eq_false (by lia);rw [e1,e2,aCk]) (by rw [h1];simpa using h2) ⟨.str ⟨#[c]⟩,H,I.tok _,⟨_,rfl⟩,q⟩) hs
theorem qb (its:List Value) (n j:Nat) (u:Value):Obj.mapSeq (·.setIfInBounds j u) { cls:=.type "list",data:=.seq its.toArray n }={ cls:=.type "list",data:=.seq (its.set j u).toArray n }:=by
 simp [Obj.mapSeq]
theorem Inv.lst {pins:List (Addr×Obj)} {σ:St} {H:Hp} {s:Shared} {p:Addr} {xs:List V} (I:Inv X pins σ H s) (h:H p=some (.lst xs)) :
  ∃ (its:List Value) (n:Nat),Vals xs its∧s.heap.get? p=some { cls:=.type "list",data:=.seq its.toArray n }∧xs.length≤sizeLine:=by
 obtain ⟨z,its,n,r,e⟩:=I.hok p _ h;exact ⟨its,n,r,e,z⟩
theorem Inv.lstUpd {pins:List (Addr×Obj)} {σ:St} {H:Hp} {s:Shared} {p:Addr} {xs ys:List V} {its its':List Value} {n n':Nat} {f:Obj→Obj} (I:Inv X pins σ H s) (h:H p=some (.lst xs))
  (ho:s.heap.get? p=some { cls:=.type "list",data:=.seq its.toArray n }) (hf:f { cls:=.type "list",data:=.seq its.toArray n }={ cls:=.type "list",data:=.seq its'.toArray n' }) (r:Vals ys its') (hz:ys.length≤sizeLine) (t:Nat) :
  Inv X pins σ (upd H p (.lst ys)) { s with heap:=s.heap.update p f,toks:=t }:=by
 have e:(s.heap.update p f).get? p=some { cls:=.type "list",data:=.seq its'.toArray n' }:=by
  rw [aBd f ho (by rw [hf] <;> rfl),hf]
 refine I.write (x:=p) (e:=p) (by rw [h];trivial) (.inl rfl) (fun b u hb q=>(aBb _ _ (Ne.symm hb)).trans q) ⟨_,e⟩ ?_;exact ⟨hz,its',n',r,e⟩
inductive ISetL (o i v:V) (H:Hp) (Q:Hp→Prop):Prop
 | mk (p:Addr) (xs:List V) (k:Int) (j:Nat):(o=.ref p)→(i=.int k)→(H p=some (.lst xs))→(ixN xs.length k=some j)→(Q (upd H p (.lst (xs.set j v))))→ISetL o i v H Q
def G6:V→V→V→Hp→(Hp→Prop)→Prop:=fun o i v H Q=>ISetL o i v H Q
theorem nD:GP X G6:=by
 intro pins s σ H o i v ov iv u Q I ro ri rv h;obtain ⟨p,xs,k,j,rfl,rfl,hp,hj,q⟩:=h
 cases ro
 obtain ⟨t,rfl⟩:=ri;obtain ⟨its,n,r,ho,hz⟩:=I.lst hp;obtain ⟨h1,h2,h3,h4⟩:=i9 hj;have hl:=r.length;have hn:=gZ;have I':Inv X pins σ (upd H p (.lst (xs.set j v))) { s with heap:=s.heap.update p (Obj.mapSeq (·.setIfInBounds j u)) } :=
  I.lstUpd hp ho (qb its n j u) (r.set rv j) (by rw [List.length_set];exact hz) s.toks
 by_cases h0:0≤k
 ·have hk:k.toNat=j:=by
   rw [seqIndex_of h0 h4] at h1;exact Option.some.inj h1
  exact W.ki_setAt ho h0 (by lia) (by rw [aAv,← hl];exact h4) (by rw [hk];exact ⟨_,I',q⟩)
 ·have hk:(k+(its.toArray.size:Int)).toNat=j:=by
   rw [seqIndex_neg (by lia) h3] at h1;rw [aAv,← hl];exact Option.some.inj h1
  exact W.ki_setBack ho (by lia) (by rw [aAv,← hl];exact h3) (by lia) (by rw [hk];exact ⟨_,I',q⟩)
theorem l5 (lo hi:Option Int) (n:Nat):(sliceBounds lo hi none n).1=((HT.sIx n 0 lo:Nat):Int)∧(sliceBounds lo hi none n).2.1=((HT.sIx n n hi:Nat):Int)∧(sliceBounds lo hi none n).2.2=1:=by
 refine ⟨?_,?_,rfl⟩
 ·cases lo with
  | none=>simp [sliceBounds,HT.sIx]
  | some i =>
   simp only [sliceBounds,HT.sIx,Option.getD_none,show (1:Int) > 0 by decide,if_true]
   by_cases h:i < 0
   ·simp only [h,if_true] <;> lia
   ·simp only [h,if_false] <;> lia
 ·cases hi with
  | none=>simp [sliceBounds,HT.sIx]
  | some i =>
   simp only [sliceBounds,HT.sIx,Option.getD_none,show (1:Int) > 0 by decide,if_true]
   by_cases h:i < 0
   ·simp only [h,if_true] <;> lia
   ·simp only [h,if_false] <;> lia
theorem kA (its:List Value) (lo hi:Option Int):slicePick its.toArray lo hi none=((its.drop (HT.sIx its.length 0 lo)).take (HT.sIx its.length its.length hi - HT.sIx its.length 0 lo)).toArray:=by
 obtain ⟨h1,h2,h3⟩:=l5 lo hi its.toArray.size;unfold slicePick;rw [h1,h2,h3];simp only [sliceRange_one,pick_run,aAv] <;> rfl
def G7 (K:W.Frag):V→Option Int→Option Int→Hp→VK→Prop:=fun x lo hi H Q=>∃ a xs,x=.ref a∧SqL K H a xs∧∀ p,H p=none→Q (.ref p) (upd H p (.lst (nA xs lo hi)))
theorem wK:SlR X (G7 X.K):=by
 intro pins s σ H x v vl vu lo hi sl Q I rx hs pl pu h;obtain ⟨a,xs,rfl,hx,q⟩:=h
 cases rx
 obtain ⟨its,r,ht,hz⟩:=I.list hx;have hlen:=r.length;refine ⟨"list",_,slot_list_getitem.lookup,ht.isList.typeIs,?_⟩;refine wpAny_getItem_list_slice ht.isList hs pl pu .none (by simp) ?_ (by rw [aAv] <;> lia);rw [kA,← hlen];refine ⟨.ref s.heap.objs.size,_,I.laid (t':=s.toks) (o:=.lst (nA xs lo hi)) (fun b ob q=>aAb _ q) (aAl _) ?_,rfl,q _ (I.hok.fresh (aAl _))⟩;exact ⟨aAA (nB xs lo hi) hz,_,0,(r.drop (HT.sIx xs.length 0 lo)).take (HT.sIx xs.length xs.length hi - HT.sIx xs.length 0 lo),aAq _ rfl⟩
def eA:V→Bool
 | .non=>true
 | .bl _=>true
 | .int _=>true
 | .str _=>true
 | _=>false
def eqV:V→V→Bool
 | .non,.non=>true
 | .bl a,.bl b=>a == b
 | .bl a,.int b=>(if a then 1 else 0) == b
 | .int a,.bl b=>a == (if b then 1 else 0)
 | .int a,.int b=>a == b
 | .str a,.str b=>a == b
 | _,_=>false
theorem Bg {A:Around} {s:Shared} {y x:V} {u v:Value} (ry:RelV y u) (rx:RelV x v) (fy:eA y=true) (fx:eA x=true):SeqAt.EqAt A s u v (eqV y x):=by
 cases y with
 | non =>
  cases ry
  cases x with
  | non=>cases rx;exact SeqAt.EqAt.same _
  | bl b=>cases rx;exact SeqAt.EqAt.none_bool b
  | int b=>obtain ⟨t,rfl⟩:=rx;exact SeqAt.EqAt.none_int b t
  | str b=>obtain ⟨t,rfl⟩:=rx;exact SeqAt.EqAt.none_str b t
  | _=>exact absurd (show false=true from fx) aAw
 | bl a =>
  cases ry
  cases x with
  | non=>cases rx;exact SeqAt.EqAt.bool_none a
  | bl b=>cases rx;exact SeqAt.EqAt.bool_bool a b
  | int b=>obtain ⟨t,rfl⟩:=rx;exact SeqAt.EqAt.bool_int a b t
  | str b=>obtain ⟨t,rfl⟩:=rx;exact SeqAt.EqAt.bool_str a b t
  | _=>exact absurd (show false=true from fx) aAw
 | int a =>
  obtain ⟨t',rfl⟩:=ry
  cases x with
  | non=>cases rx;exact SeqAt.EqAt.int_none a t'
  | bl b=>cases rx;exact SeqAt.EqAt.int_bool a t' b
  | int b=>obtain ⟨t,rfl⟩:=rx;exact SeqAt.EqAt.int_int a t' b t
  | str b=>obtain ⟨t,rfl⟩:=rx;exact SeqAt.EqAt.int_str a t' b t
  | _=>exact absurd (show false=true from fx) aAw
 | str a =>
  obtain ⟨t',rfl⟩:=ry
  cases x with
  | non=>cases rx;exact SeqAt.EqAt.str_none a t'
  | bl b=>cases rx;exact SeqAt.EqAt.str_bool a t' b
  | int b=>obtain ⟨t,rfl⟩:=rx;exact SeqAt.EqAt.str_int a t' b t
  | str b=>obtain ⟨t,rfl⟩:=rx;exact SeqAt.EqAt.str_str a t' b t
  | _=>exact absurd (show false=true from fx) aAw
 | _=>exact absurd (show false=true from fy) aAw
def eqU (x:V) (u:Value):Bool:=match u with
 | .none=>eqV .non x
 | .bool b=>eqV (.bl b) x
 | .int i _=>eqV (.int i) x
 | .str z _=>eqV (.str z) x
 | _=>false
theorem uw {x y:V} {u:Value} (r:RelV y u) (f:eA y=true):eqU x u=eqV y x:=by
 cases y with
 | non=>cases r;rfl
 | bl b=>cases r;rfl
 | int i=>obtain ⟨t,rfl⟩:=r;rfl
 | str z=>obtain ⟨t,rfl⟩:=r;rfl
 | _=>exact absurd (show false=true from f) aAw
theorem l6 {x:V}:∀ {xs:List V} {us:List Value},Vals xs us→xs.all eA=true→us.any (eqU x)=xs.any fun y=>eqV y x
 | _,_,.nil,_=>rfl
 | y :: xs,u :: us,.cons r t,f=>by
  rw [aA9,aAs] at f;rw [aBV,aBV,uw r f.1,l6 t f.2]
theorem jr {A:Around} {s:Shared} {x:V} {v:Value} (rx:RelV x v) (fx:eA x=true):∀ {xs:List V} {us:List Value},Vals xs us→xs.all eA=true→∀ u∈us,SeqAt.EqAt A s u v (eqU x u)
 | _,_,.nil,_=>fun u hu=>by cases hu
 | y :: xs,u :: us,.cons r t,f=>fun u' hu=>by
  rw [aA9,aAs] at f;rcases aAp.mp hu with rfl | hu
  ·rw [uw r f.1];exact Bg r rx f.1 fx
  ·exact jr rx fx t f.2 u' hu
def inV (x:V) (xs:List V):Bool:=xs.any fun y=>eqV y x
def rIn (K:W.Frag) (neg:Bool):R2:=fun x y H Q=>∃ p xs,y=.ref p∧(SqL K H p xs∨SqT K H p xs)∧eA x=true∧xs.all eA=true∧Q (.bl (if neg then !inV x xs else inV x xs)) H
theorem sF:OpR X (compareOp .In) (rIn X.K false):=by
 intro pins s σ H x y v u Q I rx ry h;obtain ⟨p,xs,rfl,hq,fx,fs,q⟩:=h
 cases ry
 rcases hq with hq | hq
 ·obtain ⟨its,r,pl,hz⟩:=I.list hq;refine SeqAt.in_listAt (eqU x) pl.isList (fun w hw=>jr rx fx r fs w (by simpa using hw)) ⟨.bl _,H,I,rfl,?_⟩;rw [show its.toArray.any (eqU x)=its.any (eqU x) by simp,l6 r fs];exact q
 ·obtain ⟨its,r,pl,hz⟩:=I.tuple hq;refine SeqAt.in_tupleAt (eqU x) pl (fun w hw=>jr rx fx r fs w (by simpa using hw)) ⟨.bl _,H,I,rfl,?_⟩;rw [show its.toArray.any (eqU x)=its.any (eqU x) by simp,l6 r fs];exact q
theorem gz:aO X (.builtin "len") (fun xs H Q=>∃ p ys,xs=[.ref p]∧(SqL X.K H p ys∨SqT X.K H p ys)∧Q (.int ys.length) H):=by
 intro pins s σ H xs us Q I r h;obtain ⟨p,ys,rfl,hq,q⟩:=h;obtain ⟨u,rfl,rx⟩:=cP r
 cases rx
 have hn:=gZ;rcases hq with hq | hq
 ·obtain ⟨its,r',pl,hz⟩:=I.list hq;have hlen:=r'.length;exact Calls.call_len_list pl.isList (by simp only [aAv] <;> lia) ⟨.int ys.length,H,I.tok _,⟨s.toks+1,by rw [aAv,hlen]⟩,q⟩
 ·obtain ⟨its,r',pl,hz⟩:=I.tuple hq;have hlen:=r'.length;exact len_tuple pl (by simp only [aAv] <;> lia) ⟨.int ys.length,H,I.tok _,⟨s.toks+1,by rw [aAv,hlen]⟩,q⟩
theorem call_len_str:aO X (.builtin "len") (fun xs H Q=>∃ z,xs=[.str z]∧z.length≤sizeLine∧Q (.int z.length) H):=by
 intro pins s σ H xs us Q I r h;obtain ⟨z,rfl,hz,q⟩:=h;obtain ⟨u,rfl,t,rfl⟩:=cP r;have hn:=gZ;exact len_str (by lia) ⟨.int z.length,H,I.tok _,⟨_,rfl⟩,q⟩
def tyV (K:W.Frag) (T:String) (x:V) (H:Hp):Prop:=match x with
 | .str _=>T= "str"
 | .int _=>T= "int"
 | .ref p=>(T= "list" ∧∃ xs,SqL K H p xs)∨(T= "tuple" ∧∃ o,K.lookup p=some o∧o.cls=.type "tuple" ∧o.dict=none) ∨
   (T= "dict" ∧((∃ kvs,H p=some (.dK kvs))∨∃ kvs,H p=some (.dT kvs)))∨(T= "set" ∧∃ S n,H p=some (.set S n))
 | _=>False
theorem ux {pins:List (Addr×Obj)} {σ:St} {H:Hp} {s:Shared} {T:String} {x:V} {v:Value} (I:Inv X pins σ H s) (r:RelV x v) (ty:tyV X.K T x H) :
  s.TypeIs v T∧∀ a,v=.ref a→∃ ob,s.heap.get? a=some ob∧ob.dict=none:=by
 cases x with
 | str z =>
  obtain ⟨t,rfl⟩:=r
  cases (show T= "str" from ty)
  exact ⟨typeIs_str s z t,fun _ e=>nomatch e⟩
 | int i =>
  obtain ⟨t,rfl⟩:=r
  cases (show T= "int" from ty)
  exact ⟨typeIs_int s i t,fun _ e=>nomatch e⟩
 | ref p =>
  cases r
  rcases ty with ⟨rfl,xs,hq⟩ | ⟨rfl,o,hk,hc,hd⟩ | ⟨rfl,hk⟩ | ⟨rfl,S,n,hk⟩
  ·obtain ⟨its,_,pl,_⟩:=I.list hq;refine ⟨pl.isList.typeIs,fun a e=>?_⟩
   cases e
   obtain ⟨o,n,e,c,hd,_⟩:=pl;exact ⟨o,e,hd⟩
  ·refine ⟨⟨o,I.kIn p o hk,hc⟩,fun a e=>?_⟩
   cases e
   exact ⟨o,I.kIn _ o hk,hd⟩
  ·have z:∃ o,s.heap.get? p=some o∧o.ExactDict:=by
    rcases hk with ⟨kvs,hk⟩ | ⟨kvs,hk⟩
    ·obtain ⟨_,_,_,_,o,_,_,e,ex,_⟩:=I.hok p _ hk;exact ⟨o,e,ex⟩
    ·obtain ⟨_,_,_,_,o,_,_,e,ex,_⟩:=I.hok p _ hk;exact ⟨o,e,ex⟩
   obtain ⟨o,e,ex⟩:=z;refine ⟨⟨o,e,ex.1⟩,fun a e2=>?_⟩
   cases e2
   exact ⟨o,e,ex.2.1⟩
  ·obtain ⟨o,_,_,_,e,ex,_⟩:=I.hok p _ hk;refine ⟨⟨o,e,ex.1⟩,fun a e2=>?_⟩
   cases e2
   exact ⟨o,e,ex.2.1⟩
 | _=>exact False.elim ty
def IC (K:W.Frag) (T:String) (r:V→List V→Hp→VK→Prop) (to:TE):TE:=fun σ H Q=>to σ H fun x H1=>tyV K T x H1∧r x [] H1 Q
def tBM (K:W.Frag) (T:String) (r:V→List V→Hp→VK→Prop) (to:TE) (t:TA):TE:=fun σ H Q=>to σ H fun x H1=>tyV K T x H1∧t σ H1 fun xs H2=>r x xs H2 Q
variable {o e:Expr} {es:List Expr} {to:TE} {t:TA} {name:Str} {apos cpos:Pos} {T id:String} {r:V→List V→Hp→VK→Prop}
theorem Bh (pa:PlainAttrs T) (slot:Slot T name id) (hty:typeOf (.builtin id)=pure (.type "method_descriptor")) (hm:MtR X id r) (ho:PE X o to)
  (hbase:attributeBase o name X.env (eval o X.env)=eval o X.env:=by rfl) (hline:(apos.endLine == cpos.line)=true:=by rfl):PE X (.Call (.Attribute o name apos) [] [] cpos) (IC X.K T r to):=by
 intro pins s σ H Q I h;refine wpAny_Call_method0_late hbase hline (thn (ho pins s σ H _ I h) fun v s1 ⟨x,H1,I1,r1,ty,q1⟩=>?_);obtain ⟨h1,h2⟩:=ux I1 r1 ty;exact ⟨T,id,pa,slot,hty,h1,h2,Calls.callWith_builtin rfl (PySem.evalArgs_none (hm pins s1 σ H1 x [] v [] Q I1 r1 .nil q1))⟩
theorem pe_bm (pa:PlainAttrs T) (slot:Slot T name id) (hty:typeOf (.builtin id)=pure (.type "method_descriptor")) (hm:MtR X id r) (ho:PE X o to) (ha:PA X (e :: es) t)
  (hbase:attributeBase o name X.env (eval o X.env)=eval o X.env:=by rfl)
  (hfew:((backTo cpos (starEach (e :: es) X.env)).all (fun x=>!x.1) && (backToKw cpos (keywordEach [] X.env)).all (fun x=>x.1.isSome)
   && decide ((e :: es).length+([]:List Keyword).length+(if ([]:List Keyword).isEmpty then 0 else 1) < 30))=true:=by rfl)
  (hline:(apos.endLine == cpos.line)=true:=by rfl) (hs:starEach (e :: es) X.env=(false,eval e X.env) :: starEach es X.env:=by rfl) (hplain:(backTo cpos (starEach es X.env)).any (·.1)=false:=by rfl) :
  PE X (.Call (.Attribute o name apos) (e :: es) [] cpos) (tBM X.K T r to t):=by
 intro pins s σ H Q I h;refine wpAny_Call_method_late hbase hfew hline rfl (thn (ho pins s σ H _ I h) fun v s1 ⟨x,H1,I1,r1,ty,q1⟩=>?_);obtain ⟨h1,h2⟩:=ux I1 r1 ty;refine ⟨T,id,pa,slot,hty,h1,h2,?_⟩;have hA:=ha cpos pins s1 σ H1 _ I1 q1;rw [hs] at hA ⊢;refine Calls.callWith_builtin (by show (false || (backTo cpos (starEach es X.env)).any (·.1))=false;rw [hplain] <;> rfl) (Calls.evalArgs_plain ?_);exact thn hA fun us s2 ⟨vs,H2,I2,r2,q2⟩=>hm pins s2 σ H2 x vs v us Q I2 r1 r2 q2
end
def MtM (X:Cx) (id:String) (r:V→List V→Hp→VK→Prop):Prop :=
 ∀ (pins:List (Addr×Obj)) (s:Shared) (σ:St) (H:Hp) (x:V) (xs:List V) (v:Value) (us:List Value) (Q:VK),Inv X pins σ H s→RelV x v→Vals xs us→r x xs H Q →
  wpAny (model X.prog X.w) X.A (call (.builtin id) (v :: us)) (EP X pins σ Q) X.xe s
theorem Vals.one:∀ {x:V} {us:List Value},Vals [x] us→∃ u,us=[u]∧RelV x u:=by
 intro x us h
 cases h with
 | cons r t =>
  cases t
  exact ⟨_,rfl,r⟩
theorem Vals.two:∀ {x y:V} {us:List Value},Vals [x,y] us→∃ u v,us=[u,v]∧RelV x u∧RelV y v:=by
 intro x y us h
 cases h with
 | cons r t =>
  cases t with
  | cons q t =>
   cases t
   exact ⟨_,_,rfl,r,q⟩
theorem Vals.zero:∀ {us:List Value},Vals [] us→us=[]
 | _,.nil=>rfl
theorem Vals.reverse {xs:List V} {us:List Value} (h:Vals xs us):Vals xs.reverse us.reverse:=by
 induction h with
 | nil=>exact .nil
 | cons r t ih=>rw [List.reverse_cons,List.reverse_cons];exact Vals.append ih (.cons r .nil)
section
variable {X:Cx} {pins:List (Addr×Obj)} {σ:St} {H:Hp} {s:Shared} {l b:Addr} {xs ys zs:List V}
theorem Inv.lset {its its':List Value} {n:Nat} {f:Array Value→Array Value} {t':Nat} (I:Inv X pins σ H s) (hH:H l=some (.lst xs))
  (e:s.heap.get? l=some { cls:=.type "list",data:=.seq its.toArray n }) (hf:f its.toArray=its'.toArray) (hv:Vals ys its') (hz:ys.length≤sizeLine) :
  Inv X pins σ (upd H l (.lst ys)) { s with heap:=s.heap.update l (Obj.mapSeq f),toks:=t' }:=by
 have q:=PySem.IsL.update e f;rw [hf] at q;refine I.write (x:=l) (e:=l) (by rw [hH];exact trivial) (.inl rfl) (fun b' u hb hu=>(aBb s.heap (Obj.mapSeq f) (Ne.symm hb)).trans hu) ⟨_,q⟩ ?_;exact ⟨hz,its',_,hv,q⟩
theorem Inv.lnew {its:List Value} {t':Nat} (I:Inv X pins σ H s) (hv:Vals ys its) (hz:ys.length≤sizeLine) :
  Inv X pins σ (upd H s.heap.objs.size (.lst ys)) { s with heap:=s.heap.push { cls:=.type "list",data:=.seq its.toArray },toks:=t' } :=
 I.laid (fun _ _ q=>aAb _ q) (aAl _) ⟨hz,its,0,hv,aAq _ rfl⟩
theorem Inv.fresh (I:Inv X pins σ H s):H s.heap.objs.size=none:=I.hok.fresh (aAl _)
theorem Inv.lstM (I:Inv X pins σ H s) (hH:H l=some (.lst xs)):xs.length≤sizeLine∧∃ (its:List Value) (n:Nat),Vals xs its∧xs.length=its.length∧s.heap.get? l=some { cls:=.type "list",data:=.seq its.toArray n }:=by
 obtain ⟨z,its,n,r,e⟩:=I.hok l _ hH;exact ⟨z,its,n,r,r.length,e⟩
end
section
variable {X:Cx}
inductive IApp (x:V) (vs:List V) (H:Hp) (Q:VK):Prop
 | mk (l:Addr) (xs:List V) (y:V):(x=.ref l)→(vs=[y])→(H l=some (.lst xs))→(xs.length < sizeLine)→(Q .non (upd H l (.lst (xs++[y]))))→IApp x vs H Q
def wL:V→List V→Hp→VK→Prop:=fun x vs H Q=>IApp x vs H Q
theorem bU:MtM X "list.append" wL:=by
 intro pins s σ H x vs v us Q I rx rv h;obtain ⟨l,xs,y,rfl,rfl,hH,hz,q⟩:=h
 cases rx
 obtain ⟨u,rfl,ru⟩:=rv.one;obtain ⟨z,its,n,r,hl,e⟩:=I.lstM hH;refine call_meets F.slot_list_append ⟨_,e,rfl⟩ F.entry_list_append (F.args_list_append_2 _ _) (PySem.list_append l its.toArray n u (by rw [aAv];lia)) ⟨e,?_⟩;refine ⟨.non,_,I.lset (its':=its++[u]) hH e (by simp) (r.append (.cons ru .nil)) ?_,rfl,q⟩;rw [aAk,aCh];lia
def uy:V→List V→Hp→VK→Prop:=fun x vs H Q=>∃ l xs,x=.ref l∧vs=[]∧H l=some (.lst xs)∧Q .non (upd H l (.lst xs.reverse))
theorem qc:MtM X "list.reverse" uy:=by
 intro pins s σ H x vs v us Q I rx rv h;obtain ⟨l,xs,rfl,rfl,hH,q⟩:=h
 cases rx
 have hus:=rv.zero;subst hus;obtain ⟨z,its,n,r,hl,e⟩:=I.lstM hH;refine call_meets F.slot_list_reverse ⟨_,e,rfl⟩ F.entry_list_reverse (F.args_list_reverse_1 _) (AutoSeq1.list_reverse_list_0 l its.toArray n (by rw [aAv];lia)) ⟨e,?_⟩;refine ⟨.non,_,I.lset (its':=its.reverse) hH e (by simp) r.reverse ?_,rfl,q⟩;rw [List.length_reverse];lia
end
section
variable {prog:Program} {w:World} {A:Around} {E:Value→Shared→Prop} {s:Shared}
end
section
variable {X:Cx}
end
end L2
namespace Att
open PySem PySem.W PySem.Calls PyProof.Rows
theorem iU {P:Params} {h:Heap}:∀ (ns:List Int) (vs:List Value),WellAll P h vs (ns.map WData.int)→IntsAre vs ns:=by
 intro ns
 induction ns with
 | nil =>
  intro vs w;rw [aBw] at w
  cases w
  exact .nil
 | cons n ns ih =>
  intro vs w;rw [aAt] at w
  cases w with
  | cons a b =>
   cases a
   exact .cons _ _ (ih _ b)
theorem sG {l:OpenLaw} {n:Nat} (hn:l.most=some n) {P:Params} {h:Heap} {args:List WData} {vals:List Value}
  (hpre:l.row.toRowW.claim.pre args=true) (hwl:WellAll P h vals args) :
  ∃ a vs ns,vals=[Value.ref a]∧args=[WData.list (ns.map WData.int)]∧h.get? a=some { cls:=.type "list",data:=.seq vs.toArray }∧IntsAre vs ns∧ns.length≤n:=by
 have hsh:WShape.hasAll [] args [.list .int]=true:=(pre_splitW hpre).1;have hc:l.pre.holds [] { args:=args }=true:=(pre_splitW hpre).2;obtain ⟨d,r,rfl,h1,h2⟩:=hasAllW_cons hsh;obtain rfl:=hasAllW_nil h2;obtain ⟨xs,rfl,h3⟩:=hasW_list h1;obtain ⟨ns,rfl⟩:=items_int h3;have hlen:ns.length≤n:=by
  unfold OpenLaw.pre at hc;have h4:(WTm.not (.lt (.lit (.int (n:Int))) (.len (.arg 0)))).holds [] { args:=[.list (ns.map .int)] }=true:=by
   have h4:=(holds_andW hc).1;rw [hn] at h4;exact h4
  have h5:=condW_of h4 (w_not (w_lt w_lit (w_len_list (w_arg rfl))));rw [aAa] at h5;refine Nat.le_of_not_lt fun q=>?_;have q':(n:Int) < ((ns.length:Nat):Int):=by lia
  first
   | (rw [decide_eq_true q'] at h5;exact absurd h5 (by decide))
   | (simp at h5;lia)
 cases hwl with
 | cons w1 w2 =>
  cases w2
  cases w1 with
  | list ho hall=>exact ⟨_,_,ns,rfl,rfl,ho,iU ns _ hall,hlen⟩
theorem sH (l:OpenLaw) (args:List WData):l.row.toRowW.claim.post args (.bool true) args=true :=
 postW_of (r:=l.row.toRowW) (X:=(true == true))
  (show WShape.has [] (.bool true) .bool=true by first | rfl | decide | simp [WShape.has,WShape.arms,WShape.armsAll])
  (show (WTm.eq .res (.lit (.bool true))).value [] { args:=args,res:=some (.bool true),after:=args }=some (.bool (true == true)) from w_eq_bool (w_res rfl) w_lit) rfl
theorem attach_call {l:OpenLaw} {n:Nat} {q:Program} {loose:List Str} {XP:(Str→Option Value)→Heap→Prop} {YP:World→Heap→Prop} {d:DefRec}
  (hn:l.most=some n) (hdf:d.params.defaults=[])
  (call:∀ (w:World) (s₀ s₁:Shared) (mg mb:Str→Option Value) (fa:Addr) (o:Obj) (pm cd doc:Value) (a:Addr) (vs:List Value) (ns:List Int),
   Ground q loose [] XP w s₀ mg mb s₁.heap→YP w s₁.heap →
   s₁.heap.get? fa=some o→o.data=.func (docDef d.name d.params d.body d.scope pm cd doc)→s₁.heap.CodeRec cd d.name→mg d.name=some (.ref fa) →
   s₁.heap.get? a=some { cls:=.type "list",data:=.seq vs.toArray }→IntsAre vs ns→ns.length≤n→s₁.gens=#[] →
   codeAny (model l.prog w) callerA (.call (.ref fa) ⟨[.ref a],[]⟩) (fun r s'=>r=.ok (.ret (.bool true))∧OldK s₁.heap s'.heap∧s'.os=s₁.os∧AllBare s'.gens) s₁) :
  WalkO q loose XP YP l.row.toRowW d [] (fun f vs=>PySem.call f vs):=by
 intro w s₀ s₁ mg mb G Y fa o pm cd doc dV kV ho hd hcd hD hmg hg args vals as hpre hlay hrd hwl hlo;obtain rfl:dV=.none:=Dflts.none hD hdf;obtain rfl:kV=.none:=Dflts.noKw hD;obtain ⟨a,vs,ns,rfl,rfl,hobj,hints,hlen⟩:=sG hn hpre hwl;refine enter_call (codeAny_mono (call w s₀ s₁ mg mb fa o pm cd doc a vs ns G Y ho (fd_plain hd) hcd hmg hobj hints hlen hg) fun r s' hq=>?_);obtain ⟨rfl,h2,h3,h4⟩:=hq;exact ⟨.inl ⟨.bool true,.bool true,[],rfl,fun _=>rfl,.bool true,sH l _,fun _=>⟨List.Pairwise.nil,fun _ hm=>(nomatch hm)⟩⟩,h2,h3,h4⟩
section
variable {prog:Program} {w:World} {A:Around} {E:Value→Shared→Prop} {s:Shared} {K:Frag}
end
end Att
namespace L2
open PySem PySem.Spec PyProof.Rows
theorem la:∀ {vs:List Value} {ns:List Int},IntsAre vs ns→Vals (ns.map V.int) vs
 | _,_,.nil=>.nil
 | _,_,.cons n t h=>.cons ⟨t,rfl⟩ (la h)
def wM (H:Hp):Prop:=∀ b,H b=none∨∃ o xs,H b=some (.frz o (.lst xs))
theorem uz {P:Program} {w:World} {K:W.Frag} {mg mb:Str→Option Value} {CX:CXT} {k:Nat} {fa a:Addr} {fd:FuncData} {x:Str} {sp:Sp} {s₁:Shared} {vs:List Value} {ns:List Int}
  (KX:K.In s₁.heap) (hns:s₁.heap.Ns mainGlobals mg) (hb:s₁.heap.Ns builtinsNs mb) (hbb:∀ x:Str,x≠ "__name__" →mb x=bootBuiltins x) (hlim:s₁.heap.NoLimit) (hg:s₁.gens=#[])
  (ha:s₁.heap.get? a=some { cls:=.type "list",data:=.seq vs.toArray }) (hi:IntsAre vs ns) (hl:ns.length≤sizeLine) (hr:Room k callerA)
  (F:∀ base:Heap,K.In base→base.Ns mainGlobals mg→FnOk P w K mg base CX k fa fd [x] sp) (hbind:∀ (s:Shared) (u:Value),BindsTo s fd ⟨[u],[]⟩ [(x,u)])
  (hsp:∀ H:Hp,wM H→SqL K H a (ns.map V.int)→sp [.ref a] H (fun v _=>v=.bl true) fun _ _ _=>False)
  (hCX:∀ H e s',CX [] H s₁ (fun _ _ _=>False) e s'→False) :
  codeAny (model P w) callerA (.call (.ref fa) ⟨[.ref a],[]⟩) (fun r s'=>r=.ok (.ret (.bool true))∧OldK s₁.heap s'.heap∧s'.os=s₁.os∧AllBare s'.gens) s₁:=by
 have rv:=la hi;have lenV:=hi.length;have core:∀ H:Hp,wM H→SqL K H a (ns.map V.int)→HOk P w H s₁.heap→(∀ b,H b≠none→b=a)→(H a≠none→K.lookup a=none) →
   codeAny (model P w) callerA (.call (.ref fa) ⟨[.ref a],[]⟩) (fun r s'=>r=.ok (.ret (.bool true))∧OldK s₁.heap s'.heap∧s'.os=s₁.os∧AllBare s'.gens) s₁:=by
  intro H hO hS hok hA hK;have base_of:∀ {b:Addr} {o:Obj},s₁.heap.get? b=some o→H b=none→(lU s₁.heap H).get? b=some o:=fun e n=>ud e n;have noA:∀ {b:Addr} {o:Obj} {es:Array DictEntry} {ep:Nat},s₁.heap.get? b=some o→o.data=.dict es ep→H b=none:=fun {b o es ep} e d=>by
   cases q:H b with
   | none=>rfl
   | some u =>
    have e':b=a:=hA b (by rw [q];simp);subst e';rw [ha] at e;cases e;have d':Data.seq vs.toArray _=Data.dict es ep:=d
    cases d'
  have nsK:∀ {b:Addr} {m:Str→Option Value},s₁.heap.Ns b m→(lU s₁.heap H).Ns b m:=fun {b m} ⟨o,es,ep,e,d,r⟩=>⟨o,es,ep,base_of e (noA e d),d,r⟩;have hKb:K.In (lU s₁.heap H):=fun b o e=>base_of (KX b o e) (by
   cases q:H b with
   | none=>rfl
   | some u =>
    have e':b=a:=hA b (by rw [q];simp);subst e';rw [hK (by rw [q];simp)] at e;cases e)
  have hM:Mod K mg (lU s₁.heap H):=⟨hKb,nsK hns,⟨mb,nsK hb,hbb⟩,let ⟨mc,h1,h2⟩:=hlim;⟨mc,nsK h1,h2⟩⟩;have e0:Env0 P w K mg (lU s₁.heap H) callerA [] s₁ H:=⟨rfl,hM,fun b o e=>wo e,aB3 (sv _ _),trivial,fun b hb=>absurd (show b∈([]:List Addr) from hb) (by simp),hok,.of_eq hg⟩;refine codeAny_mono ((F _ hKb (nsK hns)).run callerA [] s₁ H ⟨[.ref a],[]⟩ [.ref a] [.ref a] _ _ hr e0 (hbind s₁ (.ref a)) (.cons rfl .nil) (hsp H hO hS)) fun r s' h=>?_
  cases r with
  | error e=>exact (hCX H e s' h).elim
  | ok fl =>
   cases fl with
   | next=>exact False.elim h
   | brk=>exact False.elim h
   | cont=>exact False.elim h
   | ret u =>
    obtain ⟨v,H',os,bare,un,hok',r',q⟩:=h;have q':v=.bl true:=q;subst q';obtain rfl:u=Value.bool true:=r';refine ⟨rfl,OldK.of_keep fun b o e=>?_,os,bare⟩
    cases q:H b with
    | none=>exact un.keep b o e q (by intro z;exact absurd (show b∈([]:List Addr) from z) (by simp)) (by simp)
    | some u =>
     rcases hO b with z | ⟨ob,xs,z⟩
     ·rw [q] at z;cases z
     ·have z2:=un.frzs b ob _ z;obtain ⟨e1,_⟩:=hok b _ z;obtain ⟨e2,_⟩:=hok' b _ z2;rw [e] at e1;cases e1;exact e2
 cases hk:K.lookup a with
 | some o =>
  have e:=KX a o hk;rw [ha] at e
  cases e
  refine core (fun _=>none) (fun _=>.inl rfl) (.inr ⟨_,vs.toArray,_,hk,rfl,rfl,rfl,by rw [aAv,lenV];exact hl,by simpa using rv⟩) (fun b u z=>by have z':(none:Option HO)=some u:=z;cases z') (fun b z=>absurd rfl z) fun z=>absurd rfl z
 | none =>
  refine core (fun b=>if b=a then some (.frz { cls:=.type "list",data:=.seq vs.toArray } (.lst (ns.map V.int))) else none) (fun b=>?_) (.inl (.inr ⟨{ cls:=.type "list",data:=.seq vs.toArray },if_pos rfl⟩)) (fun b u z=>?_) (fun b z=>?_) fun _=>hk
  ·by_cases hb:b=a
   ·exact .inr ⟨_,_,if_pos hb⟩
   ·exact .inl (if_neg hb)
  ·by_cases hb:b=a
   ·have z':=(if_pos hb).symm.trans z
    cases z'
    subst hb;exact ⟨ha,by rw [aAa];exact hl,vs,_,rv,ha⟩
   ·have z':=(if_neg hb).symm.trans z
    cases z'
  ·by_cases hb:b=a
   ·exact hb
   ·exact absurd (if_neg hb) z
abbrev KOf {K:W.Frag} {h:Heap} (_:K.In h):W.Frag:=K
theorem wN {l:W.OpenLaw} {n k:Nat} {q:Program} {loose:List Str} {XP:(Str→Option Value)→Heap→Prop} {YP:World→Heap→Prop} {d:DefRec} {K:Params→W.Frag} {CX:World→CXT} {sp:World→Sp} {x:Str}
  (hn:l.most=some n) (hn2:n≤sizeLine) (hdf:d.params.defaults=[]) (hr:Room k callerA)
  (hY:∀ (w:World) (h:Heap),YP w h→(K w.params).In h)
  (F:∀ (w:World) (mg:Str→Option Value) (fa:Addr) (h:Heap),(K w.params).In h→h.Ns mainGlobals mg→mg d.name=some (.ref fa) →
   ∃ fd:FuncData,(∀ (s:Shared) (u:Value),BindsTo s fd ⟨[u],[]⟩ [(x,u)]) ∧
    ∀ base:Heap,(K w.params).In base→base.Ns mainGlobals mg→FnOk l.prog w (K w.params) mg base (CX w) k fa fd [x] (sp w))
  (hsp:∀ (w:World) (H:Hp) (a:Addr) (ns:List Int),ns.length≤n→wM H→SqL (K w.params) H a (ns.map V.int)→sp w [.ref a] H (fun v _=>v=.bl true) fun _ _ _=>False)
  (hCX:∀ (w:World) (H:Hp) (s:Shared) (e:Value) (s':Shared),CX w [] H s (fun _ _ _=>False) e s'→False) :
  W.WalkO q loose XP YP l.row.toRowW d [] (fun f vs=>PySem.call f vs):=by
 refine Att.attach_call hn hdf fun w s₀ s₁ mg mb fa o pm cd doc a vs ns G Y ho hd hcd hmg hobj hints hlen hg=>?_;have KX:=hY w _ Y;obtain ⟨fd,hb,hF⟩:=F w mg fa _ KX G.T.g hmg;exact uz KX G.T.g G.T.b G.T.builtins G.T.nolimit hg hobj hints (aAA hlen hn2) hr hF hb (fun H hO hS=>hsp w H a ns hlen hO hS) fun H e s'=>hCX w H s₁ e s'
theorem G8 {l:W.OpenLaw} {n k:Nat} {q:Program} {loose:List Str} {XP:(Str→Option Value)→Heap→Prop} {YP:World→Heap→Prop} {d:DefRec} {K:Params→W.Frag} {CX:CXT} {sp:W.Frag→Sp} {x:Str}
  (hn:l.most=some n) (hn2:n≤sizeLine) (hdf:d.params.defaults=[]) (hr:Room k callerA)
  (hY:∀ (w:World) (h:Heap),YP w h→(K w.params).In h)
  (F:∀ (w:World) (mg:Str→Option Value) (fa:Addr) (h:Heap),(K w.params).In h→h.Ns mainGlobals mg→mg d.name=some (.ref fa) →
   ∃ fd:FuncData,(∀ (s:Shared) (u:Value),BindsTo s fd ⟨[u],[]⟩ [(x,u)]) ∧
    ∀ base:Heap,(K w.params).In base→base.Ns mainGlobals mg→FnOk l.prog w (K w.params) mg base CX k fa fd [x] (sp (K w.params)))
  (hsp:∀ (K:W.Frag) (H:Hp) (a:Addr) (ns:List Int),ns.length≤n→wM H→SqL K H a (ns.map V.int)→sp K [.ref a] H (fun v _=>v=.bl true) fun _ _ _=>False)
  (hCX:∀ (H:Hp) (s:Shared) (e:Value) (s':Shared),CX [] H s (fun _ _ _=>False) e s'→False) :
  W.WalkO q loose XP YP l.row.toRowW d [] (fun f vs=>PySem.call f vs) :=
 wN (K:=K) (CX:=fun _=>CX) (sp:=fun w=>sp (K w.params)) hn hn2 hdf hr hY F (fun w H a ns h1 h2 h3=>hsp (K w.params) H a ns h1 h2 h3) fun _ H s e s'=>hCX H s e s'
end L2
namespace L2
open PySem PySem.Spec PyProof.Rows
abbrev CX0:CXT:=fun _ _ _ _ _ _=>False
abbrev E0:XK:=fun _ _ _=>False
theorem iL {X:Cx}:et CX0 X E0:=fun _ _ _ _ _ _ _ h=>h.elim
structure Fun (K:W.Frag) (x qual:Str) (st:Stmt) (f:Addr) (fd:FuncData):Prop where
 ex:∃ (oc:Value) (od:Option Addr) (kV doc pm:Value) (an:Option Addr) (cdv ct:Value) (osl:Array (Option Value)),
  fd=W.fnOf x qual (bG st) (bi st) (ai st) .none kV doc pm an cdv ct∧K.lookup f=some ⟨oc,od,.func fd,osl⟩∧W.codeIn K cdv qual=true
 kp:W.keepIn K (.ref f)=true
section
variable {P:Program} {w:World} {K:W.Frag} {mg:Str→Option Value} {base:Heap}
theorem Fun.ok {x qual:Str} {st:Stmt} {f:Addr} {fd:FuncData} {N ps:List Str} {k:Nat} {sp:Sp} (F:Fun K x qual st f fd) (S:FnScope N ps (ai st)) (len:∀ vs H Q E,sp vs H Q E→vs.length=ps.length)
  (hbody:∀ (cdv:Value) (A:Around) (outer:List Env) (s:Shared) (H:Hp) (vs:List V) (Q:VK) (E:XK),Room k (A.deeper (envOfC qual (ai st) s.heap.objs.size f cdv))→sp vs H Q E →
   ∃ t,PSs (nv CX0 P w K mg base N qual (ai st) f cdv A outer s H E).nox (bi st) t∧t { nx:=fun _ H'=>Q .non H',rt:=Q } (gx N vs) H):FnOk P w K mg base CX0 (k+1) f fd ps sp:=by
 obtain ⟨oc,od,kV,doc,pm,an,cdv,ct,osl,rfl,lk,hcd⟩:=F.ex;refine xZ lk hcd S len fun A outer s H vs Q E hr hsp=>?_;obtain ⟨t,h,q⟩:=hbody cdv A outer s H vs Q E hr hsp;exact ⟨t,h.nox,q⟩
theorem Fun.binds {x qual:Str} {st:Stmt} {f:Addr} {fd:FuncData} {ps:List Str} (F:Fun K x qual st f fd)
  (h:∀ (kV doc pm:Value) (an:Option Addr) (cdv ct:Value) (us:List Value),us.length=ps.length→bindArgs (W.fnOf x qual (bG st) (bi st) (ai st) .none kV doc pm an cdv ct) ⟨us,[]⟩=pure (ps.zip us)):Binds K fd ps []:=by
 obtain ⟨oc,od,kV,doc,pm,an,cdv,ct,osl,rfl,lk,hcd⟩:=F.ex;exact .all (h kV doc pm an cdv ct)
theorem hV {x qual:Str} {st:Stmt} {f:Addr} {oc:Value} {od an:Option Addr} {osl:Array (Option Value)} {kV doc pm cdv ct:Value} (l:K.lookup f=some ⟨oc,od,.func (W.fnOf x qual (bG st) (bi st) (ai st) .none kV doc pm an cdv ct),osl⟩)
  (c:W.codeIn K cdv qual=true) (k:W.keepIn K (.ref f)=true):Fun K x qual st f (W.fnOf x qual (bG st) (bi st) (ai st) .none kV doc pm an cdv ct):=⟨⟨oc,od,kV,doc,pm,an,cdv,ct,osl,rfl,l,c⟩,k⟩
end
theorem ak {n:Nat} (h:n≤1000):n < sizeLine:=aBp h (by decide)
section
variable {X:Cx}
theorem pv (i:Nat) {x:Str} {pos:Pos} (hN:X.N[i]?=some x:=by rfl) (hv:Vis X.env.scope x:=by first | exact Or.inl rfl | exact Or.inr (Or.inl rfl) | exact Or.inr (Or.inr rfl)) (hd:(x == ("__debug__" : Str))=false:=by decide)
  (hcd:(x == ("__classdict__" : Str))=false:=by decide):PE X (.Name x pos) (sw i):=A6 hN hv hd hcd
end
theorem aH {A B:Prop} (h:B):if false=true then A else B:=by
 rw [if_neg aAw];exact h
theorem aL {A B:Prop} (h:A):if true=true then A else B:=by
 rw [if_pos rfl];exact h
theorem aK {c A B:Prop} [Decidable c] (h1:c→A) (h2:¬ c→B):if c then A else B:=by
 by_cases h:c
 ·rw [if_pos h];exact h1 h
 ·rw [if_neg h];exact h2 h
def Same (H H':Hp):Prop:=∀ b o,H b=some o→H' b=some o
theorem Same.refl (H:Hp):Same H H:=fun _ _ h=>h
theorem Same.trans {H H1 H2:Hp} (a:Same H H1) (b:Same H1 H2):Same H H2:=fun c o h=>b c o (a c o h)
theorem Same.free {H H':Hp} (e:Same H H') {l:Addr} (h:H' l=Option.none):H l=Option.none:=by
 cases q:H l with
 | none=>rfl
 | some o =>
  rw [e l o q] at h
  cases h
theorem Same.seq {K:W.Frag} {H H':Hp} {a:Addr} {xs:List V} (e:Same H H') (h:SqL K H a xs):SqL K H' a xs:=by
 rcases h with (h | ⟨o,h⟩) | h
 ·exact .inl (.inl (e _ _ h))
 ·exact .inl (.inr ⟨o,e _ _ h⟩)
 ·exact .inr h
def cQ (env:Env):List (Str×NameKind)→List (Str×Addr)→List (Str×Addr)
 | [],cs=>cs
 | (n,k) :: r,cs=>cQ env r (if k == .free then (n,(env.cells.lookup n).getD 0) :: cs else cs)
theorem jt {env:Env} {scope:Scope} (h:∀ x∈scope.names,x.2=.free→∃ c,env.cells.lookup x.1=some c):closureFor scope env=pure (cQ env scope.names []):=by
 simp only [closureFor];have go:∀ (l:List (Str×NameKind)) (cs:List (Str×Addr)),(∀ x∈l,x.2=.free→∃ c,env.cells.lookup x.1=some c) →
   (forIn l cs fun (x:Str×NameKind) (r:List (Str×Addr))=>(do
    let (name,kind):=x
    if kind == .free then
     let a ← cellOf env name
     pure (ForInStep.yield ((name,a) :: r))
    else pure (ForInStep.yield r):Sem (ForInStep (List (Str×Addr)))))=pure (cQ env l cs):=by
  intro l
  induction l with
  | nil=>intro cs _;rfl
  | cons x r ih =>
   intro cs hx;obtain ⟨n,k⟩:=x;rw [aAV]
   by_cases hk:k=.free
   ·obtain ⟨c,hc⟩:=hx (n,k) aAd hk;subst hk;have e:cellOf env n=pure c:=by unfold cellOf;rw [hc]
    simp only [beq_self_eq_true,if_true,e,pure_bind];rw [ih _ fun y hy=>hx y (aAi _ hy)];simp only [cQ,beq_self_eq_true,if_true,hc,Option.getD_some]
   ·have hb:(k == NameKind.free)=false:=by simpa using hk
    simp only [hb,aAH,if_false,pure_bind];rw [ih _ fun y hy=>hx y (aAi _ hy)];simp only [cQ,hb,aAH,if_false]
 have g:=go scope.names [] h
 first
  | exact (by rw [g]:_=_)
  | (rw [← bind_pure (pure (cQ env scope.names []))];rw [← g];rfl)
  | (simp only [g,pure_bind])
theorem hZ {env:Env}:∀ (l:List (Str×NameKind)) (cs:List (Str×Addr)),(∀ x∈l,x.2=.free→∃ c,env.cells.lookup x.1=some c)→(∀ x c,cs.lookup x=some c→env.cells.lookup x=some c) →
  ∀ x c,(cQ env l cs).lookup x=some c→env.cells.lookup x=some c
 | [],_,_,h=>h
 | (n,k) :: r,cs,hx,h=>by
  refine hZ r _ (fun y hy=>hx y (aAi _ hy)) ?_;intro x c e
  by_cases hk:k=.free
  ·obtain ⟨c',hc⟩:=hx (n,k) aAd hk;subst hk;simp only [beq_self_eq_true,if_true,hc,Option.getD_some] at e;rw [aAR] at e
   cases q:x == n with
   | true =>
    rw [q] at e;have q':x=n:=by simpa using q
    cases e
    rw [q'];exact hc
   | false=>rw [q] at e;exact h x c e
  ·have hb:(k == NameKind.free)=false:=by simpa using hk
   simp only [hb,aAH,if_false] at e;exact h x c e
theorem iM {env:Env}:∀ (l:List (Str×NameKind)) (cs:List (Str×Addr)) (x:Str),(∃ c,cs.lookup x=some c)→∃ c,(cQ env l cs).lookup x=some c
 | [],_,_,h=>h
 | (n,k) :: r,cs,x,h=>by
  refine iM r _ x ?_
  split
  ·rw [aAR]
   cases q:x == n with
   | true=>exact ⟨_,rfl⟩
   | false=>exact h
  ·exact h
theorem fq {env:Env}:∀ (l:List (Str×NameKind)) (cs:List (Str×Addr)) (x:Str),l.lookup x=some .free→∃ c,(cQ env l cs).lookup x=some c
 | [],_,_,h=>by simp at h
 | (n,k) :: r,cs,x,h=>by
  rw [aAR] at h
  cases q:x == n with
  | true =>
   rw [q] at h
   cases h
   refine iM r _ x ?_;simp only [beq_self_eq_true,if_true];rw [aAR,q];exact ⟨_,rfl⟩
  | false=>rw [q] at h;exact fq r _ x h
theorem dC {env:Env}:∀ {names:List (Str×NameKind)} {x:Str} {k':NameKind},
  (names.map fun (n,k)=>if (k == NameKind.free && env.scope.kind == .function && env.kindOf n == some .cell) then (n,NameKind.cell) else (n,k)).lookup x=some k' →
  ∃ k,names.lookup x=some k∧(k'=k∨(k=.free∧k'=.cell))
 | [],_,_,h=>by simp at h
 | (n,k) :: r,x,k',h=>by
  have ih:=@dC env r x k';rw [aAt] at h
  by_cases hc:(k == NameKind.free && env.scope.kind == .function && env.kindOf n == some .cell)=true
  ·have h2:List.lookup x ((n,NameKind.cell) :: r.map fun (n,k)=>if (k == NameKind.free && env.scope.kind == .function && env.kindOf n == some .cell) then (n,NameKind.cell) else (n,k))=some k':=by
    simpa [hc] using h
   rw [aAR] at h2;rw [aAR]
   cases q:x == n with
   | true =>
    rw [q] at h2
    cases h2
    have hk:k=.free:=by
     simp only [aAs] at hc
     simpa using hc.1.1
    exact ⟨k,rfl,.inr ⟨hk,rfl⟩⟩
   | false=>rw [q] at h2;exact ih h2
  ·have h2:List.lookup x ((n,k) :: r.map fun (n,k)=>if (k == NameKind.free && env.scope.kind == .function && env.kindOf n == some .cell) then (n,NameKind.cell) else (n,k))=some k':=by
    simpa [hc] using h
   rw [aAR] at h2;rw [aAR]
   cases q:x == n with
   | true=>rw [q] at h2;cases h2;exact ⟨_,rfl,.inl rfl⟩
   | false=>rw [q] at h2;exact ih h2
def ccx (X:Cx) (scope:Scope) (C:Addr) (N':List Str) (s₀:Shared) (H₀:Hp) (fp:List Addr):Cx :=
 { X with N:=N',s₀:=s₀,H₀:=H₀,env:=compEnvC scope (cQ X.env scope.names []) C X.env,outer:=X.stack,stack:=X.stack,ex:=fp,fn:=fun _=>false,pn:=[],xe:=fun _ _=>False }
def cst (k:Nat) (ρ:List Nat) (σ:St):St:=List.replicate k none++ρ.map fun j=>(σ[j]?).join
structure CScope (X:Cx) (scope:Scope) (NL:List Str) (ρ:List Nat) (N':List Str):Prop where
 kind:scope.kind=.function
 nocell:∀ x∈scope.names,x.2≠.cell
 locs:∀ x∈scope.names,x.2=.local→scope.names.lookup x.1=some .local
 frees:∀ x∈scope.names,x.2=.free→X.env.kindOf x.1=some .cell∨X.env.kindOf x.1=some .free
 names:N'=NL++ρ.map fun j=>X.N.getD j ""
 outs:∀ j∈ρ,∃ x,X.N[j]?=some x∧scope.names.lookup x=some .free∧(X.env.scope.names.lookup x=some .cell∨X.env.scope.names.lookup x=some .free)
section
variable {X:Cx}
theorem wO {scope:Scope} {NL N':List Str} {ρ:List Nat} (S:CScope X scope NL ρ N') {pins:List (Addr×Obj)} {σ:St} {H:Hp} {s:Shared} {fp:List Addr} {C:Addr} (I:Inv X pins σ H s) (hf:∀ b∈fp,fG X pins H b)
  (hfo:∀ b∈fp,∃ o,s.heap.get? b=some o) (hC:s.heap.objs.size≤C):(ccx X scope C N' s H fp).Ok:=by
 have free_in:∀ x∈scope.names,x.2=.free→∃ c,X.env.cells.lookup x.1=some c:=fun x hx hk=>I.ok.has x.1 (S.frees x hx hk);have sub:=hZ (env:=X.env) scope.names [] free_in (fun x c e=>by simp at e);refine ⟨I.ok.mod,S.kind,I.ok.glob,I.ok.blt,hC,?_,?_,?_,I.ok.hd,I.ok.frames,.inl rfl,?_,I.bs,?_,?_,?_,I.stack,I.stkFree⟩
 ·exact fun x y c e1 e2=>I.ok.inj x y c (sub x c e1) (sub y c e2)
 ·intro x hx;have hx':(relabel scope X.env).names.lookup x=some .cell∨(relabel scope X.env).names.lookup x=some .free:=hx;have look:∀ k',(relabel scope X.env).names.lookup x=some k'→(k'=.cell∨k'=.free)→scope.names.lookup x=some .free:=fun k' e hk=>by
   obtain ⟨k,e1,z⟩:=dC e;rcases z with z | ⟨z,_⟩
   ·subst z;rcases hk with z | z
    ·subst z;have hm:(x,NameKind.cell)∈scope.names:=mem_of_lookup e1;exact absurd rfl (S.nocell _ hm)
    ·subst z;exact e1
   ·subst z;exact e1
  rcases hx' with e | e
  ·exact fq scope.names [] x (look _ e (.inl rfl))
  ·exact fq scope.names [] x (look _ e (.inr rfl))
 ·intro x c e;exact absurd e (by show ¬ (false=true);decide)
 ·intro b hb;obtain ⟨f0,f1,f2,f3,f4,f5⟩:=hf b hb;refine ⟨?_,fun x c e=>f4 x c (sub x c e)⟩;obtain ⟨o,ho⟩:=hfo b hb;exact aAy (aAj (aAf ho) hC)
 ·exact aAA I.ok.bsz I.sz
 ·intro b o e hb;obtain ⟨f0,f1,f2,f3,f4,f5⟩:=hf b hb;rcases f3 with z | z
  ·exact I.ok.noex b o e z
  ·exact absurd (aAj (aAf e) (aAA I.ok.bsz z)) (aAN _)
 ·intro b hb z;obtain ⟨f0,f1,f2,f3,f4,f5⟩:=hf b hb;rcases aAp.mp (I.stkSub b z) with e | e
  ·exact f1 e
  ·exact f2 e
end
section
variable {X:Cx}
theorem Inv.comp {scope:Scope} {NL N':List Str} {ρ:List Nat} (S:CScope X scope NL ρ N') {pins:List (Addr×Obj)} {σ:St} {H:Hp} {s:Shared} {fp:List Addr} {C D:Addr} {h':Heap} {t':Nat} (I:Inv X pins σ H s) (hf:∀ b∈fp,fG X pins H b)
  (hfo:∀ b∈fp,∃ o,s.heap.get? b=some o) (hC:s.heap.objs.size≤C) (hD:s.heap.objs.size≤D) (hDC:D≠C) (k:∀ b u,s.heap.get? b=some u→h'.get? b=some u)
  (hd:h'.get? D=some { cls:=.type "list",data:=.seq #[] 0 }) (hn:h'.Ns C fun _=>none) :
  Inv (ccx X scope C N' s H fp) (X.pn++pins) (cst NL.length ρ σ) (upd H D (.lst [])) { s with heap:=h',toks:=t' }:=by
 have ok:=wO S I hf hfo hC;have free_in:∀ x∈scope.names,x.2=.free→∃ c,X.env.cells.lookup x.1=some c:=fun x hx hk=>I.ok.has x.1 (S.frees x hx hk);have sub:=hZ (env:=X.env) scope.names [] free_in (fun x c e=>by simp at e);have fresh:∀ b,s.heap.objs.size≤b→H b=none:=fun b hb=>I.hok.fresh hb;have neD:∀ b o,s.heap.get? b=some o→b≠D:=fun b o e=>aAy (aAj (aAf e) hD);have neH:∀ b u,H b=some u→b≠D:=fun b u e=>ah e (fresh D hD);refine ⟨ok,rfl,I.bare,⟨fun b o e _ _ _=>k b o e,fun b o e _ _ _=>⟨o.slots,k b o e⟩,fun b o e n _=>?_,fun b o e _=>⟨o,k b o e⟩,fun b xs e=>?_,fun b o u e=>?_,fun b ps e=>⟨#[],?_⟩⟩,⟨_,hn,?_⟩,?_,?_,?_,?_,?_,?_⟩
 ·show upd H D _ b=none;rw [ag (neD b o e)];exact n
 ·show upd H D _ b=_;rw [ag (neH b _ e)];exact e
 ·show upd H D _ b=_;rw [ag (neH b _ e)];exact e
 ·show upd H D _ b=_;rw [ag (neH b _ e)];have e':H b=some (.tbl ps):=e;rw [e'];simp
 ·-- the names around
  intro i x v e1 e2 hv;obtain ⟨m,hm,hl⟩:=I.loc;have eN:(NL++ρ.map fun j=>X.N.getD j "")[i]?=some x:=by
   have e1':N'[i]?=some x:=e1;rw [S.names] at e1';exact e1'
  have eσ:(List.replicate NL.length (none:Option V)++ρ.map fun j=>(σ[j]?).join)[i]?=some (some v):=e2
  by_cases hi:i < NL.length
  ·rw [aBi (by simpa using hi)] at eσ;rw [aCa] at eσ
   split at eσ <;> cases eσ
  ·have hi':NL.length≤i:=Nat.le_of_not_lt hi;rw [aA4 (by simpa using hi'),aAP,aAg] at eσ;rw [aA4 hi',aAg] at eN
   cases q:ρ[i - NL.length]? with
   | none=>rw [q] at eN;cases eN
   | some j =>
    rw [q] at eN eσ;obtain ⟨y,ey,f1,f2⟩:=S.outs j (aAn q);have exy:X.N.getD j "" = y:=by rw [aAB,ey];rfl
    have exx:X.N.getD j "" = x:=Option.some.inj eN;have xy:x=y:=exx.symm.trans exy;subst xy;have eσ':(σ[j]?).join=some v:=Option.some.inj eσ;have eσ2:σ[j]?=some (some v):=by
     cases z:σ[j]? with
     | none=>rw [z] at eσ';cases eσ'
     | some w=>rw [z] at eσ';exact congrArg some eσ'
    have vis:Vis X.env.scope x:=by
     rcases f2 with z | z
     ·exact .inr (.inl z)
     ·exact .inr (.inr z)
    obtain ⟨u,r,l⟩:=hl j x v ey eσ2 vis;refine ⟨u,r,?_⟩;obtain ⟨c,hc⟩:=fq (env:=X.env) scope.names [] x f1;rcases l with ⟨kl,_⟩ | ⟨_,c',hc',z⟩
    ·have kl':X.env.scope.names.lookup x=some .local:=kl;rcases f2 with z | z
     ·rw [z] at kl';cases kl'
     ·rw [z] at kl';cases kl'
    ·have e3:=sub x c hc;rw [hc'] at e3;obtain rfl:=Option.some.inj e3;obtain ⟨oc,hoc,hcd⟩:=z;have hv':(relabel scope X.env).names.lookup x=some .local∨(relabel scope X.env).names.lookup x=some .cell∨(relabel scope X.env).names.lookup x=some .free:=hv;refine .inr ⟨?_,c',hc,oc,k _ _ hoc,hcd⟩;rcases hv' with z | z | z
     ·obtain ⟨k0,e4,z2⟩:=dC z;rw [f1] at e4
      cases e4
      rcases z2 with z2 | ⟨_,z2⟩ <;> cases z2
     ·exact .inl z
     ·exact .inr z
 ·intro x c e;obtain ⟨v,oc,hoc,hcd⟩:=I.cell x c (sub x c e);exact ⟨v,oc,k _ _ hoc,hcd⟩
 ·show upd H D _ C=none;rw [ag (Ne.symm hDC)];exact fresh C hC
 ·intro x c e;obtain ⟨v,oc,hoc,hcd⟩:=I.cell x c (sub x c e);rw [ag (neD c oc hoc)];exact I.freeC x c (sub x c e)
 ·intro p hp;have hp':p∈X.pn++pins:=hp;obtain ⟨e,n,ne,nf,d⟩:=I.pin p hp';refine ⟨k _ _ e,?_,?_,?_,d⟩
  ·rw [ag (neD p.1 p.2 e)];exact n
  ·exact aAy (aAj (aAf e) hC)
  ·intro z;rcases aAp.mp (I.stkSub p.1 z) with q | q
   ·exact ne q
   ·exact nf q
 ·exact I.hok.laid k hD ⟨aAx _,[],0,.nil,hd⟩
 ·show (List.replicate NL.length (none:Option V)++ρ.map fun j=>(σ[j]?).join).length=N'.length;rw [S.names];simp
theorem Inv.compEnd {scope:Scope} {N':List Str} {pins:List (Addr×Obj)} {σ σ':St} {H H':Hp} {s s':Shared} {fp:List Addr} {C:Addr} {h':Heap} {pins':List (Addr×Obj)} (I:Inv X pins σ H s) (hf:∀ b∈fp,fG X pins H b) (hC:s.heap.objs.size≤C)
  (J:Inv (ccx X scope C N' s H fp) pins' σ' H' s') (hs:Heap.SameBut C s'.heap h'):Inv X pins σ H' { s' with heap:=h' }:=by
 have hn:H' C=none:=J.free;have nC:∀ b o,s.heap.get? b=some o→b≠C:=fun b o e=>aAy (aAj (aAf e) hC);have B:Un (frs X.stack) fp H H' s.heap s'.heap:=J.base;have U:Un (frs X.stack) fp H H' s.heap h':=⟨fun b o e n hb hx=>(hs.2 b (nC b o e)).trans (B.keep b o e n hb hx),fun b o e n hb hx=>by
   obtain ⟨sl,q⟩:=B.slot b o e n hb hx;exact ⟨sl,(hs.2 b (nC b o e)).trans q⟩,B.free,fun b o e hx=>by
   obtain ⟨o',q⟩:=B.there b o e hx;exact ⟨o',(hs.2 b (nC b o e)).trans q⟩,B.tups,B.frzs,B.tbls⟩
 have hok:HOk X.prog X.w H' h':=fun b u e=>by
  refine (J.hok b u e).stay (fun c v hc q=>(hs.2 c ?_).trans q) (fun _ q=>q) fun _ _ q=>q;rintro rfl;rcases hc with rfl | hc
  ·rw [hn] at e;cases e
  ·rw [hn] at hc;cases hc
 refine Inv.call' (s':={ s' with heap:=h' }) I J.os U hok J.bare fun b hb=>?_;obtain ⟨f0,f1,f2,f3,f4,f5⟩:=hf b hb;exact ⟨f3,f1,f4,f5⟩
def nE (k:Nat) (ρ:List Nat) (wi:TI) (g:TG) (tb:List V→Addr→St→Hp→(List V→St→Hp→Prop)→Prop):TE:=fun σ H Q =>
 wi σ H fun J H1=>∀ l,H1 l=none→∃ W:Nat→Nat→List V→St→Hp→Prop,(∃ m,W 0 m [] (cst k ρ σ) (upd H1 l (.lst []))) ∧
  ∀ i m ys σ' H',W i m ys σ' H'→(J.stop i H'∧Q (.ref l) H')∨(J.go i H'∧∀ x H'',J.yld i H' x H''→g x σ' H'' fun σ2 H2=>tb ys l σ2 H2 fun ys' σ3 H3=>∃ m',m' < m∧W (i+1) m' ys' σ3 H3)
def cEl (te:TE):List V→Addr→St→Hp→(List V→St→Hp→Prop)→Prop:=fun ys l σ H N=>te σ H fun y H1=>H1 l=some (.lst ys)∧ys.length < sizeLine∧N (ys++[y]) σ (upd H1 l (.lst (ys++[y])))
def cIf (tc:TT) (te:TE):List V→Addr→St→Hp→(List V→St→Hp→Prop)→Prop:=fun ys l σ H N=>tc σ H fun b H1=>if b=true then cEl te ys l σ H1 N else N ys σ H1
def PB (X:Cx) (body:Value→Sem Unit) (tb:List V→Addr→St→Hp→(List V→St→Hp→Prop)→Prop):Prop :=
 ∀ (pins:List (Addr×Obj)) (s:Shared) (σ:St) (H:Hp) (l:Addr) (ys:List V) (N:List V→St→Hp→Prop),Inv X pins σ H s→tb ys l σ H N →
  wpAny (model X.prog X.w) X.A (body (.ref l)) (fun _ s'=>∃ ys' σ' H',Inv X pins σ' H' s'∧N ys' σ' H') X.xe s
theorem uA {elt:Expr} {te:TE} (he:PE X elt te):PB X (fun acc=>do let x ← eval elt X.env;let _ ← call (.builtin "list.append") [acc,x];pure ()) (cEl te):=by
 intro pins s σ H l ys N I h;refine wpAny_bind (thn (he pins s σ H _ I h) fun u s1 ⟨y,H1,I1,r1,q0,q1,q2⟩=>wpAny_bind ?_);refine thn (bU pins s1 σ H1 (.ref l) [y] (.ref l) [u] (fun v H'=>v=.non∧N (ys++[y]) σ H') I1 rfl (.cons r1 .nil) ⟨l,ys,y,rfl,rfl,q0,q1,rfl,q2⟩) fun _ s2 ⟨v,H2,I2,_,_,n2⟩=>wpAny_pure ⟨_,σ,H2,I2,n2⟩
theorem G9 {c elt:Expr} {tc:TT} {te:TE} (hc:PT X c tc) (he:PE X elt te):PB X (fun acc=>do
  let b ← isTrue c X.env (eval c X.env)
  if b then (do let x ← eval elt X.env;let _ ← call (.builtin "list.append") [acc,x];pure ()) else pure ()) (cIf tc te):=by
 intro pins s σ H l ys N I h;refine wpAny_bind (thn (hc pins s σ H _ I h) fun b s1 ⟨H1,I1,q1⟩=>?_)
 cases b with
 | true=>exact uA he pins s1 σ H1 l ys N I1 q1
 | false=>exact wpAny_pure ⟨ys,σ,H1,I1,q1⟩
theorem nF (elt target iter:Expr) (scope:Scope) (pos:Pos) (it acc:Value) (env:Env) :
  compTurn (.ListComp elt [⟨target,iter,[],0⟩] scope pos) 0 it acc env=(standAt iter.pos >>= fun _=>pyNext it >>= fun r=>match r with
   | none=>pure (.done .next)
   | some v=>letOwnedTupleGo target it v >>= fun _=>assign target env v >>= fun _ =>
    (do let x ← eval elt env;let _ ← call (.builtin "list.append") [acc,x];pure ():Sem Unit) >>= fun _=>again (.compLoop (.ListComp elt [⟨target,iter,[],0⟩] scope pos) 0 it acc env)):=by rfl
theorem uB (elt target iter c:Expr) (scope:Scope) (pos:Pos) (it acc:Value) (env:Env) :
  compTurn (.ListComp elt [⟨target,iter,[c],0⟩] scope pos) 0 it acc env=(standAt iter.pos >>= fun _=>pyNext it >>= fun r=>match r with
   | none=>pure (.done .next)
   | some v=>letOwnedTupleGo target it v >>= fun _=>assign target env v >>= fun _ =>
    (do
     let b ← isTrue c env (eval c env)
     if b then (do let x ← eval elt env;let _ ← call (.builtin "list.append") [acc,x];pure ()) else pure ():Sem Unit) >>= fun _=>again (.compLoop (.ListComp elt [⟨target,iter,[c],0⟩] scope pos) 0 it acc env)):=by
 rw [compTurn_list]
 congr 1
 funext _
 congr 1
 funext r
 cases r with
 | none=>rfl
 | some v =>
  refine congrArg (letOwnedTupleGo target it v >>= ·) (funext fun _=>?_);refine congrArg (assign target env v >>= ·) (funext fun _=>?_);dsimp only;rw [aAV];simp only [if_true,bind_assoc,pure_bind,aBr];refine congrArg (PySem.isTrue c env (eval c env) >>= ·) (funext fun b=>?_)
  cases b
  ·simp
  ·simp
end
section
variable {X:Cx}
theorem nI {elt tgt iter:Expr} {ifs:List Expr} {scope:Scope} {pos:Pos} {NL N':List Str} {ρ:List Nat} {wi:TI} {g:TG} {tb:List V→Addr→St→Hp→(List V→St→Hp→Prop)→Prop} {body:Value→Env→Sem Unit}
  (hc:X.calm=true) (S:CScope X scope NL ρ N') (hi:PI X tgt iter wi)
  (hg:∀ C s₀ H₀ fp,PG (ccx X scope C N' s₀ H₀ fp) tgt g) (hb:∀ C s₀ H₀ fp,PB (ccx X scope C N' s₀ H₀ fp) (fun acc=>body acc (ccx X scope C N' s₀ H₀ fp).env) tb)
  (he:∀ (it acc:Value) (env:Env),compTurn (.ListComp elt [⟨tgt,iter,ifs,0⟩] scope pos) 0 it acc env=(standAt iter.pos >>= fun _=>pyNext it >>= fun r=>match r with
   | none=>pure (.done .next)
   | some v=>letOwnedTupleGo tgt it v >>= fun _=>assign tgt env v >>= fun _=>body acc env >>= fun _=>again (.compLoop (.ListComp elt [⟨tgt,iter,ifs,0⟩] scope pos) 0 it acc env)))
  (hs:∀ x,foldedSetIterable iter X.env x=pure x:=by intro _;rfl):PE X (.ListComp elt [⟨tgt,iter,ifs,0⟩] scope pos) (nE NL.length ρ wi g tb):=by
 intro pins s σ H Q I h;have free_in:∀ x∈scope.names,x.2=.free→∃ c,X.env.cells.lookup x.1=some c:=fun x hx hk=>I.ok.has x.1 (S.frees x hx hk);rw [eval_ListComp];refine wpAny_comprehension_free (use:=none) rfl hs (jt free_in) S.kind S.locs ?_;refine thn (hi pins s σ H _ I h) fun v s1 h1=>thn h1 fun itv s2 h2=>?_;obtain ⟨it,fp,tn,J,H2,e,I2,T,st2,f2,w⟩:=h2;subst e;refine wpAny_newObj_type (wpAny_newFunctionEnv S.nocell (by intro y hy;simp at hy) (fun h₁ hns₁ hsb₁=>?_) S.kind);dsimp only at hns₁ hsb₁ ⊢
 generalize hH2:s2.heap.push { cls:=.type "list",dict:=none,data:=.seq ([]:List Value).toArray }=h2' at hns₁ hsb₁ ⊢
 have hCs:h2'.objs.size=s2.heap.objs.size+1:=by rw [← hH2,aAT]
 have hDC:s2.heap.objs.size≠h2'.objs.size:=by rw [hCs];exact aAy (aA5 _)
 have hC:s2.heap.objs.size≤h2'.objs.size:=by rw [hCs];exact aBC _
 have old:∀ b o,s2.heap.get? b=some o→h₁.get? b=some o:=fun b o e=>hsb₁.extBut b o (aAy (aAj (aAf e) hC)) (aAb _ (hH2 ▸ aAb _ e));have hd:h₁.get? s2.heap.objs.size=some { cls:=.type "list",data:=.seq #[] 0 }:=hsb₁.extBut _ _ hDC (aAb _ (hH2 ▸ aAq _ rfl));have hfo:∀ b∈fp,∃ o,s2.heap.get? b=some o:=fun b hb=>let ⟨o,e,_⟩:=T.obj _ _ st2 b hb;⟨o,e⟩;have I4:Inv (ccx X scope h2'.objs.size N' s2 H2 fp) (X.pn++pins) (cst NL.length ρ σ) (upd H2 s2.heap.objs.size (.lst [])) { s2 with heap:=h₁,toks:=s2.toks+([]:List (Str×Value)).length } :=
  Inv.comp S I2 f2 hfo hC (aAl _) hDC old hd (by simpa using hns₁)
 have hD0:H2 s2.heap.objs.size=none:=I2.hok.fresh (aAl _);have nfp:s2.heap.objs.size∉fp:=fun z=>by
  obtain ⟨o,e⟩:=hfo _ z;exact absurd (aAf e) (aAN _)
 obtain ⟨W,⟨m0,w0⟩,turn⟩:=w s2.heap.objs.size hD0;have stat:∀ {H':Hp},(∀ b∈fp,H' b=none)→∀ b∈fp,fG (ccx X scope h2'.objs.size N' s2 H2 fp) (X.pn++pins) H' b:=fun {H'} hn b hb=>by
  obtain ⟨f0,f1,f2',f3,f4,f5⟩:=f2 b hb;have ok:=I4.ok;refine ⟨hn b hb,(ok.exf b hb).1,ok.exfs b hb,.inl hb,(ok.exf b hb).2,fun p hp=>f5 p hp⟩
 have loop:∀ s₃:Shared,s₃={ s2 with heap:=h₁,toks:=s2.toks+([]:List (Str×Value)).length } →
   codeAny (model X.prog X.w) X.A (.compLoop (.ListComp elt [⟨tgt,iter,ifs,0⟩] scope pos) 0 (.ref it) (.ref s2.heap.objs.size) (compEnvC scope (cQ X.env scope.names []) h2'.objs.size X.env))
    (compPost (model X.prog X.w) X.A X.xe none (EP X pins σ Q) (.ref s2.heap.objs.size) h2'.objs.size) s₃:=by
  rintro s₃ rfl;refine codeAny_loop rfl (fun n s'=>∃ i ys σ' H',Inv (ccx X scope h2'.objs.size N' s2 H2 fp) (X.pn++pins) σ' H' s'∧tn i s'.heap∧(∀ b∈fp,H' b=none)∧W i n ys σ' H') (fun n s3 hI=>?_) m0
   ⟨0,[],_,_,I4,T.keep _ _ _ st2 (fun b _ o e=>old b o e),fun b hb=>?_,w0⟩
  ·obtain ⟨i,ys,σ3,H3,I3,st3,fr3,w3⟩:=hI;show wpAny _ _ ((compTurn (.ListComp elt [⟨tgt,iter,ifs,0⟩] scope pos) 0 (.ref it) (.ref s2.heap.objs.size) (compEnvC scope (cQ X.env scope.names []) h2'.objs.size X.env)).onRaise (fun x=>do noteFrame x _;theTreesLotGoes x)) _ _ s3;refine wpAny_noted ?_;rw [he];refine wpAny_bind (wpAny_standAt (wpAny_bind ?_));rcases turn i n ys σ3 H3 w3 with ⟨stop,qn⟩ | ⟨go,step⟩
   ·refine thn (T.done (ccx X scope h2'.objs.size N' s2 H2 fp) rfl rfl rfl hc i _ s3 σ3 H3 _ I3 (stat fr3) st3 stop) fun r s4 ⟨hr,I5⟩=>?_;subst hr;refine wpAny_pure ?_;obtain ⟨m,hm,_⟩:=id I5.loc;exact ⟨m,hm,fun h' hs'=>⟨.ref s2.heap.objs.size,H3,Inv.compEnd I2 f2 hC I5 hs',rfl,qn⟩⟩
   ·refine thn (T.item (ccx X scope h2'.objs.size N' s2 H2 fp) rfl rfl rfl hc i _ s3 σ3 H3 _ I3 (stat fr3) st3 go) fun r s4 ⟨u,hr,h4⟩=>?_;subst hr;refine wpAny_bind (thn h4 fun _ s5 ⟨x,H5,I5,r5,y5,st5,fr5⟩=>?_);have I5':=I5.pinned (stat fr5) (T.obj _ _ st5);refine wpAny_bind (wpAny_mono (hg h2'.objs.size s2 H2 fp _ s5 σ3 H5 x u _ I5' r5 (step x H5 y5)) (fun _ s6 ⟨σ6,H6,I6,q6⟩=>?_) fun _ _ z=>z.elim);refine wpAny_bind (wpAny_mono (hb h2'.objs.size s2 H2 fp _ s6 σ6 H6 s2.heap.objs.size ys _ I6 q6) (fun _ s7 ⟨ys7,σ7,H7,I7,m',hm,w7⟩=>?_) fun _ _ z=>z.elim);refine wpAny_pure ⟨rfl,m',hm,i+1,ys7,σ7,H7,I7.unpinned,T.keep _ _ _ st5 fun b hb o e=>(I7.pin (b,o) (aAG _ (aAG _ (bT hb e)))).1,fun b hb=>?_,w7⟩;obtain ⟨o,e,d⟩:=T.obj _ _ st5 b hb;exact (I7.pin (b,o) (aAG _ (aAG _ (bT hb e)))).2.1
  ·rw [ag (show b≠s2.heap.objs.size from fun z=>nfp (by rw [← z];exact hb))];exact (f2 b hb).1
 refine codeAny_compStart_list (loop _ rfl) (T.self _ 0 _ _ _ ?_ (loop _ rfl));exact T.keep _ _ _ st2 fun b _ o e=>old b o e
theorem pe_comp {elt tgt iter:Expr} {scope:Scope} {pos:Pos} {NL N':List Str} {ρ:List Nat} {wi:TI} {g:TG} {te:TE} (hc:X.calm=true) (S:CScope X scope NL ρ N') (hi:PI X tgt iter wi)
  (hg:∀ C s₀ H₀ fp,PG (ccx X scope C N' s₀ H₀ fp) tgt g) (he:∀ C s₀ H₀ fp,PE (ccx X scope C N' s₀ H₀ fp) elt te)
  (hs:∀ x,foldedSetIterable iter X.env x=pure x:=by intro _;rfl):PE X (.ListComp elt [⟨tgt,iter,[],0⟩] scope pos) (nE NL.length ρ wi g (cEl te)) :=
 nI (body:=fun acc env=>do let x ← eval elt env;let _ ← call (.builtin "list.append") [acc,x];pure ()) hc S hi hg (fun C s₀ H₀ fp=>uA (he C s₀ H₀ fp)) (fun it acc env=>nF elt tgt iter scope pos it acc env) hs
theorem sI {elt tgt iter c:Expr} {scope:Scope} {pos:Pos} {NL N':List Str} {ρ:List Nat} {wi:TI} {g:TG} {tc:TT} {te:TE} (hc:X.calm=true) (S:CScope X scope NL ρ N') (hi:PI X tgt iter wi)
  (hg:∀ C s₀ H₀ fp,PG (ccx X scope C N' s₀ H₀ fp) tgt g) (ht:∀ C s₀ H₀ fp,PT (ccx X scope C N' s₀ H₀ fp) c tc) (he:∀ C s₀ H₀ fp,PE (ccx X scope C N' s₀ H₀ fp) elt te)
  (hs:∀ x,foldedSetIterable iter X.env x=pure x:=by intro _;rfl):PE X (.ListComp elt [⟨tgt,iter,[c],0⟩] scope pos) (nE NL.length ρ wi g (cIf tc te)) :=
 nI (body:=fun acc env=>do
  let b ← PySem.isTrue c env (eval c env)
  if b then (do let x ← eval elt env;let _ ← call (.builtin "list.append") [acc,x];pure ()) else pure ()) hc S hi hg (fun C s₀ H₀ fp=>G9 (ht C s₀ H₀ fp) (he C s₀ H₀ fp)) (fun it acc env=>uB elt tgt iter c scope pos it acc env) hs
end
section
variable {X:Cx}
inductive IsiB (K:W.Frag) (H:Hp):V→String→Bool→Prop
 | int_int {i}:IsiB K H (.int i) "int" true
 | int_str {i}:IsiB K H (.int i) "str" false
 | int_bool {i}:IsiB K H (.int i) "bool" false
 | int_tuple {i}:IsiB K H (.int i) "tuple" false
 | int_list {i}:IsiB K H (.int i) "list" false
 | str_int {x}:IsiB K H (.str x) "int" false
 | str_str {x}:IsiB K H (.str x) "str" true
 | str_bool {x}:IsiB K H (.str x) "bool" false
 | str_tuple {x}:IsiB K H (.str x) "tuple" false
 | str_list {x}:IsiB K H (.str x) "list" false
 | bl_int {b}:IsiB K H (.bl b) "int" true
 | bl_bool {b}:IsiB K H (.bl b) "bool" true
 | bl_str {b}:IsiB K H (.bl b) "str" false
 | bl_tuple {b}:IsiB K H (.bl b) "tuple" false
 | tup_int {a xs}:SqT K H a xs→IsiB K H (.ref a) "int" false
 | tup_str {a xs}:SqT K H a xs→IsiB K H (.ref a) "str" false
 | tup_bool {a xs}:SqT K H a xs→IsiB K H (.ref a) "bool" false
 | tup_tuple {a xs}:SqT K H a xs→IsiB K H (.ref a) "tuple" true
 | tup_list {a xs}:SqT K H a xs→IsiB K H (.ref a) "list" false
 | lst_int {a xs}:SqL K H a xs→IsiB K H (.ref a) "int" false
 | lst_str {a xs}:SqL K H a xs→IsiB K H (.ref a) "str" false
 | lst_tuple {a xs}:SqL K H a xs→IsiB K H (.ref a) "tuple" false
 | lst_list {a xs}:SqL K H a xs→IsiB K H (.ref a) "list" true
theorem eB (a b:String) (h:isSubtype (.type a) (.type b)=pure false:=by rw [isSubtype_type];kernel_rfl):isSubtype (.type a) (.type b)=pure false:=h
theorem sJ (a b:String) (h:isSubtype (.type a) (.type b)=pure true:=by rw [isSubtype_type];kernel_rfl):isSubtype (.type a) (.type b)=pure true:=h
theorem sK:isSubtype (.type "int") (.type "str")=pure false:=eB _ _
theorem qe:isSubtype (.type "int") (.type "bool")=pure false:=eB _ _
theorem nJ:isSubtype (.type "int") (.type "tuple")=pure false:=eB _ _
theorem qf:isSubtype (.type "int") (.type "list")=pure false:=eB _ _
theorem sL:isSubtype (.type "str") (.type "int")=pure false:=eB _ _
theorem qg:isSubtype (.type "str") (.type "bool")=pure false:=eB _ _
theorem nK:isSubtype (.type "str") (.type "tuple")=pure false:=eB _ _
theorem qh:isSubtype (.type "str") (.type "list")=pure false:=eB _ _
theorem qi:isSubtype (.type "bool") (.type "str")=pure false:=eB _ _
theorem l7:isSubtype (.type "bool") (.type "tuple")=pure false:=eB _ _
theorem nL:isSubtype (.type "tuple") (.type "int")=pure false:=eB _ _
theorem nM:isSubtype (.type "tuple") (.type "str")=pure false:=eB _ _
theorem l9:isSubtype (.type "tuple") (.type "bool")=pure false:=eB _ _
theorem md:isSubtype (.type "tuple") (.type "list")=pure false:=eB _ _
theorem qj:isSubtype (.type "list") (.type "int")=pure false:=eB _ _
theorem qk:isSubtype (.type "list") (.type "str")=pure false:=eB _ _
theorem mf:isSubtype (.type "list") (.type "tuple")=pure false:=eB _ _
theorem Ha:isSubtype (.type "int") (.type "int")=pure true:=sJ _ _
theorem Hb:isSubtype (.type "str") (.type "str")=pure true:=sJ _ _
theorem Bi:isSubtype (.type "bool") (.type "bool")=pure true:=sJ _ _
theorem ql:isSubtype (.type "bool") (.type "int")=pure true:=sJ _ _
theorem wP:isSubtype (.type "tuple") (.type "tuple")=pure true:=sJ _ _
theorem Bj:isSubtype (.type "list") (.type "list")=pure true:=sJ _ _
theorem nN:typeOf (.type "int")=pure (.type "type"):=by kernel_rfl
theorem nO:typeOf (.type "str")=pure (.type "type"):=by kernel_rfl
theorem mh:typeOf (.type "bool")=pure (.type "type"):=by kernel_rfl
theorem gA:typeOf (.type "tuple")=pure (.type "type"):=by kernel_rfl
theorem mi:typeOf (.type "list")=pure (.type "type"):=by kernel_rfl
theorem uC:aO X (.builtin "isinstance") (fun xs H Q=>∃ x T b,xs=[x,.ty T]∧IsiB X.K H x T b∧Q (.bl b) H):=by
 intro pins s σ H xs us Q I r h;obtain ⟨x,T,b,rfl,hb,q⟩:=h;obtain ⟨u,w',rfl,rx,rT⟩:=kW r
 cases rT
 have fin:∀ t,EP X pins σ Q (.bool b) { s with toks:=t }:=fun t=>⟨.bl b,H,I.tok t,rfl,q⟩;have fin0:EP X pins σ Q (.bool b) s:=⟨.bl b,H,I,rfl,q⟩;have tup:∀ {a xs},SqT X.K H a xs→∃ o,s.heap.get? a=some o∧o.cls=.type "tuple" :=fun hq=>by
  obtain ⟨its,_,p,_⟩:=I.tuple hq;obtain ⟨o,e,c,_⟩:=p;exact ⟨o,e,c⟩
 have lst:∀ {a xs},SqL X.K H a xs→∃ o,s.heap.get? a=some o∧o.cls=.type "list" :=fun hq=>by
  obtain ⟨its,_,p,_⟩:=I.list hq;obtain ⟨o,e,c,_⟩:=p.isList;exact ⟨o,e,c⟩
 cases hb with
 | int_int=>obtain ⟨t,rfl⟩:=rx;exact call_isinstance (isinstance_true (Tx:= "int") nN Ha) ⟨rfl,fin0⟩
 | int_str=>obtain ⟨t,rfl⟩:=rx;exact call_isinstance (isinstance_false_int (by decide) nO sK) (fin _)
 | int_bool=>obtain ⟨t,rfl⟩:=rx;exact call_isinstance (isinstance_false_int (by decide) mh qe) (fin _)
 | int_tuple=>obtain ⟨t,rfl⟩:=rx;exact call_isinstance (isinstance_false_int (by decide) gA nJ) (fin _)
 | int_list=>obtain ⟨t,rfl⟩:=rx;exact call_isinstance (isinstance_false_int (by decide) mi qf) (fin _)
 | str_int=>obtain ⟨t,rfl⟩:=rx;exact call_isinstance (isinstance_false_str (by decide) nN sL) (fin _)
 | str_str=>obtain ⟨t,rfl⟩:=rx;exact call_isinstance (isinstance_true (Tx:= "str") nO Hb) ⟨rfl,fin0⟩
 | str_bool=>obtain ⟨t,rfl⟩:=rx;exact call_isinstance (isinstance_false_str (by decide) mh qg) (fin _)
 | str_tuple=>obtain ⟨t,rfl⟩:=rx;exact call_isinstance (isinstance_false_str (by decide) gA nK) (fin _)
 | str_list=>obtain ⟨t,rfl⟩:=rx;exact call_isinstance (isinstance_false_str (by decide) mi qh) (fin _)
 | bl_int=>cases rx;exact call_isinstance (isinstance_true (Tx:= "bool") nN ql) ⟨rfl,fin0⟩
 | bl_bool=>cases rx;exact call_isinstance (isinstance_true (Tx:= "bool") mh Bi) ⟨rfl,fin0⟩
 | bl_str=>cases rx;exact call_isinstance (isinstance_false_bool (by decide) nO qi) (fin _)
 | bl_tuple=>cases rx;exact call_isinstance (isinstance_false_bool (by decide) gA l7) (fin _)
 | tup_int hq=>cases rx;exact call_isinstance (isinstance_false_tuple (by decide) nN nL) ⟨tup hq,fin _⟩
 | tup_str hq=>cases rx;exact call_isinstance (isinstance_false_tuple (by decide) nO nM) ⟨tup hq,fin _⟩
 | tup_bool hq=>cases rx;exact call_isinstance (isinstance_false_tuple (by decide) mh l9) ⟨tup hq,fin _⟩
 | tup_tuple hq=>cases rx;exact call_isinstance (isinstance_true (Tx:= "tuple") gA wP) ⟨tup hq,fin0⟩
 | tup_list hq=>cases rx;exact call_isinstance (isinstance_false_tuple (by decide) mi md) ⟨tup hq,fin _⟩
 | lst_int hq=>cases rx;exact call_isinstance (isinstance_false_list (by decide) nN qj) ⟨lst hq,fin _⟩
 | lst_str hq=>cases rx;exact call_isinstance (isinstance_false_list (by decide) nO qk) ⟨lst hq,fin _⟩
 | lst_tuple hq=>cases rx;exact call_isinstance (isinstance_false_list (by decide) gA mf) ⟨lst hq,fin _⟩
 | lst_list hq=>cases rx;exact call_isinstance (isinstance_true (Tx:= "list") mi Bj) ⟨lst hq,fin0⟩
def Its (z:Str):It:=⟨fun i _=>i < z.cps.size,fun i H x H'=>H'=H∧∃ c,z.cps[i]?=some c∧x=.str ⟨#[c]⟩,fun i _=>i=z.cps.size⟩
def ID (te:TE):TI:=fun σ H R=>te σ H fun x H1=>∃ z,x=.str z∧R (Its z) H1
theorem nP {P:Program} {w:World} {K:W.Frag} {tg:Expr} (T:String) (it:Addr) (z:Str) (t:Tok)
  (W:∀ A:Around,A.handled=none→Walks P w A it [it] [it] z.cps.size (SignAt z) (fun i h=>h.IsStrIter it T z t i))
  (hT:["enumerate","zip","dict_itemiterator","dict_reverseitemiterator","odict_iterator","itertools.zip_longest","itertools.pairwise"].contains T=false)
  (hs:∀ (A:Around) (i:Nat) (s:Shared) (Q:Value→Shared→Prop) (E:Value→Shared→Prop),s.heap.IsStrIter it T z t i→Q (.ref it) s→wpAny (model P w) A (pyIter (.ref it)) Q E s) :
  Turn P w K tg (Its z) [it] it (fun i h=>h.IsStrIter it T z t i) where
 mem:=by simp
 obj:=fun i h st b hb=>by
  have e:b=it:=by simpa using hb
  subst e;obtain ⟨o,e,c,d⟩:=st;exact ⟨o,e,fun v z=>by rw [d] at z;cases z⟩
 keep:=fun i h h' st k=>by
  obtain ⟨o,e,c,d⟩:=st;exact ⟨o,k it (by simp) o e,c,d⟩
 item:=by
  intro X hP hw hK hc i pins s σ H E I hf st hg;subst hP hw hK;obtain ⟨f0,f1,f2,f3,f4,f5⟩:=hf it (by simp);refine (W X.A (I.ok.hd hc)).item i s _ _ hg st fun v h' tk hv st' kk=>?_;obtain ⟨c,u,hcz,rfl⟩:=hv;have I1:Inv X pins σ H { s with heap:=h',toks:=tk }:=I.turned (fun b o hb e=>kk b o (by simpa using hb) e) f0 f1 f3 f4 f5;obtain ⟨o,e,cl,d⟩:=id st';exact ⟨_,rfl,nl (s:={ s with heap:=h',toks:=tk }) e cl d hT ⟨.str ⟨#[c]⟩,H,I1,⟨u,rfl⟩,⟨rfl,c,hcz,rfl⟩,st',fun b hb=>(hf b hb).1⟩⟩
 done:=by
  intro X hP hw hK hc i pins s σ H E I hf st hg;subst hP hw hK;obtain ⟨f0,f1,f2,f3,f4,f5⟩:=hf it (by simp);have hi:i=z.cps.size:=hg;subst hi;exact (W X.A (I.ok.hd hc)).done s _ _ st fun h' tk kk=>⟨rfl,I.turned (fun b o hb e=>kk b o (by simpa using hb) e) f0 f1 f3 f4 f5⟩
 self:=hs
theorem qm {tg l:Expr} {tl:TE} (hl:PE X l tl):PI X tg l (ID tl):=by
 intro pins s σ H R I h;refine thn (hl pins s σ H _ I h) fun v s1 ⟨x,H1,I1,r1,q1⟩=>?_;obtain ⟨z,rfl,q⟩:=q1;obtain ⟨t,rfl⟩:=r1;have fp:∀ (o:Obj),∀ b∈[s1.heap.objs.size],fG X pins H1 b:=fun o b hb=>by
  have e:b=s1.heap.objs.size:=by simpa using hb
  subst e;exact I1.fpOk (aAl _) (I1.hok.fresh (aAl _))
 cases ha:z.cps.all (· < 128)
 ·refine wpAny_pyIter_wide ha ?_;exact ⟨s1.heap.objs.size,[s1.heap.objs.size],_,_,H1,rfl,I1.kept (t':=s1.toks) fun b o e=>aAb _ e,
   nP "str_iterator" _ z t (fun A hA=>Walks.strWide hA _ z t) (by decide) (fun _ _ _ _ _ st h=>wpAny_pyIter_striter_wide st h),⟨_,aAq _ rfl,rfl,rfl⟩,fp default,q⟩
 ·refine wpAny_pyIter_ascii ha ?_;exact ⟨s1.heap.objs.size,[s1.heap.objs.size],_,_,H1,rfl,I1.kept (t':=s1.toks) fun b o e=>aAb _ e,
   nP "str_ascii_iterator" _ z t (fun A hA=>Walks.strAscii hA _ z t) (by decide) (fun _ _ _ _ _ st h=>wpAny_pyIter_striter_ascii st h),⟨_,aAq _ rfl,rfl,rfl⟩,fp default,q⟩
def bls:List Bool→List V:=List.map V.bl
theorem uD:aO X (.builtin "all") (fun xs H Q=>∃ p ys,xs=[.ref p]∧X.calm=true∧SqL X.K H p (bls ys)∧Q (.bl (ys.all id)) H):=by
 intro pins s σ H xs us Q I r h;obtain ⟨p,ys,rfl,hcm,hq,q⟩:=h;obtain ⟨u,rfl,rx⟩:=cP r
 cases rx
 obtain ⟨its,r',pl,hz⟩:=I.list hq;have hh:X.A.in1.handled=none:=I.ok.hd hcm;have hne:p≠s.heap.objs.size:=by
  obtain ⟨o,e,_⟩:=pl.isList;exact aAy (aAf e)
 have hlen:its.length=ys.length:=by rw [← r'.length];simp [bls]
 refine call_all_walk (wpAny_pyIter_list pl.isList ⟨s.heap.objs.size,_,_,_,_,_,fun i=>ys.getD i true,rfl,Walks.list hh _ p hne its.toArray,⟨⟨_,aAq _ rfl,rfl,rfl⟩,pl.isList.at fun o e=>aAb _ e⟩,?_,?_⟩)
 ·intro i v s' Q' E' hv hQ;have hv':its[i]?=some v:=by simpa using hv
  have hi:i < ys.length:=by
   rw [← hlen];exact (aAc.mp hv').1
  have e1:(bls ys)[i]?=some (V.bl ys[i]):=by simp [bls,hi]
  obtain ⟨u,hu,ru⟩:=r'.get e1;rw [hv'] at hu;obtain rfl:=Option.some.inj hu
  cases ru
  refine wpAny_truthy_bool ?_;have e2:ys.getD i true=ys[i]:=by simp [aAB,hi]
  have hQ':Q' (ys.getD i true) s':=hQ;rw [e2] at hQ';exact hQ'
 ·intro h' tk kk;have e3:(List.range its.toArray.size).all (fun i=>ys.getD i true)=ys.all id:=by
   rw [aAv,hlen];rw [aAX,aAC,aAC]
   constructor
   ·intro g x hx;obtain ⟨i,hi,rfl⟩:=aBG.mp hx;have:=g i (aBy.mpr hi)
    simpa [aAB,hi] using this
   ·intro g i hi;have hi':=aBy.mp hi;have:=g ys[i] (aBt hi')
    simpa [aAB,hi'] using this
  rw [e3];refine ⟨.bl _,H,?_,rfl,q⟩;have I1:Inv X pins σ H { s with heap:=s.heap.push { cls:=.type "list_iterator",data:=.fields #[.ref p,.int 0 0] } }:=I.kept (t':=s.toks) fun b o e=>aAb _ e;exact I.kept (t':=tk) fun b o e=>kk b o (by
   intro z;have z':b=s.heap.objs.size:=by simpa using z
   exact absurd (aAf e) (by rw [z'];exact aAN _)) (aAb _ e)
end
section
variable {X:Cx}
theorem uE:aO X (.builtin "any") (fun xs H Q=>∃ p ys,xs=[.ref p]∧X.calm=true∧SqL X.K H p (bls ys)∧Q (.bl (ys.any id)) H):=by
 intro pins s σ H xs us Q I r h;obtain ⟨p,ys,rfl,hcm,hq,q⟩:=h;obtain ⟨u,rfl,rx⟩:=cP r
 cases rx
 obtain ⟨its,r',pl,hz⟩:=I.list hq;have hh:X.A.in1.handled=none:=I.ok.hd hcm;have hne:p≠s.heap.objs.size:=by
  obtain ⟨o,e,_⟩:=pl.isList;exact aAy (aAf e)
 have hlen:its.length=ys.length:=by rw [← r'.length];simp [bls]
 refine call_any_walk (wpAny_pyIter_list pl.isList ⟨s.heap.objs.size,_,_,_,_,_,fun i=>ys.getD i false,rfl,Walks.list hh _ p hne its.toArray,⟨⟨_,aAq _ rfl,rfl,rfl⟩,pl.isList.at fun o e=>aAb _ e⟩,?_,?_⟩)
 ·intro i v s' Q' E' hv hQ;have hv':its[i]?=some v:=by simpa using hv
  have hi:i < ys.length:=by
   rw [← hlen];exact (aAc.mp hv').1
  have e1:(bls ys)[i]?=some (V.bl ys[i]):=by simp [bls,hi]
  obtain ⟨u,hu,ru⟩:=r'.get e1;rw [hv'] at hu;obtain rfl:=Option.some.inj hu
  cases ru
  refine wpAny_truthy_bool ?_;have e2:ys.getD i false=ys[i]:=by simp [aAB,hi]
  have hQ':Q' (ys.getD i false) s':=hQ;rw [e2] at hQ';exact hQ'
 ·intro h' tk kk;have e3:(List.range its.toArray.size).any (fun i=>ys.getD i false)=ys.any id:=by
   rw [aAv,hlen];rw [aAX,aB4,aB4]
   constructor
   ·rintro ⟨i,hi,g⟩;have hi':=aBy.mp hi;exact ⟨ys[i],aBt hi',by simpa [aAB,hi'] using g⟩
   ·rintro ⟨x,hx,g⟩;obtain ⟨i,hi,rfl⟩:=aBG.mp hx;exact ⟨i,aBy.mpr hi,by simpa [aAB,hi] using g⟩
  rw [e3];refine ⟨.bl _,H,?_,rfl,q⟩;have I1:Inv X pins σ H { s with heap:=s.heap.push { cls:=.type "list_iterator",data:=.fields #[.ref p,.int 0 0] } }:=I.kept (t':=s.toks) fun b o e=>aAb _ e;exact I.kept (t':=tk) fun b o e=>kk b o (by
   intro z;have z':b=s.heap.objs.size:=by simpa using z
   exact absurd (aAf e) (by rw [z'];exact aAN _)) (aAb _ e)
theorem iN (ns:List Int):∀ n,n≤ns.length→preSum (fun i=>ns.getD i 0) n=(ns.take n).sum
 | 0,_=>by simp [preSum]
 | n+1,h=>by
  have hn:n < ns.length:=h;rw [preSum,iN ns n (aAY hn),aAD,List.sum_append];simp [aAB,hn]
theorem uF:aO X (.builtin "sum") (fun xs H Q=>∃ (p:Addr) (ns:List Int),xs=[.ref p]∧X.calm=true∧SqL X.K H p (ns.map V.int)∧Q (.int ns.sum) H):=by
 intro pins s σ H xs us Q I r h;obtain ⟨p,ns,rfl,hcm,hq,q⟩:=h;obtain ⟨u,rfl,rx⟩:=cP r
 cases rx
 obtain ⟨its,r',pl,hz⟩:=I.list hq;have hh:X.A.in1.handled=none:=I.ok.hd hcm;have hlt:p < s.heap.objs.size:=by
  obtain ⟨o,e,_⟩:=pl.isList;exact aAf e
 have hne:p≠s.heap.objs.size:=aAy hlt;have hlen:its.length=ns.length:=by rw [← r'.length];simp
 refine call_sum_walkG (wpAny_pyIter_list pl.isList ⟨s.heap.objs.size,_,_,_,_,_,fun i=>ns.getD i 0,rfl,Walks.list hh _ p hne its.toArray,⟨⟨_,aAq _ rfl,rfl,rfl⟩,pl.isList.at fun o e=>aAb _ e⟩,?_,?_,?_⟩)
 ·intro b hb;have hb':b=s.heap.objs.size∨b=p:=by simpa using hb
  show b < (s.heap.push _).objs.size;rw [aAT];rcases hb' with e | e
  ·exact e ▸ aA5 _
  ·exact aBX (e ▸ hlt)
 ·intro i v hv;have hv':its[i]?=some v:=by simpa using hv
  have hi:i < ns.length:=by
   rw [← hlen];exact (aAc.mp hv').1
  have e1:(ns.map V.int)[i]?=some (V.int ns[i]):=by simp [hi]
  obtain ⟨u,hu,ru⟩:=r'.get e1;rw [hv'] at hu;obtain rfl:=Option.some.inj hu;obtain ⟨t,rfl⟩:=ru;exact ⟨t,by simp [aAB,hi]⟩
 ·intro h' tk t' kk;have e3:preSum (fun i=>ns.getD i 0) its.toArray.size=ns.sum:=by
   rw [aAv,hlen,iN ns _ (aAl _),aAW]
  rw [e3];refine ⟨.int _,H,?_,⟨_,rfl⟩,q⟩;exact I.kept (t':=tk) fun b o e=>kk b o (by
   intro z;have z':b=s.heap.objs.size:=by simpa using z
   exact absurd (aAf e) (by rw [z'];exact aAN _)) (aAb _ e)
def IE:V→Option Int→Option Int→Hp→VK→Prop:=fun x lo hi H Q=>∃ z,x=.str z∧z.length≤sizeLine∧Q (.str (Txt.slice z lo hi)) H
theorem sl_str:SlR X IE:=by
 intro pins s σ H x v vl vu lo hi sl Q I rx hs pl pu h;obtain ⟨z,rfl,hz,q⟩:=h;obtain ⟨t,rfl⟩:=rx;refine ⟨"str",_,F.slot_str_getitem.lookup,typeIs_str _ _ _,?_⟩;have fin:∀ t' k,EP X pins σ Q (.str (Txt.slice z lo hi) t') { s with toks:=k }:=fun t' k=>⟨.str _,H,I.tok k,⟨t',rfl⟩,q⟩
 cases pl with
 | none =>
  cases pu with
  | none=>exact wpAny_getItem_str_slice (l:=none) (u:=none) (st:=none) hs rfl (post_val_or_str ⟨aAA (Txt.slice_le z _ _) hz,fun t' k=>fin t' k⟩)
  | int j uj=>exact wpAny_getItem_str_slice (l:=none) (u:=some (j,uj)) (st:=none) hs rfl (post_val_or_str ⟨aAA (Txt.slice_le z _ _) hz,fun t' k=>fin t' k⟩)
 | int i ui =>
  cases pu with
  | none=>exact wpAny_getItem_str_slice (l:=some (i,ui)) (u:=none) (st:=none) hs rfl (post_val_or_str ⟨aAA (Txt.slice_le z _ _) hz,fun t' k=>fin t' k⟩)
  | int j uj=>exact wpAny_getItem_str_slice (l:=some (i,ui)) (u:=some (j,uj)) (st:=none) hs rfl (post_val_or_str ⟨aAA (Txt.slice_le z _ _) hz,fun t' k=>fin t' k⟩)
end
theorem aj {H:Hp} {p:Addr} (h:H p=none) (o:HO):Same H (upd H p o):=fun b u q=>by rw [ag (ah q h)];exact q
def But (r:Addr) (H H':Hp):Prop:=∀ b o,b≠r→H b=some o→H' b=some o
theorem But.refl (r:Addr) (H:Hp):But r H H:=fun _ _ _ h=>h
theorem But.trans {r:Addr} {H H1 H2:Hp} (a:But r H H1) (b:But r H1 H2):But r H H2:=fun c o n h=>b c o n (a c o n h)
theorem But.same {r:Addr} {H H1:Hp} (a:Same H H1):But r H H1:=fun c o _ h=>a c o h
theorem But.put {r:Addr} {H:Hp} {o:HO}:But r H (upd H r o):=fun c u n h=>by rw [ag n];exact h
theorem But.seq {K:W.Frag} {r:Addr} {H H':Hp} {a:Addr} {xs:List V} (e:But r H H') (n:a≠r) (h:SqL K H a xs):SqL K H' a xs:=by
 rcases h with (h | ⟨o,h⟩) | h
 ·exact .inl (.inl (e _ _ n h))
 ·exact .inl (.inr ⟨o,e _ _ n h⟩)
 ·exact .inr h
theorem But.tup {K:W.Frag} {r:Addr} {H H':Hp} {a:Addr} {xs:List V} (e:But r H H') (n:a≠r) (h:SqT K H a xs):SqT K H' a xs:=by
 rcases h with (h | ⟨o,h⟩) | h
 ·exact .inl (.inl (e _ _ n h))
 ·exact .inl (.inr ⟨o,e _ _ n h⟩)
 ·exact .inr h
theorem Same.tup {K:W.Frag} {H H':Hp} {a:Addr} {xs:List V} (e:Same H H') (h:SqT K H a xs):SqT K H' a xs:=by
 rcases h with (h | ⟨o,h⟩) | h
 ·exact .inl (.inl (e _ _ h))
 ·exact .inl (.inr ⟨o,e _ _ h⟩)
 ·exact .inr h
theorem cs0 {X:Cx} {scope:Scope} {NL:List Str} (h1:scope.kind=.function) (h2:(scope.names.all fun x=>x.2 != .cell && x.2 != .free)=true)
  (h3:∀ x∈scope.names,x.2=.local→scope.names.lookup x.1=some .local):CScope X scope NL [] NL:=by
 rw [aAC] at h2;refine ⟨h1,fun x hx e=>?_,h3,fun x hx e=>?_,by simp,fun j hj=>by simp at hj⟩
 ·have:=h2 x hx;rw [e] at this;exact absurd this (by decide)
 ·have:=h2 x hx;rw [e] at this;exact absurd this (by decide)
theorem nQ {z:Str} {l:Addr} {g:TG} {tb:List V→Addr→St→Hp→(List V→St→Hp→Prop)→Prop} {Q:VK} {σ0:St} {H0:Hp} (Pv:Nat→List V→St→Hp→Prop) (h0:Pv 0 [] σ0 H0)
  (hs:∀ i c ys σ H (N:List V→St→Hp→Prop),z.cps[i]?=some c→Pv i ys σ H→(∀ ys' σ' H',Pv (i+1) ys' σ' H'→N ys' σ' H')→g (.str ⟨#[c]⟩) σ H fun σ2 H2=>tb ys l σ2 H2 N)
  (hd:∀ ys σ H,Pv z.cps.size ys σ H→Q (.ref l) H) :
  ∃ W:Nat→Nat→List V→St→Hp→Prop,(∃ m,W 0 m [] σ0 H0)∧∀ i m ys σ' H',W i m ys σ' H'→((Its z).stop i H'∧Q (.ref l) H') ∨
   ((Its z).go i H'∧∀ x H'',(Its z).yld i H' x H''→g x σ' H'' fun σ2 H2=>tb ys l σ2 H2 fun ys' σ3 H3=>∃ m',m' < m∧W (i+1) m' ys' σ3 H3):=by
 refine ⟨fun i m ys σ H=>m=z.cps.size - i∧i≤z.cps.size∧Pv i ys σ H,⟨z.cps.size,by simp,aAx _,h0⟩,?_⟩;rintro i m ys σ H ⟨rfl,hi,p⟩
 by_cases hlt:i < z.cps.size
 ·refine .inr ⟨hlt,fun x H' y=>?_⟩;obtain ⟨e,c,hc,rfl⟩:=y;subst e;exact hs i c ys σ _ _ hc p fun ys' σ' H' q=>⟨_,by lia,rfl,hlt,q⟩
 ·have e:i=z.cps.size:=by lia
  subst e;exact .inl ⟨rfl,hd ys σ H p⟩
theorem qo {lo:Int} {n:Nat} {l:Addr} {g:TG} {tb:List V→Addr→St→Hp→(List V→St→Hp→Prop)→Prop} {Q:VK} {σ0:St} {H0:Hp} (Pv:Nat→List V→St→Hp→Prop) (h0:Pv 0 [] σ0 H0)
  (hs:∀ i ys σ H (N:List V→St→Hp→Prop),i < n→Pv i ys σ H→(∀ ys' σ' H',Pv (i+1) ys' σ' H'→N ys' σ' H')→g (.int (lo+i)) σ H fun σ2 H2=>tb ys l σ2 H2 N)
  (hd:∀ ys σ H,Pv n ys σ H→Q (.ref l) H) :
  ∃ W:Nat→Nat→List V→St→Hp→Prop,(∃ m,W 0 m [] σ0 H0)∧∀ i m ys σ' H',W i m ys σ' H'→((Itr lo n).stop i H'∧Q (.ref l) H') ∨
   ((Itr lo n).go i H'∧∀ x H'',(Itr lo n).yld i H' x H''→g x σ' H'' fun σ2 H2=>tb ys l σ2 H2 fun ys' σ3 H3=>∃ m',m' < m∧W (i+1) m' ys' σ3 H3):=by
 refine ⟨fun i m ys σ H=>m=n - i∧i≤n∧Pv i ys σ H,⟨n,by simp,aAx _,h0⟩,?_⟩;rintro i m ys σ H ⟨rfl,hi,p⟩
 by_cases hlt:i < n
 ·refine .inr ⟨hlt,fun x H' y=>?_⟩;obtain ⟨e,rfl⟩:=y;subst e;exact hs i ys σ _ _ hlt p fun ys' σ' H' q=>⟨_,by lia,rfl,hlt,q⟩
 ·have e:i=n:=by lia
  subst e;exact .inl ⟨aAl _,hd ys σ H p⟩
theorem sM {K:W.Frag} {a:Addr} {xs:List V} {l:Addr} {g:TG} {tb:List V→Addr→St→Hp→(List V→St→Hp→Prop)→Prop} {Q:VK} {σ0:St} {H0:Hp} (Pv:Nat→List V→St→Hp→Prop) (h0:Pv 0 [] σ0 H0) (hl:∀ i ys σ H,i≤xs.length→Pv i ys σ H→SqL K H a xs)
  (hs:∀ i x ys σ H (N:List V→St→Hp→Prop),xs[i]?=some x→Pv i ys σ H→(∀ ys' σ' H',Pv (i+1) ys' σ' H'→N ys' σ' H')→g x σ H fun σ2 H2=>tb ys l σ2 H2 N)
  (hd:∀ ys σ H,Pv xs.length ys σ H→Q (.ref l) H) :
  ∃ W:Nat→Nat→List V→St→Hp→Prop,(∃ m,W 0 m [] σ0 H0)∧∀ i m ys σ' H',W i m ys σ' H'→((Itl K a).stop i H'∧Q (.ref l) H') ∨
   ((Itl K a).go i H'∧∀ x H'',(Itl K a).yld i H' x H''→g x σ' H'' fun σ2 H2=>tb ys l σ2 H2 fun ys' σ3 H3=>∃ m',m' < m∧W (i+1) m' ys' σ3 H3):=by
 refine ⟨fun i m ys σ H=>m=xs.length - i∧i≤xs.length∧Pv i ys σ H,⟨xs.length,by simp,aAx _,h0⟩,?_⟩;rintro i m ys σ H ⟨rfl,hi,p⟩;have q:=hl i ys σ H hi p
 by_cases hlt:i < xs.length
 ·refine .inr ⟨⟨xs,xs[i],q,by simp [hlt]⟩,fun x H' y=>?_⟩;obtain ⟨e,y⟩:=y;subst e;exact hs i x ys σ _ _ (y xs q) p fun ys' σ' H' q=>⟨_,by lia,rfl,hlt,q⟩
 ·have e:i=xs.length:=by lia
  subst e;exact .inl ⟨⟨xs,q,aAl _⟩,hd ys σ H p⟩
theorem uG {K:W.Frag} {a:Addr} {xs:List V} {l:Addr} {g:TG} {tb:List V→Addr→St→Hp→(List V→St→Hp→Prop)→Prop} {Q:VK} {σ0:St} {H0:Hp} (Pv:Nat→List V→St→Hp→Prop) (h0:Pv 0 [] σ0 H0) (hl:∀ i ys σ H,i≤xs.length→Pv i ys σ H→SqT K H a xs)
  (hs:∀ i x ys σ H (N:List V→St→Hp→Prop),xs[i]?=some x→Pv i ys σ H→(∀ ys' σ' H',Pv (i+1) ys' σ' H'→N ys' σ' H')→g x σ H fun σ2 H2=>tb ys l σ2 H2 N)
  (hd:∀ ys σ H,Pv xs.length ys σ H→Q (.ref l) H) :
  ∃ W:Nat→Nat→List V→St→Hp→Prop,(∃ m,W 0 m [] σ0 H0)∧∀ i m ys σ' H',W i m ys σ' H'→((Itt K a).stop i H'∧Q (.ref l) H') ∨
   ((Itt K a).go i H'∧∀ x H'',(Itt K a).yld i H' x H''→g x σ' H'' fun σ2 H2=>tb ys l σ2 H2 fun ys' σ3 H3=>∃ m',m' < m∧W (i+1) m' ys' σ3 H3):=by
 refine ⟨fun i m ys σ H=>m=xs.length - i∧i≤xs.length∧Pv i ys σ H,⟨xs.length,by simp,aAx _,h0⟩,?_⟩;rintro i m ys σ H ⟨rfl,hi,p⟩;have q:=hl i ys σ H hi p
 by_cases hlt:i < xs.length
 ·refine .inr ⟨⟨xs,xs[i],q,by simp [hlt]⟩,fun x H' y=>?_⟩;obtain ⟨e,y⟩:=y;subst e;exact hs i x ys σ _ _ (y xs q) p fun ys' σ' H' q=>⟨_,by lia,rfl,hlt,q⟩
 ·have e:i=xs.length:=by lia
  subst e;exact .inl ⟨⟨xs,q,aAl _⟩,hd ys σ H p⟩
theorem ja {X:Cx} {x:Str} {i:Int} {t:Tok} {pos:Pos} (hg:Gl X x) (hm:X.mg x=some (.int i t)) (hd:(x == ("__debug__" : Str))=false:=by decide):PE X (.Name x pos) (tC (.int i)):=lV hg hm ⟨_,rfl⟩ hd
theorem aW {X:Cx} {x z:Str} {t:Tok} {pos:Pos} (hg:Gl X x) (hm:X.mg x=some (.str z t)) (hd:(x == ("__debug__" : Str))=false:=by decide):PE X (.Name x pos) (tC (.str z)):=lV hg hm ⟨_,rfl⟩ hd
theorem dD {X:Cx} {x:Str} {a:Addr} {pos:Pos} (hg:Gl X x) (hm:X.mg x=some (.ref a)) (hd:(x == ("__debug__" : Str))=false:=by decide):PE X (.Name x pos) (tC (.ref a)):=lV hg hm rfl hd
theorem bz {X:Cx} {x:Str} {n:String} {pos:Pos} (hg:Gl X x) (hm:X.mg x=none) (hv:bootBuiltins x=some (.type n)) (hn:x≠ "__name__" :=by decide) (hd:(x == ("__debug__" : Str))=false:=by decide):PE X (.Name x pos) (tC (.ty n)):=wt hg hm hv rfl hn hd
structure Gn (K:W.Frag) (mg:Str→Option Value) (x:Str) (st:Stmt) (ps:List Str) (f:Addr) (fd:FuncData):Prop where
 F:Fun K x x st f fd
 b:Binds K fd ps []
 m:mg x=some (.ref f)
inductive Dt where
 | non | bl (b:Bool) | int (i:Int) | str (z:Str) | tup (l:List Dt)
mutual
inductive IsD (K:W.Frag) (H:Hp):Dt→V→Prop
 | non:IsD K H .non .non
 | bl {b}:IsD K H (.bl b) (.bl b)
 | int {i}:IsD K H (.int i) (.int i)
 | str {z}:IsD K H (.str z) (.str z)
 | tup {l:List Dt} {a:Addr} {xs:List V}:SqT K H a xs→IsDs K H l xs→IsD K H (.tup l) (.ref a)
inductive IsDs (K:W.Frag) (H:Hp):List Dt→List V→Prop
 | nil:IsDs K H [] []
 | cons {d:Dt} {l:List Dt} {x:V} {xs:List V}:IsD K H d x→IsDs K H l xs→IsDs K H (d :: l) (x :: xs)
end
mutual
def Dt.dep:Dt→Nat
 | .tup l=>dE l+1
 | _=>0
def dE:List Dt→Nat
 | []=>0
 | d :: l=>max d.dep (dE l)
end
mutual
def eqD:Dt→Dt→Bool
 | .non,.non=>true
 | .bl a,.bl b=>a == b
 | .bl a,.int i=>(if a then 1 else 0) == i
 | .int i,.bl a=>i == (if a then 1 else 0)
 | .int i,.int j=>i == j
 | .str x,.str y=>x == y
 | .tup l,.tup m=>dX l m
 | _,_=>false
def dX:List Dt→List Dt→Bool
 | [],[]=>true
 | d :: l,e :: m=>eqD d e && dX l m
 | _,_=>false
end
mutual
def Dt.plain:Dt→Bool
 | .bl _=>false
 | .tup l=>ju l
 | _=>true
def ju:List Dt→Bool
 | []=>true
 | d :: l=>d.plain && ju l
end
mutual
theorem a7:∀ d:Dt,eqD d d=true
 | .non=>rfl
 | .bl a=>by simp [eqD]
 | .int i=>by simp [eqD]
 | .str z=>by simp [eqD]
 | .tup l=>by simp only [eqD];exact le l
theorem le:∀ l:List Dt,dX l l=true
 | []=>rfl
 | d :: l=>by simp only [dX,a7 d,le l,Bool.and_self]
end
mutual
theorem Bk:∀ d e:Dt,d.plain=true→e.plain=true→eqD d e=true→d=e
 | .non,e,_,_,h=>by cases e <;> simp_all [eqD]
 | .bl _,_,h,_,_=>by simp [Dt.plain] at h
 | .int i,e,_,he,h=>by cases e <;> simp_all [eqD,Dt.plain]
 | .str z,e,_,_,h=>by cases e <;> simp_all [eqD]
 | .tup l,e,hd,he,h=>by
  cases e with
  | tup m=>rw [qX l m (by simpa [Dt.plain] using hd) (by simpa [Dt.plain] using he) (by simpa [eqD] using h)]
  | _=>simp [eqD] at h
theorem qX:∀ l m:List Dt,ju l=true→ju m=true→dX l m=true→l=m
 | [],[],_,_,_=>rfl
 | [],_ :: _,_,_,h=>by simp [dX] at h
 | _ :: _,[],_,_,h=>by simp [dX] at h
 | d :: l,e :: m,hl,hm,h=>by
  simp only [ju,aAs] at hl hm;simp only [dX,aAs] at h;rw [Bk d e hl.1 hm.1 h.1,qX l m hl.2 hm.2 h.2]
end
section
variable {K:W.Frag} {H H':Hp}
mutual
theorem IsD.same (g:Same H H'):∀ {d:Dt} {v:V},IsD K H d v→IsD K H' d v
 | _,_,.non=>.non
 | _,_,.bl=>.bl
 | _,_,.int=>.int
 | _,_,.str=>.str
 | _,_,.tup h r=>.tup (g.tup h) (IsDs.same g r)
theorem IsDs.same (g:Same H H'):∀ {l:List Dt} {xs:List V},IsDs K H l xs→IsDs K H' l xs
 | _,_,.nil=>.nil
 | _,_,.cons h r=>.cons (IsD.same g h) (IsDs.same g r)
end
theorem uH {a r:Addr} {xs ys:List V} (hr:H r=some (.lst ys)) (h:SqT K H a xs):a≠r∨∀ H'',SqT K H'' a xs:=by
 rcases h with (h | ⟨o,h⟩) | h
 ·exact .inl (fK h hr (by intro z;cases z))
 ·exact .inl (fK h hr (by intro z;cases z))
 ·exact .inr fun _=>.inr h
mutual
theorem IsD.but {r:Addr} {ys:List V} (hr:H r=some (.lst ys)) (g:But r H H'):∀ {d:Dt} {v:V},IsD K H d v→IsD K H' d v
 | _,_,.non=>.non
 | _,_,.bl=>.bl
 | _,_,.int=>.int
 | _,_,.str=>.str
 | _,_,.tup h q=>.tup (by
   rcases uH hr h with n | n
   ·exact g.tup n h
   ·exact n _) (IsDs.but hr g q)
theorem IsDs.but {r:Addr} {ys:List V} (hr:H r=some (.lst ys)) (g:But r H H'):∀ {l:List Dt} {xs:List V},IsDs K H l xs→IsDs K H' l xs
 | _,_,.nil=>.nil
 | _,_,.cons h q=>.cons (IsD.but hr g h) (IsDs.but hr g q)
end
theorem IsDs.length {l:List Dt} {xs:List V} (h:IsDs K H l xs):l.length=xs.length:=by
 induction l generalizing xs with
 | nil=>cases h;rfl
 | cons d l ih=>cases h with | cons _ r=>simp [ih r]
theorem IsDs.get {l:List Dt} {xs:List V} (h:IsDs K H l xs) {i:Nat} {d:Dt} (e:l[i]?=some d):∃ x,xs[i]?=some x∧IsD K H d x:=by
 induction l generalizing xs i with
 | nil=>simp at e
 | cons c l ih =>
  cases h with
  | cons h r =>
   cases i with
   | zero=>simp at e;subst e;exact ⟨_,rfl,h⟩
   | succ i=>exact ih r (by simpa using e)
end
section
variable {X:Cx} {pins:List (Addr×Obj)} {σ:St} {H:Hp} {s:Shared}
mutual
theorem IsD.inj (I:Inv X pins σ H s):∀ {d e:Dt} {v:V},IsD X.K H d v→IsD X.K H e v→d=e
 | _,_,_,.non,.non=>rfl
 | _,_,_,.bl,.bl=>rfl
 | _,_,_,.int,.int=>rfl
 | _,_,_,.str,.str=>rfl
 | _,_,_,.tup h r,.tup h' r'=>by
  have e:=I.tuple_inj h h';subst e;rw [IsDs.inj I r r']
theorem IsDs.inj (I:Inv X pins σ H s):∀ {l m:List Dt} {xs:List V},IsDs X.K H l xs→IsDs X.K H m xs→l=m
 | _,_,_,.nil,.nil=>rfl
 | _,_,_,.cons h r,.cons h' r'=>by rw [IsD.inj I h h',IsDs.inj I r r']
end
theorem dF:∀ (l m:List Dt),dX l m=((List.range (min l.length m.length)).all (fun j=>eqD (l.getD j .non) (m.getD j .non)) && l.length == m.length)
 | [],[]=>rfl
 | [],_ :: _=>by simp [dX]
 | _ :: _,[]=>by simp [dX]
 | d :: l,e :: m=>by
  simp only [dX,aAe];rw [dF l m,Nat.succ_min_succ,List.range_succ_eq_map,aA9,aBl];have e1:(l.length+1 == m.length+1)=(l.length == m.length):=by
   rw [aAX];simp
  rw [e1,Bool.and_assoc]
  rfl
theorem jv:∀ {l:List Dt} {j:Nat},j < l.length→(l.getD j .non).dep≤dE l
 | [],_,h=>by simp at h
 | d :: l,0,_=>by simp only [List.getD_cons_zero,dE];lia
 | d :: l,j+1,h=>by
  have q:=@jv l j (by simpa using h);simp only [List.getD_cons_succ,dE];lia
theorem Inv.tup' (I:Inv X pins σ H s) {a:Addr} {xs:List V} (h:SqT X.K H a xs):∃ its:List Value,Vals xs its∧s.heap.IsTuple a its.toArray:=by
 obtain ⟨its,r,p,_⟩:=I.tuple h;exact ⟨its,r,p⟩
theorem lf (A:Around):A.in1.units=A.units+1:=by
 first | rfl | simp [Around.in1]
theorem Bl (I:Inv X pins σ H s):∀ (n:Nat) (d e:Dt) (x y:V) (u v:Value) (A:Around),d.dep≤n→IsD X.K H d x→IsD X.K H e y→RelV x u→RelV y v→A.units+n < cLine →
  SeqAt.EqAt A s u v (eqD d e)∧SeqAt.RcAt A s u v (eqD d e)∧SeqAt.RcNeAt A s u v (!eqD d e):=by
 intro n
 induction n with
 | zero =>
  intro d e x y u v A hd hx hy rx ry hu;have hu0:A.units < cLine:=by lia
  cases hx with
  | tup h r=>simp [Dt.dep] at hd
  | non =>
   cases rx
   cases hy with
   | non=>cases ry;exact ⟨.same _,.none_none,.none_none⟩
   | bl=>cases ry;exact ⟨.none_bool _,.none_bool _,.none_bool _⟩
   | int=>obtain ⟨t,rfl⟩:=ry;exact ⟨.none_int _ _,.none_int _ _,.none_int _ _⟩
   | str=>obtain ⟨t,rfl⟩:=ry;exact ⟨.none_str _ _,.none_str _ _,.none_str _ _⟩
   | tup h r=>cases ry;obtain ⟨its,_,p⟩:=I.tup' h;exact ⟨.none_tuple p hu0,.none_tuple p hu0,.none_tuple p hu0⟩
  | bl =>
   cases rx
   cases hy with
   | non=>cases ry;exact ⟨.bool_none _,.bool_none _,.bool_none _⟩
   | bl=>cases ry;exact ⟨.bool_bool _ _,.bool_bool _ _,.bool_bool _ _⟩
   | int=>obtain ⟨t,rfl⟩:=ry;exact ⟨.bool_int _ _ _,.bool_int _ _ _,.bool_int _ _ _⟩
   | str=>obtain ⟨t,rfl⟩:=ry;exact ⟨.bool_str _ _ _,.bool_str _ _ _,.bool_str _ _ _⟩
   | tup h r=>cases ry;obtain ⟨its,_,p⟩:=I.tup' h;exact ⟨.bool_tuple _ p hu0,.bool_tuple _ p hu0,.bool_tuple _ p hu0⟩
  | int =>
   obtain ⟨t0,rfl⟩:=rx
   cases hy with
   | non=>cases ry;exact ⟨.int_none _ _,.int_none _ _,.int_none _ _⟩
   | bl=>cases ry;exact ⟨.int_bool _ _ _,.int_bool _ _ _,.int_bool _ _ _⟩
   | int=>obtain ⟨t,rfl⟩:=ry;exact ⟨.int_int _ _ _ _,.int_int _ _ _ _,.int_int _ _ _ _⟩
   | str=>obtain ⟨t,rfl⟩:=ry;exact ⟨.int_str _ _ _ _,.int_str _ _ _ _,.int_str _ _ _ _⟩
   | tup h r=>cases ry;obtain ⟨its,_,p⟩:=I.tup' h;exact ⟨.int_tuple _ _ p hu0,.int_tuple _ _ p hu0,.int_tuple _ _ p hu0⟩
  | str =>
   obtain ⟨t0,rfl⟩:=rx
   cases hy with
   | non=>cases ry;exact ⟨.str_none _ _,.str_none _ _,.str_none _ _⟩
   | bl=>cases ry;exact ⟨.str_bool _ _ _,.str_bool _ _ _,.str_bool _ _ _⟩
   | int=>obtain ⟨t,rfl⟩:=ry;exact ⟨.str_int _ _ _ _,.str_int _ _ _ _,.str_int _ _ _ _⟩
   | str=>obtain ⟨t,rfl⟩:=ry;exact ⟨.str_str _ _ _ _,.str_str _ _ _ _,.str_str _ _ _ _⟩
   | tup h r=>cases ry;obtain ⟨its,_,p⟩:=I.tup' h;exact ⟨.str_tuple _ _ p hu0,.str_tuple _ _ p hu0,.str_tuple _ _ p hu0⟩
 | succ n ih =>
  intro d e x y u v A hd hx hy rx ry hu;have hu0:A.units < cLine:=by lia
  cases hx with
  | tup h r =>
   rename_i l a xs
   cases rx
   cases hy with
   | non=>cases ry;obtain ⟨its,_,p⟩:=I.tup' h;exact ⟨.tuple_none p hu0,.tuple_none p hu0,.tuple_none p hu0⟩
   | bl=>cases ry;obtain ⟨its,_,p⟩:=I.tup' h;exact ⟨.tuple_bool _ p hu0,.tuple_bool _ p hu0,.tuple_bool _ p hu0⟩
   | int=>obtain ⟨t,rfl⟩:=ry;obtain ⟨its,_,p⟩:=I.tup' h;exact ⟨.tuple_int _ _ p hu0,.tuple_int _ _ p hu0,.tuple_int _ _ p hu0⟩
   | str=>obtain ⟨t,rfl⟩:=ry;obtain ⟨its,_,p⟩:=I.tup' h;exact ⟨.tuple_str _ _ p hu0,.tuple_str _ _ p hu0,.tuple_str _ _ p hu0⟩
   | tup h' r' =>
    rename_i m b ys
    cases ry
    obtain ⟨its,q,p⟩:=I.tup' h;obtain ⟨its',q',p'⟩:=I.tup' h';have l1:its.length=l.length:=by rw [← q.length,← r.length]
    have l2:its'.length=m.length:=by rw [← q'.length,← r'.length]
    have he:∀ j (h1:j < its.toArray.size) (h2:j < its'.toArray.size),SeqAt.EqAt A.in1 s its.toArray[j] its'.toArray[j] (eqD (l.getD j .non) (m.getD j .non)):=by
     intro j h1 h2;have j1:j < l.length:=by simpa [l1] using h1
     have j2:j < m.length:=by simpa [l2] using h2
     obtain ⟨x1,ex,dx⟩:=r.get (i:=j) (d:=l.getD j .non) (by simp [aAB,j1]);obtain ⟨y1,ey,dy⟩:=r'.get (i:=j) (d:=m.getD j .non) (by simp [aAB,j2]);obtain ⟨u1,eu,ru⟩:=q.get ex;obtain ⟨v1,ev,rv⟩:=q'.get ey;have e1:its.toArray[j]=u1:=by
      have:its[j]?=some its[j]:=by simp [l1,j1]
      rw [this] at eu
      simpa using Option.some.inj eu
     have e2:its'.toArray[j]=v1:=by
      have:its'[j]?=some its'[j]:=by simp [l2,j2]
      rw [this] at ev
      simpa using Option.some.inj ev
     rw [e1,e2];have hdl:dE l≤n:=by simp only [Dt.dep] at hd;lia
     exact (ih _ _ _ _ _ _ A.in1 (aAA (jv j1) hdl) dx dy ru rv (by rw [lf];lia)).1
    have ev:eqD (.tup l) (.tup m)=((List.range (min its.toArray.size its'.toArray.size)).all (fun j=>eqD (l.getD j .non) (m.getD j .non)) && its.toArray.size == its'.toArray.size):=by
     simp only [eqD,aAv,l1,l2];exact dF l m
    rw [ev];refine ⟨?_,SeqAt.RcAt.tuples p p' hu0 he,SeqAt.RcNeAt.tuples p p' hu0 he⟩
    by_cases hab:a=b
    ·subst hab;have e3:=I.tuple_inj h h';subst e3;have e4:=IsDs.inj I r r';subst e4;rw [← ev,a7];exact .same _
    ·exact .of_refs hab (SeqAt.RcAt.tuples p p' hu0 he)
  | non=>exact ih _ _ _ _ _ _ A (by simp [Dt.dep]) .non hy rx ry (by lia)
  | bl=>exact ih _ _ _ _ _ _ A (by simp [Dt.dep]) .bl hy rx ry (by lia)
  | int=>exact ih _ _ _ _ _ _ A (by simp [Dt.dep]) .int hy rx ry (by lia)
  | str=>exact ih _ _ _ _ _ _ A (by simp [Dt.dep]) .str hy rx ry (by lia)
def Hc (K:W.Frag):R2:=fun x y H Q=>∃ d e,IsD K H d x∧IsD K H e y∧d.dep≤60∧Q (.bl (eqD d e)) H
def wQ (K:W.Frag):R2:=fun x y H Q=>∃ d e,IsD K H d x∧IsD K H e y∧d.dep≤60∧Q (.bl (!eqD d e)) H
theorem Bm (hu:X.A.units+64 < cLine):OpR X (compareOp .Eq) (Hc X.K):=by
 intro pins s σ H x y v u Q I rx ry h;obtain ⟨d,e,hd,he,hn,q⟩:=h;exact (Bl I 60 d e x y v u X.A hn hd he rx ry (by lia)).2.1 _ _ _ _ ⟨.bl _,H,I,rfl,q⟩
theorem uI (hu:X.A.units+64 < cLine):OpR X (compareOp .NotEq) (wQ X.K):=by
 intro pins s σ H x y v u Q I rx ry h;obtain ⟨d,e,hd,he,hn,q⟩:=h;exact (Bl I 60 d e x y v u X.A hn hd he rx ry (by lia)).2.2 _ _ _ _ ⟨.bl _,H,I,rfl,q⟩
def Bn (K:W.Frag) (neg:Bool):R2:=fun x y H Q=>∃ p b xs ys l m,x=.ref p∧y=.ref b∧SqL K H p xs∧SqL K H b ys∧IsDs K H l xs∧IsDs K H m ys∧dE l≤60∧Q (.bl (if neg then !dX l m else dX l m)) H
theorem sN (hu:X.A.units+64 < cLine) (I:Inv X pins σ H s) {l m:List Dt} {xs ys:List V} {its its':List Value} (r:IsDs X.K H l xs) (r':IsDs X.K H m ys) (q:Vals xs its) (q':Vals ys its') (hd:dE l≤60) :
  ∀ j (h1:j < its.toArray.size) (h2:j < its'.toArray.size),SeqAt.EqAt X.A.in1 s its.toArray[j] its'.toArray[j] (eqD (l.getD j .non) (m.getD j .non)):=by
 have l1:its.length=l.length:=by rw [← q.length,← r.length]
 have l2:its'.length=m.length:=by rw [← q'.length,← r'.length]
 intro j h1 h2;have j1:j < l.length:=by simpa [l1] using h1
 have j2:j < m.length:=by simpa [l2] using h2
 obtain ⟨x1,ex,dx⟩:=r.get (i:=j) (d:=l.getD j .non) (by simp [aAB,j1]);obtain ⟨y1,ey,dy⟩:=r'.get (i:=j) (d:=m.getD j .non) (by simp [aAB,j2]);obtain ⟨u1,eu,ru⟩:=q.get ex;obtain ⟨v1,ev,rv⟩:=q'.get ey;have e1:its.toArray[j]=u1:=by
  have:its[j]?=some its[j]:=by simp [l1,j1]
  rw [this] at eu
  simpa using Option.some.inj eu
 have e2:its'.toArray[j]=v1:=by
  have:its'[j]?=some its'[j]:=by simp [l2,j2]
  rw [this] at ev
  simpa using Option.some.inj ev
 rw [e1,e2];exact (Bl I 60 _ _ _ _ _ _ X.A.in1 (aAA (jv j1) hd) dx dy ru rv (by rw [lf];lia)).1
theorem Bo (hu:X.A.units+64 < cLine):OpR X (compareOp .NotEq) (Bn X.K true):=by
 intro pins s σ H x y v u Q I rx ry h;obtain ⟨p,b,xs,ys,l,m,rfl,rfl,hp,hb,r,r',hd,q⟩:=h
 cases rx
 cases ry
 obtain ⟨its,r1,p1,_⟩:=I.list hp;obtain ⟨its',r2,p2,_⟩:=I.list hb;have l1:its.length=l.length:=by rw [← r1.length,← r.length]
 have l2:its'.length=m.length:=by rw [← r2.length,← r'.length]
 have he:=sN hu I r r' r1 r2 hd;have hu0:X.A.units < cLine:=by lia
 by_cases hs:its.length=its'.length
 ·have ev:dX l m=(List.range its.toArray.size).all (fun j=>eqD (l.getD j .non) (m.getD j .non)):=by
   rw [dF l m,aAv,l1];have e3:l.length=m.length:=by lia
   rw [← e3,aBH,beq_self_eq_true,Bool.and_true]
  refine SeqAt.RcNeAt.lists p1.isList p2.isList (by simpa using hs) hu0 he _ _ _ _ ?_;rw [← ev];exact ⟨.bl _,H,I,rfl,q⟩
 ·have ev:dX l m=false:=by
   have e3:(l.length == m.length)=false:=by simpa using (show ¬ l.length=m.length by lia)
   rw [dF l m,e3,Bool.and_false]
  refine SeqAt.RcNeAt.lists_lengths p1.isList p2.isList (by simpa using hs) hu0 _ _ _ _ ?_;have q':Q (.bl (!dX l m)) H:=q;rw [ev] at q';exact ⟨.bl _,H,I,rfl,q'⟩
end
end L2
namespace PySem.W
open PySem PySem.Spec PyProof.Rows PySem.Calls
structure ExcK (K:Frag) (C:Addr):Prop where
 ga:findIn K (.ref C) "__getattribute__" = some (some (.builtin "BaseException.__getattribute__"))
 gt:findIn K (.ref C) "__getattr__" = some none
 cl:findIn K (.ref C) "__class__" = some (some (.builtin "object.__class__"))
 sb:mroIn K C (.type "BaseException")=some true
 so:mroIn K C (.type "object")=some true
 cd:∃ c,clsIn K C=some c
section
variable {prog:Program} {w:World} {A:Around} {E:Value→Shared→Prop} {h:Heap} {g:Array GenState} {d:Drawn} {t:Nat} {os:OsState} {a C:Addr} {o:Obj} {K:Frag}
theorem xlk {M:Model} {n:Str} {y:Option Value} {Q:Option Value→Shared→Prop} (X:K.In h) (e:findIn K (.ref C) n=some y) (hq:Q y ⟨h,g,d,t,os⟩):wpAny M A (typeLookup (.ref C) n) Q E ⟨h,g,d,t,os⟩ :=
 (looks_findIn X e).at hq
theorem Hd {M:Model} {T:Value} {y:Bool} {Q:Bool→Shared→Prop} (X:K.In h) (e:mroIn K C T=some y) (hq:Q y ⟨h,g,d,t,os⟩):wpAny M A (isSubtype (.ref C) T) Q E ⟨h,g,d,t,os⟩ :=
 (looks_mroIn X e).at hq
theorem qp {R:Result→Shared→Prop} (X:K.In h) (G:ExcK K C) (hx:h.get? a=some o) (hc:o.cls=.ref C) (hq:R (.ok (.ret (.ref C))) ⟨h,g,d,t,os⟩) :
  codeAny (model prog w) A (.call (.builtin "getset_descriptor.__get__") ⟨[.builtin "object.__class__",.ref a,.ref C],[]⟩) R ⟨h,g,d,t,os⟩:=by
 have hT5:(⟨h,g,d,t,os⟩:Shared).TypeIs (.builtin "object.__class__") "getset_descriptor" :=F.typeOf_object_class;have hso:mroIn K C (.type (".".intercalate ("object.__class__".cutAt '.').dropLast))=some true:=by rw [F.owner_object_class];exact G.so
 refine codeAny_call_builtin F.slot_gs_get.plain F.entry_gs_get (F.slot_gs_get.check _ _ _ _ _ _ _ _ hT5 (F.args_gs_get _ _ _) ?_)
 repeat (any_goals (first | assumption | (with_reducible refine wpAny_loadPart_at hx ?_;rw [hc]) | (with_reducible refine Hd X hso ?_) | wp_step))
 refine ⟨Code.quiet_builtin _ (by decide +kernel),codeAny_builtin F.entry_object_class ?_⟩
 repeat (any_goals (first | assumption | (with_reducible refine wpAny_loadPart_at hx ?_;rw [hc]) | wp_step))
theorem mj {tk:Tok} {Q:Fin→Shared→Prop} (X:K.In h) (G:ExcK K C) (hx:h.get? a=some o) (hc:o.cls=.ref C) (hq:Q (.done (.ret (.ref C))) ⟨h,g,d,t,os⟩) :
  wpAny (model prog w) A (Builtin.«object.__getattribute__» ⟨[.ref a,.str "__class__" tk],[]⟩) Q E ⟨h,g,d,t,os⟩:=by
 have hT5:(⟨h,g,d,t,os⟩:Shared).TypeIs (.builtin "object.__class__") "getset_descriptor" :=F.typeOf_object_class;have f5:=F.typeOf_object_class;have f6:=F.slot_gs_get.lookup;have f7:=F.slot_gs_set.lookup
 repeat (any_goals (first | assumption | (with_reducible refine wpAny_loadPart_at hx ?_;rw [hc]) | with_reducible refine xlk X G.cl ?_ | wp_step))
 refine qp X G hx hc ?_
 repeat (any_goals (first | assumption | wp_step))
theorem sO {M:Model} {nameV:Value} {Q:Unit→Shared→Prop} (X:K.In h) (G:ExcK K C) (hx:h.get? a=some o) (hc:o.cls=.ref C) (hq:Q () ⟨h,g,d,t,os⟩) :
  wpAny M A (checkBuiltinCall "BaseException.__getattribute__" ⟨[.ref a,nameV],[]⟩) Q E ⟨h,g,d,t,os⟩:=by
 have hk:builtinKind "BaseException.__getattribute__" = some .slot:=by decide +kernel
 have hsplit:splitId "BaseException.__getattribute__" = some ("BaseException","__getattribute__"):=by decide +kernel
 have ha:=F.args_bexc_ga (.ref a) nameV;simp only [checkBuiltinCall,hk,hsplit];refine wpAny_bind ?_
 ·unfold isInstance
  repeat (first | (with_reducible refine wpAny_loadPart_at hx ?_;rw [hc]) | (with_reducible refine Hd X G.sb ?_) | wp_step)
  exact hq
theorem nR {tk:Tok} {R:Result→Shared→Prop} (X:K.In h) (G:ExcK K C) (hx:h.get? a=some o) (hc:o.cls=.ref C) (hq:R (.ok (.ret (.ref C))) ⟨h,g,d,t,os⟩) :
  codeAny (model prog w) A (.call (.builtin "BaseException.__getattribute__") ⟨[.ref a,.str "__class__" tk],[]⟩) R ⟨h,g,d,t,os⟩ :=
 codeAny_call_builtin F.attr_ValueError.ga.plain F.entry_bexc_ga (sO X G hx hc (mj X G hx hc hq))
theorem sP {tk:Tok} {fill expr:Bool} {Q:Value→Shared→Prop} (X:K.In h) (G:ExcK K C) (hx:h.get? a=some o) (hc:o.cls=.ref C) (hq:Q (.ref C) ⟨h,g,d,t,os⟩) :
  wpAny (model prog w) A (getAttrBy (.ref a) (.str "__class__" tk) fill expr) Q E ⟨h,g,d,t,os⟩:=by
 have f3:=F.attr_ValueError.ga.bind (.ref a);have hx0:(expr && onTheHeap (Value.builtin "BaseException.__getattribute__"))=false:=by cases expr <;> rfl
 have hx2:(Value.builtin "BaseException.__getattribute__" == Value.builtin "object.__getattribute__")=false:=by decide +kernel
 have hx1:(onTheHeap (Value.ref C) && Value.builtin "BaseException.__getattribute__" == Value.builtin "object.__getattribute__")=false:=by rw [hx2];rfl
 repeat (any_goals (first | assumption | (with_reducible refine wpAny_loadPart_at hx ?_;rw [hc]) | with_reducible refine xlk X G.ga ?_ | with_reducible refine xlk X G.gt ?_ | wp_step))
 refine nR X G hx hc ?_
 repeat (any_goals (first | assumption | wp_step))
theorem nS {Q:Option Value→Shared→Prop} (X:K.In h) (G:ExcK K C) (hx:h.get? a=some o) (hc:o.cls=.ref C) (hq:Q (some (.ref C)) ⟨h,g,d,t+1,os⟩) :
  wpAny (model prog w) A (getAttr? (.ref a) "__class__") Q E ⟨h,g,d,t,os⟩:=by
 unfold getAttr? getAttrBy?
 repeat (any_goals (first | assumption | with_reducible apply sP X G hx hc | wp_step))
theorem kitx_exc (G:ExcK K C):KitX K (.ref a) (.ref C) (fun h=>∃ o,h.get? a=some o∧o.cls=.ref C) where
 ty:=fun M h _ ⟨o,e,c⟩=>by
  have L:Looks M h (typeOf (.ref a)) o.cls:=(Looks.ld e).andThen .now;rw [c] at L;exact L
 it:=fun _ _ X _=>by
  obtain ⟨cdD,hcD⟩:=G.cd;unfold clsIn at hcD
  split at hcD
  ·rename_i c' d' cd' sl' ho
   intro A' Q' E' s' k q;unfold isType loadHead;exact wpAny_bind (wpAny_loadPart (k _ _ (X _ _ ho)) (wpAny_pure q))
  ·cases hcD
 ne:=fun h tp dd its n sl X htp=>by
  obtain ⟨cdD,hcD⟩:=G.cd;refine Bool.eq_false_iff.mpr fun q=>?_;have e:C=tp:=Value.ref.inj (beq_iff_eq.mp q);subst e;unfold clsIn at hcD
  split at hcD
  ·rename_i c' d' cd' sl' ho
   have z:=X _ _ ho;rw [htp] at z
   cases z
  ·cases hcD
 ca:=fun {_ _ _ _ _ s} X ⟨o,e,c⟩ q=>by
  obtain ⟨h,g,d,t,os⟩:=s;exact nS X G e c q
end
end PySem.W
namespace L2
open PySem PySem.Spec PyProof.Rows
def xO (a C:Addr):HO:=.ext fun h=>∃ o,h.get? a=some o∧o.cls=.ref C
theorem He {P:Program} {w:World} {H:Hp} {h:Heap} {a C:Addr} (e:∃ o,h.get? a=some o∧o.cls=.ref C):ObjOk P w H h a (xO a C) :=
 ⟨e,e.imp fun _ q=>q.1,fun _ _ ⟨o,q,c⟩ k=>⟨o,k o q,c⟩⟩
theorem Inv.exc {X:Cx} {pins:List (Addr×Obj)} {σ:St} {H:Hp} {s:Shared} {a C:Addr} (I:Inv X pins σ H s) (e:H a=some (xO a C)):∃ o,s.heap.get? a=some o∧o.cls=.ref C :=
 (show ObjOk X.prog X.w H s.heap a (xO a C) from I.hok a _ e).1
abbrev bmV:List Value:=[.type "ValueError",.type "Exception",.type "BaseException",.type "object"]
structure ExC (K:W.Frag) (mg:Str→Option Value) (x:Str) (C:Addr):Prop where
 m:mg x=some (.ref C)
 q:W.excIn K C bmV "ValueError.__new__" = true
 k:W.ExcK K C
 kp:W.keepIn K (.ref C)=true
theorem wR {K:W.Frag} {h:Heap} {C:Addr} {bmB:List Value} {newId:String} (X:K.In h) (q:W.excIn K C bmB newId=true) :
  ∃ bm N nm qn bs hd sn sub ab col dd k0 k1 k2 k3 k5 mN,h.get? C=some (excClassObj nm qn C N bs bm hd sn sub ab col dd k0 k1 k2 k3 k5 newId)∧h.Ns N mN∧mN "__init__" = none∧OwnTail h bmB bm:=by
 unfold W.excIn at q
 split at q
 case h_2=>cases q
 case h_1 dd cd sl ho =>
  split at q
  case h_2=>cases q
  case h_1 C' bm k0 k1 k2 k3 n k5 hm hs =>
   simp only [aAs,beq_iff_eq,aBY] at q;obtain ⟨⟨⟨⟨⟨q1,q2⟩,q3⟩,q4⟩,q5⟩,q6⟩:=q;subst q1 q2;obtain ⟨nm,bs,mro,ns,qn,hd,sn,sub,ab,col,del⟩:=cd;dsimp only at hm q3 q5 q6;subst hm q3;obtain ⟨l⟩:=sl;dsimp only at hs;subst hs;exact ⟨bm,ns,nm,qn,bs,hd,sn,sub,ab,col,dd,k0,k1,k2,k3,k5,_,X _ _ ho,.of_isNs (W.isNs_of_in X q5),W.nsMap_none_of_in X q5 q6,W.tail_of_in X q4⟩
section
variable {X:Cx} {pins:List (Addr×Obj)} {σ:St} {H:Hp} {s:Shared}
theorem uJ:aO X (.builtin "isinstance") (fun xs H Q=>∃ a C D b,xs=[.ref a,.ref D]∧H a=some (xO a C)∧W.ExcK X.K C∧W.kitOne X.K (.ref C) (.ref D)=some b∧Q (.bl b) H):=by
 intro pins s σ H xs us Q I r h;obtain ⟨a,C,D,b,rfl,ha,G,hk,q⟩:=h;obtain ⟨u,w',rfl,rx,rD⟩:=kW r
 cases rx
 cases rD
 exact W.kia_one (W.kitx_exc G) I.kIn (I.exc ha) hk (fun z=>nomatch z) fun tk=>⟨.bl b,H,I.tok tk,rfl,q⟩
theorem sQ:aO X (.builtin "isinstance") (fun xs H Q=>∃ a C T b,xs=[.ref a,.ty T]∧H a=some (xO a C)∧W.ExcK X.K C∧W.kitOne X.K (.ref C) (.type T)=some b∧Q (.bl b) H):=by
 intro pins s σ H xs us Q I r h;obtain ⟨a,C,T,b,rfl,ha,G,hk,q⟩:=h;obtain ⟨u,w',rfl,rx,rD⟩:=kW r
 cases rx
 cases rD
 exact W.kia_one (W.kitx_exc G) I.kIn (I.exc ha) hk (fun z=>nomatch z) fun tk=>⟨.bl b,H,I.tok tk,rfl,q⟩
end
def CXE (P:Program) (w:World):CXT:=fun outer H s E e s'=>∃ (ea C:Addr) (a0:Value) (B:Heap) (H':Hp),e=.ref ea∧Heap.FlyingW B outer ea (.ref C) a0 s'.heap∧s'.os=s.os∧AllBare s'.gens∧Un (frs outer) [] H H' s.heap s'.heap∧HOk P w H' B ∧
 (∀ b o,s.heap.get? b=some o→H b=none→b∉frs outer→B.get? b=some o)∧(∀ b o,s.heap.get? b=some o→b∉frs outer→∃ o',B.get? b=some o')∧E (.ref C) none H'
theorem mn {fs:List Addr} {H H1:Hp} {h h1 h' B:Heap} (u:Un fs [] H H1 h h1) (c1:∀ b o,h.get? b=some o→H b=none→b∉fs→B.get? b=some o) (c2:∀ b o,h.get? b=some o→b∉fs→∃ o',B.get? b=some o')
  (st:B.StaysIn h') (c3:∀ b o,h.get? b=some o→b∈fs→∃ sl,h'.get? b=some { o with slots:=sl }):Un fs [] H H1 h h' where
 keep:=fun b o q n hb _=>st b o (c1 b o q n hb)
 slot:=fun b o q n hb _=>c3 b o q hb
 free:=u.free
 there:=fun b o q hx=>by
  by_cases hb:b∈fs
  ·obtain ⟨sl,e⟩:=c3 b o q hb;exact ⟨_,e⟩
  ·obtain ⟨o',e⟩:=c2 b o q hb;exact ⟨o',st b o' e⟩
 tups:=u.tups
 frzs:=u.frzs
 tbls:=u.tbls
section
variable {X:Cx} {pins:List (Addr×Obj)} {σ:St} {H:Hp} {s:Shared}
theorem jw {base h:Heap} {l:List Env} {b:Addr} (f:h.FunFrames base l) (hb:b∈frs l):∃ o,h.get? b=some o∧∀ vs,o.data≠.fields vs:=by
 obtain ⟨_,o,ho,hn⟩:=f.mem hb;exact ⟨o,ho,hn⟩
def Bp (C:Addr) (E:XK) (t:TA):TS:=fun _ σ H=>t σ H fun xs H1=>xs.length≤sizeLine∧E (.ref C) none H1
end
theorem uK {P:Program} {w:World} {H:Hp} {h:Heap} {a:Addr} (hok:HOk P w H h) (hp:h.get? a=none):H a=none:=by
 cases q:H a with
 | none=>rfl
 | some u =>
  have w':=hok a u q
  exfalso
  cases u with
  | lst xs=>obtain ⟨_,its,n,_,e⟩:=w';rw [hp] at e;cases e
  | tup xs=>obtain ⟨_,its,_,ob,e,_⟩:=w';rw [hp] at e;cases e
  | dK kvs=>obtain ⟨_,_,vs,_,ob,es,ep,e,_⟩:=w';rw [hp] at e;cases e
  | dT kvs=>obtain ⟨_,_,xs,_,ob,es,ep,e,_⟩:=w';rw [hp] at e;cases e
  | set S n=>obtain ⟨ob,es,ep,t,e,_⟩:=w';rw [hp] at e;cases e
  | ins C dx fs=>obtain ⟨_,_,_,e,_⟩:=w';rw [hp] at e;cases e
  | own y=>obtain ⟨ob,e⟩:=w';rw [hp] at e;cases e
  | xd fs=>obtain ⟨mA,⟨od,es,ep,e,_⟩,_⟩:=w';rw [hp] at e;cases e
  | rng lo hi=>obtain ⟨t,u,v,e⟩:=w';rw [hp] at e;cases e
  | frz ob u=>obtain ⟨e,_⟩:=w';rw [hp] at e;cases e
  | tbl ps=>have e:h.get? a=some { cls:=.none,data:=.fields ps }:=w';rw [hp] at e;cases e
  | met f y=>have e:h.get? a=some (W.methodObj (.ref f) (.ref y)):=w';rw [hp] at e;cases e
  | ext φ=>obtain ⟨_,⟨o,e⟩,_⟩:=w';rw [hp] at e;cases e
def hcx (X:Cx) (ea:Addr):Cx:={ X with A:=X.A.mark (some (.ref ea)),calm:=false,xe:=fun _ _=>False }
section
variable {X:Cx} {pins:List (Addr×Obj)} {σ:St} {H:Hp} {s:Shared}
theorem Cx.Ok.hcx (ok:X.Ok) (ea:Addr):(hcx X ea).Ok :=
 ⟨ok.mod,ok.kind,ok.glob,ok.blt,ok.above,ok.inj,ok.has,ok.cab,fun z=>absurd z (by show ¬ (false=true);decide),ok.frames,ok.stk,ok.exf,ok.bs,ok.bsz,ok.noex,ok.exfs,ok.funs,ok.frf⟩
theorem Inv.hcx (I:Inv X pins σ H s) (ea:Addr):Inv (hcx X ea) pins σ H s:=⟨I.ok.hcx ea,I.os,I.bare,I.base,I.loc,I.cell,I.free,I.freeC,I.pin,I.hok,I.len⟩
theorem Inv.unhcx {ea:Addr} (I:Inv (L2.hcx X ea) pins σ H s) (ok:X.Ok):Inv X pins σ H s:=⟨ok,I.os,I.bare,I.base,I.loc,I.cell,I.free,I.freeC,I.pin,I.hok,I.len⟩
theorem Inv.goes {i:Nat} {n:Str} {pos:Pos} {M:Model} {A:Around} {E:Value→Shared→Prop} {Q:Unit→Shared→Prop} (I:Inv X pins σ H s) (hN:X.N.Nodup) (hi:X.N[i]?=some n) (hl:X.env.scope.names.lookup n=some .local)
  (h:∀ s',Inv X pins (σ.set i none) H s'→Q () s'):wpAny M A (do bindName X.env n .none;unbindBehindTheSuite X.env n pos) Q E s:=by
 obtain ⟨m,hn,hlk⟩:=id I.loc;have hcls:(X.env.scope.kind == .class || (X.env.scope.kind == .module && X.env.locals != X.env.globals))=false:=by rw [I.ok.kind];rfl
 have hiσ:i < σ.length:=by rw [I.len];exact (aAc.mp hi).1
 have cne:=I.cne;refine wpAny_nameGoes_keeps hl hn hcls fun h' v hn' hs=>?_;have neL:∀ b o,X.s₀.heap.get? b=some o→b≠X.env.locals:=fun b o e=>aAy (aAj (aAf e) I.ok.above);refine h _ ⟨I.ok,I.os,I.bare,⟨fun b o e n hb hx=>?_,fun b o e n hb hx=>?_,I.base.free,fun b o e hx=>?_,I.base.tups,I.base.frzs,I.base.tbls⟩,⟨_,hn',fun j y v' e1 e2 e3=>?_⟩,fun y c e=>?_,I.free,I.freeC,fun p hp=>?_,fun b u e=>?_,by simpa using I.len⟩
 ·exact (hs.2 b (neL b o e)).trans (I.base.keep b o e n hb hx)
 ·obtain ⟨sl,e1⟩:=I.base.slot b o e n hb hx;exact ⟨sl,(hs.2 b (neL b o e)).trans e1⟩
 ·obtain ⟨o',e1⟩:=I.base.there b o e hx;exact ⟨o',(hs.2 b (neL b o e)).trans e1⟩
 ·by_cases hj:j=i
  ·subst hj;rw [aBB hiσ] at e2
   cases e2
  ·rw [aBF (Ne.symm hj)] at e2;obtain ⟨u',r',q⟩:=hlk j y v' e1 e2 e3;refine ⟨u',r',?_⟩;rcases q with ⟨k,e⟩ | ⟨k,c,e,z⟩
   ·refine .inl ⟨k,?_⟩;have:y≠n:=fun e=>hj (jk hN e1 (e ▸ hi));simp [this,e]
   ·exact .inr ⟨k,c,e,z.sameBut hs (cne y c e)⟩
 ·obtain ⟨w',z⟩:=I.cell y c e;exact ⟨w',z.sameBut hs (cne y c e)⟩
 ·obtain ⟨e,n,ne,nf,d⟩:=I.pin p hp;exact ⟨(hs.2 p.1 ne).trans e,n,ne,nf,d⟩
 ·refine (I.hok b u e).stay (fun c w' hc q=>(hs.2 c ?_).trans q) (fun _ q=>q) fun _ _ q=>q;rintro rfl;rcases hc with rfl | hc
  ·rw [I.free] at e;cases e
  ·rw [I.free] at hc;cases hc
abbrev TX:=St→Hp→VK→XK→Prop
def PX (X:Cx) (e:Expr) (t:TX):Prop :=
 ∀ (pins:List (Addr×Obj)) (s:Shared) (σ:St) (H:Hp) (Q:VK) (E:XK),Inv X pins σ H s→t σ H Q E →
  wpAny (model X.prog X.w) X.A (eval e X.env) (EP X pins σ Q) (fun ex s'=>∃ H1 s1,Inv X pins σ H1 s1∧CXE X.prog X.w X.stack H1 s1 E ex s') s
theorem wS {k:Nat} {f:Addr} {fd:FuncData} {ps:List Str} {sp:Sp} {x:Str} {p pos:Pos} {e:Expr} {es:List Expr} {t:TA} (F:FnOk X.prog X.w X.K X.mg X.base (CXE X.prog X.w) k f fd ps sp) (hr:Room k X.A) (hg:Gl X x) (hm:X.mg x=some (.ref f))
  (hk:W.keepIn X.K (.ref f)=true) (hb:Binds X.K fd ps []) (ha:PA X.nox (e :: es) t) (hdb:(x == ("__debug__" : Str))=false:=by decide) (he:starEach (e :: es) X.env=(false,eval e X.env) :: starEach es X.env:=by rfl)
  (hpl:(backTo pos (starEach es X.env)).any (·.1)=false:=by rfl):PX X (.Call (.Name x p) (e :: es) [] pos) (fun σ H Q E=>t σ H fun vs H1=>sp vs H1 Q E):=by
 intro pins s σ H Q E I h;refine wpAny_Call_Name_kw (fo I hg hm ?_ hdb);refine W.callWith_K (h₀:=X.base) I.ok.mod.kin hk (wpAny_mono (ha pos pins s σ H _ (I.wish _) h) (fun us s1 ⟨vs,H1,I1',r,q⟩=>?_) fun _ _ z=>z.elim) he hpl;have I1:Inv X pins σ H1 s1:=Inv.unwish I1';refine ⟨I1.kIn,?_⟩;have hl:us.length=ps.length:=by rw [← r.length];exact F.len _ _ _ _ q
 have hb':BindsTo s1 fd ⟨us,[]⟩ (ps.zip us):=by
  have z:=hb s1 us I1.kIn (by rw [aA2];exact hl)
  rwa [aA2] at z
 refine wpAny_call (codeAny_mono (F.run X.A X.stack s1 H1 ⟨us,[]⟩ us vs Q E hr I1.env0 hb' r q) fun rr s' hq=>?_)
 cases rr with
 | error ex=>exact ⟨H1,s1,I1,hq⟩
 | ok fl =>
  cases fl with
  | ret u=>exact I1.after hq
  | next=>exact False.elim hq
  | brk=>exact False.elim hq
  | cont=>exact False.elim hq
end
section
variable {X:Cx} {a b c d:Expr} {ta tb tc td:TE} {pos:Pos}
end
section
variable {X:Cx}
end
theorem csR {X:Cx} {scope sc:Scope} {NL N N':List Str} {ρ:List Nat} (hsc:X.env.scope=sc) (hN:X.N=N) (h1:scope.kind=.function) (h2:(scope.names.all fun x=>x.2 != .cell)=true) (h3:∀ x∈scope.names,x.2=.local→scope.names.lookup x.1=some .local)
  (h4:(scope.names.all fun x=>x.2 != .free || sc.names.lookup x.1 == some .cell)=true) (h5:N'=NL++ρ.map fun j=>N.getD j "")
  (h6:(ρ.all fun j=>match N[j]? with | some x=>scope.names.lookup x == some .free && sc.names.lookup x == some .cell | none=>false)=true):CScope X scope NL ρ N':=by
 rw [aAC] at h2 h4 h6;refine ⟨h1,fun x hx e=>?_,h3,fun x hx e=>.inl ?_,by rw [hN];exact h5,fun j hj=>?_⟩
 ·have:=h2 x hx;rw [e] at this;exact absurd this (by decide)
 ·have z:=h4 x hx;rw [e] at z;have z2:(sc.names.lookup x.1 == some NameKind.cell)=true:=by simpa using z
  show X.env.scope.names.lookup x.1=some .cell;rw [hsc];exact beq_iff_eq.mp z2
 ·have z:=h6 j hj
  cases q:N[j]? with
  | none=>rw [q] at z;cases z
  | some x =>
   rw [q] at z;simp only [aAs,beq_iff_eq] at z;exact ⟨x,by rw [hN];exact q,z.1,.inl (by rw [hsc];exact z.2)⟩
theorem Bq:bootBuiltins "ValueError" = some (.type "ValueError"):=by decide +kernel
structure RoomH (k:Nat) (A:Around):Prop where
 dp:A.depth+3*k+5 < recursionLimit
 un:A.units+16*k+200 < cLine
structure FnOkH (P:Program) (w:World) (K:W.Frag) (mg:Str→Option Value) (base:Heap) (k:Nat) (f:Addr) (fd:FuncData) (ps:List Str) (sp:Sp):Prop where
 len:∀ vs H Q E,sp vs H Q E→vs.length=ps.length
 run:∀ (A:Around) (outer:List Env) (s:Shared) (H:Hp) (args:Args) (us:List Value) (vs:List V) (Q:VK) (E:XK),RoomH k A→Env0 P w K mg base A outer s H→BindsTo s fd args (ps.zip us)→Vals vs us→sp vs H Q E →
  codeAny (model P w) A (.call (.ref f) args) (CR CX0 outer P w H s Q E) s
section
variable {X:Cx}
end
end L2
namespace HT
open PySem PySem.Spec PyProof.Rows
section
variable {prog:Program} {w:World} {A:Around} {E:Value→Shared→Prop} {s:Shared}
end
end HT
namespace L2
open PySem PySem.Spec PyProof.Rows
section
variable {X:Cx}
theorem IsD.unref {K:W.Frag} {H:Hp} {l:List Dt} {v:V} (h:IsD K H (.tup l) v):∃ a xs,v=.ref a∧SqT K H a xs∧IsDs K H l xs:=by
 cases h with
 | tup h r=>exact ⟨_,_,rfl,h,r⟩
theorem wT:IxR X (fun x y H Q=>∃ l i d,IsD X.K H (.tup l) x∧y=.int i∧atI l i=some d∧∀ v,IsD X.K H d v→Q v H):=by
 intro value slice pins s σ H x y v u Q I rx ry h hs;obtain ⟨l,i,d,dx,rfl,ha,q⟩:=h;obtain ⟨a,xs,rfl,hx,ra⟩:=id dx.unref;obtain ⟨j,hj,hd,_⟩:=gy ha;have e1:=ra.length;obtain ⟨w',hw,dw⟩:=ra.get hd;have hat:atI xs i=some w':=by
  unfold atI at ha ⊢;rw [← e1]
  cases z:ixN l.length i with
  | none=>rw [z] at ha;cases ha
  | some j' =>
   rw [z] at ha;have ha':l[j']?=some d:=ha;obtain ⟨w2,hw2,dw2⟩:=ra.get ha';have z2:=i9 z;rw [hj] at z2;have:j=j':=Option.some.inj z2.1;subst this;exact hw
 exact uv value slice pins s σ H (.ref a) (.int i) v u Q I rx ry ⟨a,xs,i,w',rfl,rfl,hx,hat,q w' dw⟩ hs
theorem sR:aO X (.builtin "len") (fun xs H Q=>∃ x l,xs=[x]∧IsD X.K H (.tup l) x∧Q (.int l.length) H):=by
 intro pins s σ H xs us Q I r h;obtain ⟨x,l,rfl,dx,q⟩:=h;obtain ⟨a,ys,rfl,hx,ra⟩:=dx.unref;exact gz pins s σ H [.ref a] us Q I r ⟨a,ys,rfl,.inr hx,by rw [← ra.length];exact q⟩
end
end L2
namespace PySem
open Sem (wp)
section
variable {M:Model} {A:Around} {E:Value→Shared→Prop} {s:Shared}
def Heap.MadeB (base:Heap) (l:List Env) (e:Addr) (cls a0:Value) (h:Heap):Prop :=
 base.StaysIn h∧base.get? e=none∧h.FunFrames base l∧∃ oe vs,h.get? e=some oe∧oe.cls=cls∧oe.data=.fields vs∧vs[0]?=some a0∧vs[1]?=some .none
theorem sS {base:Heap} {env:Env} {outer:List Env} {L e:Addr} {cls a0:Value} {Q:Unit→Shared→Prop} (hfr:A.frames=some (env :: outer)) (hf:env.frame=some L) (hm:Heap.MadeB base (env :: outer) e cls a0 s.heap)
  (h:∀ h',Heap.HeldW base (env :: outer) e cls a0 L h'→s.heap.UpToSlots h'→Q () { s with heap:=h' }):wpAny M A (noteFrame (.ref e) env) Q E s:=by
 obtain ⟨hkb,hen,hl,oe,vs,he,hc,hd,h0,h1⟩:=hm;subst hc;unfold noteFrame;simp only [hf];refine wpAny_bind (wpAny_field he hd h1 ?_);rw [if_neg (by decide)];refine wpAny_entryW hfr hl hf he hkb hen hd (aBf.mp h1).1 h0 fun h' hN=>?_;obtain ⟨k1,k2,k3,k4⟩:=hN;exact h h' ⟨k1,hen,k2,k3⟩ k4
theorem qq {base:Heap} {env:Env} {outer:List Env} {L e:Addr} {cls a0:Value} {Q:Unit→Shared→Prop} (hfr:A.frames=some (env :: outer)) (hf:env.frame=some L) (hm:Heap.MadeB base (env :: outer) e cls a0 s.heap)
  (h:∀ h',Heap.FlyingW base outer e cls a0 h'→s.heap.UpToSlots h'→Q () { s with heap:=h' }):wpAny M A (leaving env (.ref e)) Q E s:=by
 obtain ⟨hkb,hen,hl,oe,vs,he,hc,hd,h0,h1⟩:=hm;subst hc;refine wpAny_leaving_firstW hfr hl hf he hkb hen hd h1 h0 fun h' hL=>?_;obtain ⟨k1,⟨_,_,k2⟩,k3,k4⟩:=hL;exact h h' ⟨k1,hen,k2,k3⟩ k4
theorem sT {base:Heap} {l:List Env} {e L:Addr} {cls a0:Value} {env:Env} {E2:Value→Shared→Prop} (hf:env.frame=some L) (R:Heap.HeldW base l e cls a0 L s.heap) (h:∀ h',Heap.HeldW base l e cls a0 L h'→s.heap.UpToSlots h'→E2 (.ref e) { s with heap:=h' }) :
  cameBackBy M A env E2 (.ref e) s:=by
 obtain ⟨hkb,hen,hl,oe,vs,T,oT,ts,he,hcls,hd,h1,hnT,hTe,hT,hdT,h3⟩:=R;have hsz3:3 < ts.size:=(aBf.mp h3).1;have other:∀ b,b≠T→∀ f:Obj→Obj,(s.heap.update T f).get? b=s.heap.get? b:=fun b hb f=>aBb _ _ (Ne.symm hb);have noRec:∀ b o,s.heap.get? b=some o→(∀ vs,o.data≠.fields vs)→b≠T:=fun b o hb hnf q=>by
  rw [q,hT] at hb
  cases hb
  exact hnf ts hdT
 unfold cameBackBy;refine wpAny_bind (wpAny_field he hd h1 ?_);rw [if_neg (show ¬ ((Value.ref T == Value.none)=true) from by simp)];unfold setFlight;refine wpAny_bind (wpAny_field he hd h1 ?_);rw [if_pos (show (Value.ref T != Value.none)=true from by simp)];refine wpAny_setField hT hdT hsz3 (h _ ⟨fun b o hbo=>(other b (fun q=>by rw [q,hnT] at hbo;cases hbo) _).trans (hkb b o hbo),hen,
  hl.of_keeps fun b o hb hnf=>⟨o,(other b (noRec b o hb hnf) _).trans hb,rfl⟩,?_⟩ fun b o hb hnf=>⟨o.slots,(other b (noRec b o hb hnf) _).trans hb⟩)
 exact ⟨oe,vs,T,_,_,(other e (Ne.symm hTe) _).trans he,hcls,hd,h1,hnT,hTe,aBd _ hT (Obj.isFreed_of_fields (Obj.data_mapFields hdT _)),Obj.data_mapFields hdT _,by simp [hsz3,hf]⟩
end
end PySem
namespace L2
open PySem PySem.Spec PyProof.Rows
def ia (X:Cx) (E:XK):Value→Shared→Prop:=fun e s'=>∃ (ea C:Addr) (a0:Value) (B:Heap) (H':Hp),e=.ref ea ∧
 (Heap.FlyingW B (X.env :: X.outer) ea (.ref C) a0 s'.heap∨Heap.HeldW B (X.env :: X.outer) ea (.ref C) a0 X.env.locals s'.heap∨Heap.MadeB B (X.env :: X.outer) ea (.ref C) a0 s'.heap)∧s'.os=X.s₀.os∧AllBare s'.gens ∧
 Un (frs X.outer) [] X.H₀ H' X.s₀.heap s'.heap∧HOk X.prog X.w H' B∧(∀ b o,X.s₀.heap.get? b=some o→X.H₀ b=none→b∉frs X.outer→B.get? b=some o) ∧
 (∀ b o,X.s₀.heap.get? b=some o→b∉frs X.outer→∃ o',B.get? b=some o')∧E (.ref C) none H'
section
variable {X:Cx} {E:XK}
theorem jb {H':Hp} {B h h2:Heap} (frf:∀ b∈frs X.outer,X.H₀ b=none) (u:Un (frs X.outer) [] X.H₀ H' X.s₀.heap h) (F:h.FunFrames B (X.env :: X.outer)) (up:h.UpToSlots h2) (st:B.StaysIn h2)
  (c1:∀ b o,X.s₀.heap.get? b=some o→X.H₀ b=none→b∉frs X.outer→B.get? b=some o) (c2:∀ b o,X.s₀.heap.get? b=some o→b∉frs X.outer→∃ o',B.get? b=some o'):Un (frs X.outer) [] X.H₀ H' X.s₀.heap h2:=by
 refine mn u c1 c2 st fun b o e hb=>?_;obtain ⟨sl,e1⟩:=u.slot b o e (frf b hb) hb (by simp);have mem:b∈frs (X.env :: X.outer):=by
  obtain ⟨env,he,hf⟩:=aAO.mp hb;exact aAO.mpr ⟨env,aAi _ he,hf⟩
 obtain ⟨o2,e2,nf⟩:=jw F mem;rw [e1] at e2;obtain rfl:=Option.some.inj e2;obtain ⟨sl2,e3⟩:=up b _ e1 nf;exact ⟨sl2,e3⟩
theorem jx {A:Around} (hA:A.frames=some (X.env :: X.outer)) (hfr:X.env.frame=some X.env.locals) (frf:∀ b∈frs X.outer,X.H₀ b=none):PassesOwn (model X.prog X.w) A X.env (ia X E):=by
 intro e s' h;obtain ⟨ea,C,a0,B,H',rfl,st,os,bare,un,hok,c1,c2,q⟩:=h;have fin:∀ {s2:Shared},s2.os=X.s₀.os→AllBare s2.gens→Un (frs X.outer) [] X.H₀ H' X.s₀.heap s2.heap→Heap.HeldW B (X.env :: X.outer) ea (.ref C) a0 X.env.locals s2.heap→cameBackBy (model X.prog X.w) A X.env (ia X E) (.ref ea) s2:=fun {s2} o2 b2 u2 hh =>
  sT hfr hh fun h' hh' up=>⟨ea,C,a0,B,H',rfl,.inr (.inl hh'),o2,b2,jb frf u2 hh.2.2.1 up hh'.1 c1 c2,hok,c1,c2,q⟩
 rcases st with fl | hh | hm
 ·exact wpAny_looks_onW hA hfr fl fun h' hh up=>fin (s2:={ s' with heap:=h' }) os bare (jb frf un fl.2.2.1 up hh.1 c1 c2) hh
 ·exact wpAny_noteFrame_againW hfr hh.2.2.2 (fin os bare un hh)
 ·exact sS hA hfr hm fun h' hh up=>fin (s2:={ s' with heap:=h' }) os bare (jb frf un hm.2.2.1 up hh.1 c1 c2) hh
theorem nU {A:Around} (hA:A.frames=some (X.env :: X.outer)) (hfr:X.env.frame=some X.env.locals) (frf:∀ b∈frs X.outer,X.H₀ b=none) {e:Value} {s':Shared} (h:ia X E e s') :
  wpAny (model X.prog X.w) A (leaving X.env e) (fun _ s''=>CXE X.prog X.w X.outer X.H₀ X.s₀ E e s'') (fun e' s''=>CXE X.prog X.w X.outer X.H₀ X.s₀ E e' s'') s':=by
 obtain ⟨ea,C,a0,B,H',rfl,st,os,bare,un,hok,c1,c2,q⟩:=h;have fin:∀ {h':Heap},s'.heap.FunFrames B (X.env :: X.outer)→Heap.FlyingW B X.outer ea (.ref C) a0 h'→s'.heap.UpToSlots h'→CXE X.prog X.w X.outer X.H₀ X.s₀ E (.ref ea) { s' with heap:=h' }:=fun {h'} F fl up =>
  ⟨ea,C,a0,B,H',rfl,fl,os,bare,jb frf un F up fl.1 c1 c2,hok,c1,c2,q⟩
 rcases st with fl | hh | hm
 ·exact wpAny_leaves_onW hA hfr fl fun h' fl' up=>fin fl.2.2.1 fl' up
 ·unfold leaving;refine wpAny_bind (wpAny_noteFrame_againW hfr hh.2.2.2 ?_);refine wpAny_landsW hh fun h' hfl up=>?_;obtain ⟨k1,k2,⟨_,_,k3⟩,k4⟩:=hfl;exact fin hh.2.2.1 ⟨k1,k2,k3,k4⟩ up
 ·exact qq hA hfr hm fun h' fl' up=>fin hm.2.2.1 fl' up
variable {pins:List (Addr×Obj)} {σ:St} {H:Hp} {s:Shared}
theorem sU {C:Addr} {ea:Addr} {vs:List Value} {h':Heap} {tk:Nat} (hstk:X.stack=X.env :: X.outer) (hfr:X.env.frame=some X.env.locals) (hex:X.ex=[]) (I:Inv X pins σ H s) (hm:Heap.MadeExcOf s.heap h' ea (.ref C) vs)
  (q:E (.ref C) none H):ia X E (.ref ea) { s with heap:=h',toks:=tk }:=by
 have F0:s.heap.FunFrames X.base (X.env :: X.outer):=by rw [← hstk];exact I.stack
 have mem:∀ b∈frs X.outer,b∈frs (X.env :: X.outer):=fun b hb=>by
  obtain ⟨env,he,hf⟩:=aAO.mp hb;exact aAO.mpr ⟨env,aAi _ he,hf⟩
 have inv:∀ b,b∈frs (X.env :: X.outer)→b=X.env.locals∨b∈frs X.outer:=fun b hb=>by
  obtain ⟨env,he,hf⟩:=aAO.mp hb;rcases aAp.mp he with rfl | he
  ·rw [hfr] at hf;exact .inl (Option.some.inj hf).symm
  ·exact .inr (aAO.mpr ⟨env,he,hf⟩)
 have hin:∀ env∈(X.env :: X.outer),∀ b,env.frame=some b→b∈frs (X.env :: X.outer):=fun env he b hb=>aAO.mpr ⟨env,he,hb⟩;have stayB:∀ b o,s.heap.get? b=some o→b∉frs (X.env :: X.outer)→(W.hideAll s.heap (frs (X.env :: X.outer))).get? b=some o:=fun b o e n=>W.hideAll_get _ e n;have old:∀ b o,X.s₀.heap.get? b=some o→b∉frs X.outer→b∉frs (X.env :: X.outer):=fun b o e n z=>by
  rcases inv b z with rfl | z
  ·exact absurd (aAj (aAf e) I.ok.above) (aAN _)
  ·exact n z
 have B0:Un X.fs [] X.H₀ H X.s₀.heap s.heap:=by have z:=I.base;rw [hex] at z;exact z
 have c1:∀ b o,X.s₀.heap.get? b=some o→X.H₀ b=none→b∉frs X.outer→(W.hideAll s.heap (frs (X.env :: X.outer))).get? b=some o:=fun b o e n hb=>stayB b o (B0.keep b o e n hb (by simp)) (old b o e hb);have c2:∀ b o,X.s₀.heap.get? b=some o→b∉frs X.outer→∃ o',(W.hideAll s.heap (frs (X.env :: X.outer))).get? b=some o':=fun b o e hb=>by
  obtain ⟨o',e'⟩:=B0.there b o e (by simp);exact ⟨o',stayB b o' e' (old b o e hb)⟩
 have FB:s.heap.FunFrames (W.hideAll s.heap (frs (X.env :: X.outer))) (X.env :: X.outer):=W.funFrames_hide F0 hin;obtain ⟨t,he,htn,ht⟩:=hm.there;have stays:(W.hideAll s.heap (frs (X.env :: X.outer))).StaysIn h':=fun b o e=>hm.keeps b o (W.of_hideAll _ e);have hen:(W.hideAll s.heap (frs (X.env :: X.outer))).get? ea=none:=by
  cases z:(W.hideAll s.heap (frs (X.env :: X.outer))).get? ea with
  | none=>rfl
  | some o =>
   have z2:=W.of_hideAll _ z;rw [hm.new] at z2
   cases z2
 refine ⟨ea,C,.ref t,_,H,rfl,.inr (.inr ⟨stays,hen,FB.of_keeps fun b o hb _=>⟨o,hm.keeps b o hb,rfl⟩,_,_,he,rfl,rfl,rfl,rfl⟩),I.os,I.bare,mn B0 c1 c2 stays fun b o e hb=>?_,fun b u e=>?_,c1,c2,q⟩
 ·obtain ⟨sl,e1⟩:=B0.slot b o e (I.ok.frf b hb) hb (by simp);exact ⟨sl,hm.keeps b _ e1⟩
 ·refine (I.hok b u e).stay (fun c v hc z=>stayB c v z fun hf=>?_) (fun _ z=>z) fun _ _ z=>z;have n0:H c=none:=by rw [← hstk] at hf;exact I.stkFree c hf
  rcases hc with rfl | hc
  ·rw [e] at n0;cases n0
  ·rw [hc] at n0;cases n0
theorem ps_raiseW {x:Str} {C:Addr} {e:Expr} {es:List Expr} {t:TA} {np cpos pos:Pos} (hstk:X.stack=X.env :: X.outer) (hfr:X.env.frame=some X.env.locals) (hex:X.ex=[]) (hc:X.calm=true) (G:ExC X.K X.mg x C) (hg:Gl X x) (ha:PA (X.wish (ia X E)) (e :: es) t)
  (hdb:(x == ("__debug__" : Str))=false:=by decide) (he:starEach (e :: es) X.env=(false,eval e X.env) :: starEach es X.env:=by rfl) (hpl:(backTo cpos (starEach es X.env)).any (·.1)=false:=by rfl) :
  PS (X.wish (ia X E)) (.Raise (some (.Call (.Name x np) (e :: es) [] cpos)) none pos) (Bp C E t):=by
 intro pins s σ H D I h;obtain ⟨bm,N,nm,qn,bs,hd,sn,sub,ab,col,dd,k0,k1,k2,k3,k5,mN,hC,hN,hni,T⟩:=wR (show X.K.In X.base from I.ok.mod.kin) G.q;refine wpAny_Raise_call_subT (C:=C) (nm:=nm) (q:=qn) (N:=N) (bs:=bs) (bm:=bm) (hdct:=hd) (sn:=sn) (sub:=sub) (ab:=ab) (col:=col) (dd:=dd) (k0:=k0) (k1:=k1) (k2:=k2) (k3:=k3) (k5:=k5) F.excBase_ValueError (mN:=mN) (T.hasType F.excBase_ValueError.hasBase) (I.ok.hd hc)
  (by show (backTo cpos (starEach (e :: es) X.env)).any (·.1)=false;rw [he];show (false || (backTo cpos (starEach es X.env)).any (·.1))=false;rw [hpl];rfl) hni (fo I hg G.m ⟨rfl,?_⟩ hdb)
 have z:=ha cpos pins s σ H _ I h;have he':starEach (e :: es) (X.wish (ia X E)).env=(false,eval e (X.wish (ia X E)).env) :: starEach es (X.wish (ia X E)).env:=he;rw [he'] at z ⊢;refine Calls.evalArgs_plain (wpAny_mono z (fun us s2 ⟨vs,H2,I2,r,hz,q⟩=>?_) fun _ _ y=>y);refine ⟨rfl,by show us.length≤sizeLine;rw [← r.length];exact hz,I2.bk _ _ hC,hN.keeps I2.bk,T.keeps I2.bk,fun h' ea hm=>?_⟩;exact sU (tk:=s2.toks) hstk hfr hex (Inv.unwish I2) hm q
theorem wing_on (hstk:X.stack=X.env :: X.outer) (hfr:X.env.frame=some X.env.locals) (hex:X.ex=[]):et (CXE X.prog X.w) (X.wish (ia X E)) E:=by
 intro pins σ H s e s' I' h;have I:Inv X pins σ H s:=Inv.unwish I';obtain ⟨ea,C,a0,B,H',rfl,fl,os,bare,un,hok,c1,c2,q⟩:=h;have hstk':(X.wish (ia X E)).stack=X.env :: X.outer:=hstk;rw [hstk'] at fl un c1 c2;have inv:∀ b,b∈frs (X.env :: X.outer)→b=X.env.locals∨b∈frs X.outer:=fun b hb=>by
  obtain ⟨env,he,hf⟩:=aAO.mp hb;rcases aAp.mp he with rfl | he
  ·rw [hfr] at hf;exact .inl (Option.some.inj hf).symm
  ·exact .inr (aAO.mpr ⟨env,he,hf⟩)
 have mem:∀ b∈frs X.outer,b∈frs (X.env :: X.outer):=fun b hb=>by
  obtain ⟨env,he,hf⟩:=aAO.mp hb;exact aAO.mpr ⟨env,aAi _ he,hf⟩
 have old:∀ b o,X.s₀.heap.get? b=some o→b∉frs X.outer→b∉frs (X.env :: X.outer):=fun b o e n z=>by
  rcases inv b z with rfl | z
  ·exact absurd (aAj (aAf e) I.ok.above) (aAN _)
  ·exact n z
 have B0:Un X.fs [] X.H₀ H X.s₀.heap s.heap:=by have z:=I.base;rw [hex] at z;exact z
 have d1:∀ b o,X.s₀.heap.get? b=some o→X.H₀ b=none→b∉frs X.outer→B.get? b=some o:=fun b o e n hb=>c1 b o (B0.keep b o e n hb (by simp)) (B0.free b o e n (by simp)) (old b o e hb);have d2:∀ b o,X.s₀.heap.get? b=some o→b∉frs X.outer→∃ o',B.get? b=some o':=fun b o e hb=>by
  obtain ⟨o',e'⟩:=B0.there b o e (by simp);exact c2 b o' e' (old b o e hb)
 refine ⟨ea,C,a0,B,H',rfl,.inl fl,os.trans I.os,bare,?_,hok,d1,d2,q⟩;refine ⟨fun b o e n hb _=>?_,fun b o e n hb _=>?_,fun b o e n _=>?_,fun b o e _=>?_,fun b xs e=>un.tups b xs (B0.tups b xs e),fun b o u e=>un.frzs b o u (B0.frzs b o u e),fun b ps e=>?_⟩
 ·exact un.keep b o (B0.keep b o e n hb (by simp)) (B0.free b o e n (by simp)) (old b o e hb) (by simp)
 ·obtain ⟨sl,e1⟩:=B0.slot b o e n hb (by simp);obtain ⟨sl2,e2⟩:=un.slot b _ e1 (B0.free b o e n (by simp)) (mem b hb) (by simp);exact ⟨sl2,e2⟩
 ·obtain ⟨o',e'⟩:=B0.there b o e (by simp);exact un.free b o' e' (B0.free b o e n (by simp)) (by simp)
 ·obtain ⟨o',e'⟩:=B0.there b o e (by simp);exact un.there b o' e' (by simp)
 ·obtain ⟨m1,e1⟩:=B0.tbls b ps e;obtain ⟨m2,e2⟩:=un.tbls b _ e1;exact ⟨m1++m2,by rw [e2,aBQ]⟩
end
theorem PSs.wing {X:Cx} {E:XK} {st:List Stmt} {t:TS} (hstk:X.stack=X.env :: X.outer) (hfr:X.env.frame=some X.env.locals) (hxe:X.xe=fun e s'=>wpAny (model X.prog X.w) X.A (leaving X.env e) (fun _ s''=>CXE X.prog X.w X.outer X.H₀ X.s₀ E e s'') (fun e' s''=>CXE X.prog X.w X.outer X.H₀ X.s₀ E e' s'') s')
  (h:PSs (X.wish (ia X E)) st t):PSs X st t:=fun pins s σ H D I hw =>
 wpAny_mono (h pins s σ H D (I.wish _) hw) (fun _ _ q=>q.unwish) fun e s' z=>by
  rw [hxe];exact nU (by rw [I.ok.frames,hstk]) hfr I.ok.frf z
theorem Fun.okW {P:Program} {w:World} {K:W.Frag} {mg:Str→Option Value} {base:Heap} {x qual:Str} {st:Stmt} {f:Addr} {fd:FuncData} {N ps:List Str} {k:Nat} {sp:Sp} (F:Fun K x qual st f fd) (S:FnScope N ps (ai st)) (len:∀ vs H Q E,sp vs H Q E→vs.length=ps.length)
  (hbody:∀ (cdv:Value) (A:Around) (outer:List Env) (s:Shared) (H:Hp) (vs:List V) (Q:VK) (E:XK),Room k (A.deeper (envOfC qual (ai st) s.heap.objs.size f cdv))→sp vs H Q E →
   ∃ t,PSs ((nv (CXE P w) P w K mg base N qual (ai st) f cdv A outer s H E).wish (ia (nv (CXE P w) P w K mg base N qual (ai st) f cdv A outer s H E) E)) (bi st) t∧t { nx:=fun _ H'=>Q .non H',rt:=Q } (gx N vs) H):FnOk P w K mg base (CXE P w) (k+1) f fd ps sp:=by
 obtain ⟨oc,od,kV,doc,pm,an,cdv,ct,osl,rfl,lk,hcd⟩:=F.ex;refine xZ lk hcd S len fun A outer s H vs Q E hr hsp=>?_;obtain ⟨t,h,q⟩:=hbody cdv A outer s H vs Q E hr hsp;exact ⟨t,PSs.wing rfl rfl rfl h,q⟩
section
variable {κ:Type} [DecidableEq κ]
def bV (kvs:List (κ×V)) (k:κ):Option V:=(kvs.find? fun kv=>decide (kv.1=k)).map (·.2)
def iV (kvs:List (κ×V)) (k:κ) (v:V):List (κ×V) :=
 if (kvs.any fun kv=>decide (kv.1=k))=true then kvs.map (fun kv=>if kv.1=k then (kv.1,v) else kv) else kvs++[(k,v)]
theorem nV {p:κ×V} {r:List (κ×V)} {k:κ} (e:p.1=k):bV (p :: r) k=some p.2:=by simp [bV,aA7,e]
theorem nW {p:κ×V} {r:List (κ×V)} {k:κ} (e:¬ p.1=k):bV (p :: r) k=bV r k:=by simp [bV,aA7,e]
theorem nX (kvs:List (κ×V)) (k:κ) (v:V):(iV kvs k v).length≤kvs.length+1:=by
 unfold iV
 split
 ·rw [aAa];lia
 ·rw [aAk,aAe,aAI];lia
theorem KV.val {kvs:List (κ×V)} {vs:List (κ×Value)} (r:KV kvs vs) (k:κ):RelO (bV kvs k) (valueAt vs k):=by
 unfold KV at r
 induction r with
 | nil=>exact True.intro
 | @cons p q ps qs h t ih =>
  obtain ⟨h1,h2⟩:=h
  by_cases e:p.1=k
  ·have e':q.1=k:=h1.symm.trans e;have b:valueAt (q :: qs) k=some q.2:=by simp [valueAt,aA7,e']
   rw [nV e,b];exact h2
  ·have e':¬ q.1=k:=fun z=>e (h1.trans z);have b:valueAt (q :: qs) k=valueAt qs k:=by simp [valueAt,aA7,e']
   rw [nW e,b];exact ih
theorem KV.any {kvs:List (κ×V)} {vs:List (κ×Value)} (r:KV kvs vs) (k:κ):(kvs.any fun kv=>decide (kv.1=k))=vs.any fun kv=>decide (kv.1=k):=by
 unfold KV at r
 induction r with
 | nil=>rfl
 | cons h t ih=>rw [aBV,aBV,ih,h.1]
theorem KV.repl {kvs:List (κ×V)} {vs:List (κ×Value)} (r:KV kvs vs) (k:κ) {y:V} {u:Value} (ry:RelV y u) :
  KV (kvs.map fun kv=>if kv.1=k then (kv.1,y) else kv) (vs.map fun kv=>if kv.1=k then (kv.1,u) else kv):=by
 unfold KV at r ⊢
 induction r with
 | nil=>exact .nil
 | @cons p q ps qs h t ih =>
  rw [aAt,aAt];refine .cons ?_ ih;obtain ⟨h1,h2⟩:=h
  by_cases e:p.1=k
  ·rw [if_pos e,if_pos (h1.symm.trans e)];exact ⟨h1,ry⟩
  ·rw [if_neg e,if_neg (fun z=>e (h1.trans z))];exact ⟨h1,h2⟩
theorem KV.put {kvs:List (κ×V)} {vs:List (κ×Value)} (r:KV kvs vs) (k:κ) {y:V} {u:Value} (ry:RelV y u):KV (iV kvs k y) (stored vs k u):=by
 unfold iV stored;rw [r.any k]
 by_cases e:(vs.any fun kv=>decide (kv.1=k))=true
 ·rw [if_pos e,if_pos e];exact r.repl k ry
 ·rw [if_neg e,if_neg e];exact Paired.snoc r ⟨rfl,ry⟩
theorem KV.keys {kvs:List (κ×V)} {vs:List (κ×Value)} (r:KV kvs vs):kvs.map (·.1)=vs.map (·.1):=by
 unfold KV at r
 induction r with
 | nil=>rfl
 | cons h t ih=>rw [aAt,aAt,ih,h.1]
theorem KV.length {kvs:List (κ×V)} {vs:List (κ×Value)} (r:KV kvs vs):kvs.length=vs.length:=Paired.length r
end
theorem nY {P:Program} {w:World} {k:Key} {u:Value} (r:RelV (kV k) u):(av P w).is k u=true:=by
 cases k with
 | inl i=>obtain ⟨t,e⟩:=(show ∃ t,u=Value.int i t from r);subst e;exact nh P w i t
 | inr x=>obtain ⟨t,e⟩:=(show ∃ t,u=Value.str x t from r);subst e;exact nj P w x t
theorem ib {P:Program} {w:World}:∀ {ks:List Key} {us:List Value},Vals (ks.map kV) us→ItemsAre (av P w) ks us
 | [],_,r=>by rw [aBw] at r;cases r;exact .nil
 | k :: ks,_,r=>by
  rw [aAt] at r
  cases r with
  | cons h t=>exact .cons (nY h) (ib t)
abbrev KT (H:Hp):List (List Key×V)→List (List Key×Addr×Value)→Prop:=Paired fun p q=>p.1=q.1∧H q.2.1=some (.tup (p.1.map kV))∧RelV p.2 q.2.2
theorem KT.val {H:Hp} {kvs:List (List Key×V)} {xs:List (List Key×Addr×Value)} (r:KT H kvs xs) (k:List Key):RelO (bV kvs k) ((atKey xs k).map (·.2)):=by
 induction r with
 | nil=>exact True.intro
 | @cons p q ps qs h t ih =>
  obtain ⟨h1,_,h2⟩:=h
  by_cases e:p.1=k
  ·have e':q.1=k:=h1.symm.trans e;have b:atKey (q :: qs) k=some q.2:=by simp [atKey,aA7,e']
   rw [nV e,b];exact h2
  ·have e':¬ q.1=k:=fun z=>e (h1.trans z);have b:atKey (q :: qs) k=atKey qs k:=by simp [atKey,aA7,e']
   rw [nW e,b];exact ih
theorem KT.keeps {H H':Hp} {kvs:List (List Key×V)} {xs:List (List Key×Addr×Value)} (r:KT H kvs xs) (ht:∀ b ys,H b=some (.tup ys)→H' b=some (.tup ys)):KT H' kvs xs :=
 Paired.mapP r fun _ _ z=>⟨z.1,ht _ _ z.2.1,z.2.2⟩
section
variable {P:Program} {w:World} {H:Hp} {h:Heap} {a:Addr}
theorem x6 {u:HO} (ok:HOk P w H h) (e:Rd H a u):ObjOk P w H h a u:=e.ok ok
theorem qY {kvs:List (Key×V)} (ok:HOk P w H h) (e:Rd H a (.dK kvs)):kvs.length≤sizeLine∧(a == sysModules)=false∧∃ vs,KV kvs vs∧h.DictOf (av P w) a vs :=
 show ObjOk P w H h a (.dK kvs) from x6 ok e
theorem Hf {kvs:List (Key×V)} (ok:HOk P w H h) (e:H a=some (.dK kvs)):kvs.length≤sizeLine∧(a == sysModules)=false∧∃ vs,KV kvs vs∧h.DictOf (av P w) a vs:=qY ok (.inl e)
theorem uL {ks:List Key} (ok:HOk P w H h) (e:H a=some (.tup (ks.map kV))):(tupleKind (av P w)).is h ks a:=by
 obtain ⟨_,its,r,o,h1,h2,n,h3⟩:=(show ObjOk P w H h a (.tup (ks.map kV)) from ok a _ e);exact ⟨o,its.toArray,n,h1,h2,h3,by simpa using ib r⟩
theorem x8 {kvs:List (List Key×V)} (ok:HOk P w H h) (e:Rd H a (.dT kvs)):kvs.length≤sizeLine∧(a == sysModules)=false ∧
  ∃ xs,KT H kvs xs∧h.DictOfH (tupleKind (av P w)) a xs:=by
 obtain ⟨z,y,xs,r,o,es,ep,h1,h2,h3,h4,h5⟩:=(show ObjOk P w H h a (.dT kvs) from x6 ok e);refine ⟨z,y,xs,r,o,es,ep,h1,h2,h3,h4,fun x hx=>?_,h5⟩;have all:∀ {l:List (List Key×V)} {m:List (List Key×Addr×Value)},KT H l m→∀ x∈m,(tupleKind (av P w)).is h x.1 x.2.1:=by
  intro l m q
  induction q with
  | nil=>intro x hx;exact nomatch hx
  | @cons p q ps qs hq t ih =>
   intro x hx;rcases aAp.mp hx with e | hx
   ·subst e;exact uL ok (by rw [← hq.1];exact hq.2.1)
   ·exact ih x hx
 exact all r x hx
end
def DGet (H:Hp) (a:Addr) (y:V) (r:Option V):Prop :=
 (∃ kvs k,Rd H a (.dK kvs)∧y=kV k∧r=bV kvs k)∨∃ kvs k b,Rd H a (.dT kvs)∧y=.ref b∧H b=some (.tup (k.map kV))∧r=bV kvs k
def DPut (H:Hp) (a:Addr) (y v:V) (H':Hp):Prop :=
 (∃ kvs k,H a=some (.dK kvs)∧y=kV k∧kvs.length < sizeLine∧H'=upd H a (.dK (iV kvs k v))) ∨
 ∃ kvs k b,H a=some (.dT kvs)∧y=.ref b∧H b=some (.tup (k.map kV))∧kvs.length < sizeLine∧H'=upd H a (.dT (iV kvs k v))
theorem DGet.k {H:Hp} {a:Addr} {kvs:List (Key×V)} {k:Key} (e:H a=some (.dK kvs)):DGet H a (kV k) (bV kvs k):=.inl ⟨kvs,k,.inl e,rfl,rfl⟩
theorem DGet.t {H:Hp} {a b:Addr} {kvs:List (List Key×V)} {k:List Key} (e:H a=some (.dT kvs)) (eb:H b=some (.tup (k.map kV))):DGet H a (.ref b) (bV kvs k):=.inr ⟨kvs,k,b,.inl e,rfl,eb,rfl⟩
theorem DPut.k {H:Hp} {a:Addr} {kvs:List (Key×V)} {k:Key} {v:V} (e:H a=some (.dK kvs)) (hl:kvs.length < sizeLine):DPut H a (kV k) v (upd H a (.dK (iV kvs k v))):=.inl ⟨kvs,k,e,rfl,hl,rfl⟩
theorem DPut.t {H:Hp} {a b:Addr} {kvs:List (List Key×V)} {k:List Key} {v:V} (e:H a=some (.dT kvs)) (eb:H b=some (.tup (k.map kV))) (hl:kvs.length < sizeLine) :
  DPut H a (.ref b) v (upd H a (.dT (iV kvs k v))):=.inr ⟨kvs,k,b,e,rfl,eb,hl,rfl⟩
section
variable {X:Cx} {pins:List (Addr×Obj)} {σ:St} {H:Hp} {s:Shared} {a:Addr} {y v:V} {u r:Value} {o:Option V} {A:Around} {E:Value→Shared→Prop}
theorem Inv.big (I:Inv X pins σ H s):sysModules < s.heap.objs.size:=by
 have h:mainGlobals < s.heap.objs.size:=(I.mod.glob.keeps I.bk).lt;exact aBc (by decide) h
theorem sV {Q:Value→Shared→Prop} (hu:A.units+1 < cLine) (I:Inv X pins σ H s) (g:DGet H a y (some v)) (ry:RelV y u) (h:∀ w' s',Inv X pins σ H s'→RelV v w'→Q w' s') :
  wpAny (model X.prog X.w) A (getItem (.ref a) u) Q E s:=by
 rcases g with ⟨kvs,k,e,ey,l⟩ | ⟨kvs,k,b,e,ey,eb,l⟩
 ·subst ey;obtain ⟨z,hd,vs,rel,dd⟩:=qY I.hok e;obtain ⟨w',hw,rw'⟩:=RelO.some_of (v:=v) (o:=valueAt vs k) (by rw [l];exact rel.val k);exact wpAny_getItem_of (nY ry) dd.mapOf hw (h w' _ (I.tok _) rw')
 ·subst ey
  cases (show u=Value.ref b from ry)
  obtain ⟨z,hd,xs,rel,dd⟩:=x8 I.hok e;obtain ⟨w',hw,rw'⟩:=RelO.some_of (v:=v) (o:=(atKey xs k).map (·.2)) (by rw [l];exact rel.val k);obtain ⟨p,hp,hp2⟩:=aAh.mp hw;refine wpAny_getItem_heap (tupleKind_room_in1 hu) (uL I.hok eb) dd hp ?_;rw [hp2];exact h w' _ (I.tok _) rw'
theorem wU {h':Heap} {t':Nat} {ob:HO} (I:Inv X pins σ H s) (mu:Mut (H a)) (hs:Heap.SameBut a s.heap h') (he:∃ q,h'.get? a=some q) (new:ObjOk X.prog X.w (upd H a ob) h' a ob) :
  Inv X pins σ (upd H a ob) { s with heap:=h',toks:=t' } :=
 I.write (x:=a) (e:=a) mu (.inl rfl) (fun b q hb z=>(hs.2 b hb).trans z) he new
theorem uM {P:Program} {w:World} {H':Hp} {h':Heap} {kvs:List (Key×V)} {vs:List (Key×Value)} (z:kvs.length≤sizeLine) (hd:(a == sysModules)=false) (rel:KV kvs vs) (dd:h'.DictOf (av P w) a vs) :
  ObjOk P w H' h' a (.dK kvs):=⟨z,hd,vs,rel,dd⟩
end
section
variable {X:Cx} {pins:List (Addr×Obj)} {σ:St} {H:Hp} {s:Shared} {a:Addr} {kvs:List (Key×V)} {k:Key} {u:Value} {A:Around} {E:Value→Shared→Prop}
end
def Br (i:Expr):Prop:=∀ ov iv,subscripted i false ov iv=operate [ov,iv] (getItem ov iv)
theorem qZ {prog:Program} {w:World} {A:Around} {E:Value→Shared→Prop} {s:Shared} {env:Env} {value slice:Expr} {pos:Pos} {T id:String} {Q:Value→Shared→Prop}
  (hl:typeLookup (.type T) "__getitem__" = pure (some (.builtin id))) (hs:Br slice)
  (h:wpAny (model prog w) A (eval value env) (fun o s₁=>wpAny (model prog w) A (eval slice env) (fun i s₂=>s₂.TypeIs o T∧wpAny (model prog w) A (getItem o i) Q E s₂) E s₁) E s) :
  wpAny (model prog w) A (eval (.Subscript value slice pos) env) Q E s:=by
 refine Subscript_ (wpAny_mono h (fun o s₁ h₁=>wpAny_mono h₁ (fun i s₂ h₂=>?_) fun _ _ x=>x) fun _ _ x=>x);obtain ⟨hT,h₂⟩:=h₂;unfold subscriptTail;refine wpAny_bind ?_;rw [getitemInPython_of_ne hT.not_modules];refine wpAny_bind (wpAny_specialOf hT hl ?_);have fin:wpAny (model prog w) A (subscripted slice false o i) (fun r s₃=>wpAny (model prog w) A (letTemporaryGo value o r >>= fun _=>pure r) Q E s₃) E s₂:=by
  rw [hs o i];exact wpAny_operating (wpAny_mono h₂ (fun r s₃ h₃=>wpAny_bind (wpAny_letTemporaryGo (wpAny_pure h₃))) fun _ _ x=>x)
 first
  | exact wpAny_pure (wpAny_bind fin)
  | exact wpAny_bind (wpAny_pure (wpAny_bind fin))
  | exact wpAny_bind fin
theorem nZ {X:Cx} {pins:List (Addr×Obj)} {σ:St} {H:Hp} {s:Shared} {a:Addr} {y:V} {o:Option V} (I:Inv X pins σ H s) (g:DGet H a y o):s.TypeIs (.ref a) "dict" :=by
 rcases g with ⟨kvs,k,e,_,_⟩ | ⟨kvs,k,b,e,_,_,_⟩
 ·obtain ⟨_,_,vs,_,dd⟩:=qY I.hok e;exact dd.typeIs
 ·obtain ⟨_,_,xs,_,dd⟩:=x8 I.hok e;exact dd.typeIs
def Hg (td ty:TE):TE:=fun σ H Q=>td σ H fun x H1=>ty σ H1 fun y H2=>∃ a v,x=.ref a∧DGet H2 a y (some v)∧Q v H2
section
variable {X:Cx} {o i e value:Expr} {pos pos' tpos:Pos} {td ty tv:TE}
theorem jc (hu:X.A.units+1 < cLine) (ho:PE X o td) (hi:PE X i ty) (hs:Br i):PE X (.Subscript o i pos) (Hg td ty):=by
 intro pins s σ H Q I h;refine qZ PySem.F.slot_dict_getitem.lookup hs (thn (ho pins s σ H _ I h) fun u s1 ⟨x,H1,I1,rx,q1⟩=>thn (hi pins s1 σ H1 _ I1 q1) fun iv s2 ⟨y,H2,I2,ry,a,v,ex,g,q2⟩=>?_);subst ex;obtain rfl:u=Value.ref a:=rx;exact ⟨nZ I2 g,sV hu I2 g ry fun w' s3 I3 rw'=>⟨v,H2,I3,rw',q2⟩⟩
end
theorem uN {P:Program} {w:World} {H:Hp} (h:Heap) (hb:sysModules < h.objs.size):ObjOk P w H (h.push { cls:=.type "dict",data:=.dict #[] }) h.objs.size (.dK []) :=
 ⟨aAx _,beq_eq_false_iff_ne.mpr (Ne.symm (aAy hb)),[],.nil,Heap.DictOf.new h⟩
section
variable {X:Cx} {pos:Pos}
end
def qr:List (TE×TE)→St→Hp→(List (V×V)→Hp→Prop)→Prop
 | [],_,H,Q=>Q [] H
 | (tk,tv) :: r,σ,H,Q=>tk σ H fun x H1=>tv σ H1 fun y H2=>qr r σ H2 fun ps H3=>Q ((x,y) :: ps) H3
abbrev VV:List (V×V)→List (Value×Value)→Prop:=Paired fun p q=>RelV p.1 q.1∧RelV p.2 q.2
def PPs (X:Cx) (pos:Pos) (keys:List (Option Expr)) (values:List Expr) (trs:List (TE×TE)):Prop :=
 ∀ (pins:List (Addr×Obj)) (s:Shared) (σ:St) (H:Hp) (Q:List (V×V)→Hp→Prop),Inv X pins σ H s→qr trs σ H Q →
  wpAny (model X.prog X.w) X.A (evalPairs (pairTrees keys values X.env pos)) (fun vs s'=>∃ ps H',Inv X pins σ H' s'∧VV ps vs∧Q ps H') X.xe s
theorem wV {X:Cx} {pos:Pos}:PPs X pos [] [] []:=fun pins s σ H Q I h=>pairTrees_nil_walk ⟨[],H,I,.nil,h⟩
theorem jy {X:Cx} {pos:Pos} {k v:Expr} {ks:List (Option Expr)} {vs:List Expr} {tk tv:TE} {trs:List (TE×TE)} (hk:PE X k tk) (hv:PE X v tv) (hr:PPs X pos ks vs trs) :
  PPs X pos (some k :: ks) (v :: vs) ((tk,tv) :: trs):=fun pins s σ H Q I h =>
 pairTrees_cons_walk (thn (hk pins s σ H _ I h) fun u s1 ⟨x,H1,I1,rx,q1⟩=>thn (hv pins s1 σ H1 _ I1 q1) fun w2 s2 ⟨y,H2,I2,ry,q2⟩ =>
  thn (hr pins s2 σ H2 _ I2 q2) fun ws s3 ⟨ps,H3,I3,rel,q3⟩=>⟨(x,y) :: ps,H3,I3,.cons ⟨rx,ry⟩ rel,q3⟩)
def cE (kvs more:List (Key×V)):List (Key×V):=more.foldl (fun acc kv=>iV acc kv.1 kv.2) kvs
theorem KV.merge:∀ {more:List (Key×V)} {rs:List (Key×Value)} {kvs:List (Key×V)} {vs:List (Key×Value)},KV more rs→KV kvs vs→KV (cE kvs more) (merged vs rs):=by
 intro more rs kvs vs r;unfold KV at r
 induction r generalizing kvs vs with
 | nil=>intro q;exact q
 | @cons p q ps qs h t ih =>
  intro r0;have e:KV (iV kvs p.1 p.2) (stored vs q.1 q.2):=by
   have:=r0.put p.1 h.2;rw [← h.1];exact this
  exact ih e
theorem fN:∀ (more kvs:List (Key×V)),(cE kvs more).length≤kvs.length+more.length
 | [],kvs=>by show kvs.length≤kvs.length+0;lia
 | p :: r,kvs=>by
  have h1:=fN r (iV kvs p.1 p.2);have h2:=nX kvs p.1 p.2;show (cE (iV kvs p.1 p.2) r).length≤_;rw [aAe];lia
theorem jz {P:Program} {w:World}:∀ {kvs:List (Key×V)} {ws:List (Value×Value)},VV (kvs.map fun kv=>(kV kv.1,kv.2)) ws→∃ rs,Carries (av P w) ws rs∧KV kvs rs
 | [],_,r=>by rw [aBw] at r;cases r;exact ⟨[],True.intro,.nil⟩
 | p :: kvs,_,r=>by
  rw [aAt] at r
  cases r with
  | @cons a b as bs h t =>
   obtain ⟨rs,c,q⟩:=jz (P:=P) (w:=w) t;obtain ⟨b1,b2⟩:=b;exact ⟨(p.1,b2) :: rs,⟨nY h.1,rfl,c⟩,.cons ⟨rfl,h.2⟩ q⟩
def Hh (trs:List (TE×TE)):TE:=fun σ H Q=>∀ p,H p=none→qr trs σ (upd H p (.dK [])) fun ps H2=>H2 p=some (.dK [])∧∃ kvs:List (Key×V),ps=kvs.map (fun kv=>(kV kv.1,kv.2))∧kvs.length≤15∧Q (.ref p) (upd H2 p (.dK (cE [] kvs)))
theorem wW {X:Cx} {pos:Pos} {keys:List (Option Expr)} {values:List Expr} {trs:List (TE×TE)} (h:PPs X pos keys values trs) (hall:keys.all (·.isSome)=true) (hl:keys.length=values.length) (h0:keys≠[])
  (h15:keys.length≤15):PE X (.Dict keys values pos) (Hh trs):=by
 intro pins s σ H Q I q;have hn:=I.hok.fresh (aAl s.heap.objs.size);have I1:=I.laid (a:=s.heap.objs.size) (o:=.dK []) (h':=s.heap.push { cls:=.type "dict",data:=.dict #[] }) (t':=s.toks) (fun _ _ q=>aAb _ q) (aAl _) (uN s.heap I.big);refine wpAny_Dict_walk (knd:=av X.prog X.w) hall hl h0 h15 (thn (h pins _ σ _ _ I1 (q _ hn)) fun ws s2 ⟨ps,H2,I2,rel,e,kvs,ep,lk,q2⟩=>?_);subst ep;obtain ⟨rs,c,rk⟩:=jz (P:=X.prog) (w:=X.w) rel;obtain ⟨z,hd,vs0,r0,dd⟩:=Hf I2.hok e
 cases r0
 refine ⟨rs,c,dd,fun h' dd' hs=>⟨.ref s.heap.objs.size,_,?_,rfl,q2⟩⟩;have hz:(cE [] kvs).length≤sizeLine:=by
  have h1:=fN kvs [];rw [aAI] at h1;rw [sizeLine_eq];lia
 have he:∃ q,h'.get? s.heap.objs.size=some q:=let ⟨q,_,_,hq,_⟩:=dd';⟨q,hq⟩;exact wU I2 (by rw [e];exact True.intro) hs he (uM hz hd (rk.merge .nil) dd')
section
variable {X:Cx} {pins:List (Addr×Obj)} {σ:St} {H:Hp} {s:Shared} {a:Addr} {y d:V} {u r:Value} {o:Option V} {A:Around} {E:Value→Shared→Prop}
end
section
variable {X:Cx} {o e f:Expr} {apos cpos:Pos} {td ty tx:TE}
end
section
variable {X:Cx} {pins:List (Addr×Obj)} {σ:St} {H:Hp} {s:Shared} {a:Addr} {kvs:List (Key×V)} {A:Around} {E:Value→Shared→Prop}
end
section
variable {X:Cx} {pins:List (Addr×Obj)} {σ:St} {H:Hp} {s:Shared} {a:Addr} {y:V} {u:Value} {A:Around} {E:Value→Shared→Prop}
end
end L2
namespace PySem
open Sem (wp)
namespace F
theorem entry_dict_update_loop:entryFor table "dict.update.loop" = some Builtin.«dict.update.loop»:=entryFor_of_tree (by kernel_rfl)
theorem plain_dict_update_loop:plainId "dict.update.loop" = true:=by decide +kernel
theorem miss_keys_tuple:typeLookup (.type "tuple") "keys" = pure none:=by rw [typeLookup_type,builtinLookup_eq_fast];kernel_rfl
end F
theorem iW {prog:Program} {w:World} {A:Around} {E:Value→Shared→Prop} {s:Shared} {a:Addr} {o:Obj} {xs:Array Value} {k:Nat} {Q:Option Value→Shared→Prop}
  (hx:s.heap.get? a=some o) (hc:o.cls=.type "tuple") (hdat:o.data=.seq xs k) (hd:o.dict=none) (hA:A.handled=none)
  (h:∀ h' tk e,Heap.NewExcOf s.heap h' e "AttributeError" →Q none { s with heap:=h',toks:=tk }) :
  wpAny (model prog w) A (getAttr? (.ref a) "keys") Q E s:=by
 obtain ⟨c,dct,dat,sl⟩:=o;simp only at hc hdat hd;subst hc hdat hd;obtain ⟨hp,g,d,tk,os⟩:=s;have hT:∀ tk',(⟨hp,g,d,tk',os⟩:Shared).TypeIs (.ref a) "tuple" :=fun _=>⟨_,hx,rfl⟩;have f1:=sub_AttributeError;have f3:=F.slot_tuple_getattribute.lookup;have f4:=F.slot_tuple_getattribute.bind (.ref a);have f5:=am_tuple_getattr_none;unfold getAttr? getAttrBy? getAttrBy
 repeat (any_goals (first | assumption | exact hT _ | ((with_reducible show wpAny _ _ (call (Value.builtin "tuple.__getattribute__") _ _) _ _ _);refine call_meets F.slot_tuple_getattribute (hT _) am_entry_tuple_getattribute (F.args_tuple_getattribute_2 _ _) (meets_getattribute_miss_tuple a xs k sl "keys" _ F.miss_keys_tuple (by decide)) ⟨hx,hA,fun h' tk' e hx'=>?_⟩) | wp_step))
 obtain ⟨t',u',he⟩:=hx'.there;show wpAny _ _ (getattributeRaised _ _ _ _ _ _ _) _ _ _;unfold getattributeRaised
 repeat (any_goals (first | assumption | wp_step))
 all_goals exact h _ _ _ hx'.of
end PySem
namespace PySem
open Sem (wp)
section
variable {prog:Program} {w:World} {K:Type} [DecidableEq K] {knd:KeyKind prog w K} {A:Around} {E:Value→Shared→Prop}
def Heap.PairItems (h:Heap) (knd:KeyKind prog w K) (items:Array Value) (kvs:List (K×Value)):Prop :=
 items.size=kvs.length∧∀ (i:Nat) (kv:K×Value),kvs[i]?=some kv→∃ (a:Addr) (key:Value),items[i]?=some (.ref a)∧h.IsTuple a #[key,kv.2]∧knd.is kv.1 key=true
theorem Heap.PairItems.stay {h h':Heap} {items:Array Value} {kvs:List (K×Value)} (x:h.PairItems knd items kvs) (k:∀ (i:Nat) (a:Addr) (o:Obj),items[i]?=some (.ref a)→h.get? a=some o→h'.get? a=some o):h'.PairItems knd items kvs :=
 ⟨x.1,fun i kv e=>by
  obtain ⟨a,key,e1,⟨o,e2,r⟩,e3⟩:=x.2 i kv e;exact ⟨a,key,e1,⟨o,k i a o e1 e2,r⟩,e3⟩⟩
theorem gB {t it d:Addr} {items:Array Value} {kvs:List (K×Value)} {R:Result→Shared→Prop} (hh:A.handled=none) (hdt:t≠d) (hit:t≠it) (hdi:d≠it) (hav:∀ (i:Nat) (a:Addr),items[i]?=some (.ref a)→a≠d∧a≠it) (hsz:kvs.length+kvs.length≤sizeLine) :
  ∀ (n i:Nat) (s:Shared) (acc:List (K×Value)),kvs.length - i=n→i≤kvs.length→acc.length≤i→s.heap.IsTuple t items→s.heap.PairItems knd items kvs→s.heap.IsTupleIter it t i→s.heap.DictOf knd d acc →
   (∀ h' tk,h'.DictOf knd d (merged acc (kvs.drop i))→(∀ b o,b≠d→b≠it→s.heap.get? b=some o→h'.get? b=some o)→R (.ok (.ret .none)) { s with heap:=h',toks:=tk }) →
   codeAny (model prog w) A (.builtin "dict.update.loop" ⟨[.ref d,.ref it,rawInt i,.none],[]⟩) R s:=by
 intro n
 induction n with
 | zero =>
  intro i s acc hn hi ha ht hp hs hd hR;have e:i=kvs.length:=by lia
  refine codeAny_builtin F.entry_dict_update_loop ?_;rw [Around.under_plainId F.plain_dict_update_loop _];show wpAny _ A.in1 (pyNext (.ref it) >>= _) _ _ s;refine wpAny_bind (wpAny_pyNext_tuple_end (by first | exact hh | simpa using hh) hs ht (by rw [e,← hp.1];simp) fun h' eb=>?_);show wpAny _ _ (Builtin.Dict.addKeywords d [] >>= _) _ _ _;have hd':h'.DictOf knd d acc:=by
   obtain ⟨o,es,ep,ho,r⟩:=hd;exact ⟨o,es,ep,eb d o hdi ho,r⟩
  have q:=hR h' s.toks (by rw [e,List.drop_length];exact hd') fun b o _ hb z=>eb b o hb z;exact wpAny_bind (wpAny_pure (wpAny_pure q))
 | succ n ih =>
  intro i s acc hn hi ha ht hp hs hd hR;have hlt:i < kvs.length:=by lia
  obtain ⟨kv,hkv⟩:∃ kv,kvs[i]?=some kv:=⟨_,aAm hlt⟩;obtain ⟨a,key,hx,hpair,hkey⟩:=hp.2 i kv hkv;refine codeAny_builtin F.entry_dict_update_loop ?_;rw [Around.under_plainId F.plain_dict_update_loop _];show wpAny _ A.in1 (pyNext (.ref it) >>= _) _ _ s;refine wpAny_bind (wpAny_pyNext_tuple_item hs ht hx fun h1 hs1 sb=>?_);obtain ⟨av1,av2⟩:=hav i a hx;have keep1:∀ b o,b≠it→s.heap.get? b=some o→h1.get? b=some o:=fun b o hb z=>(sb.2 b hb).trans z;obtain ⟨po,pe,pc,pn,pd⟩:=hpair;have pe1:=keep1 a po av2 pe;have hd1:h1.DictOf knd d acc:=by
   obtain ⟨o,es,ep,ho,r⟩:=hd;exact ⟨o,es,ep,keep1 d o hdi ho,r⟩
  refine wpAny_bind (wpAny_holding ?_);refine wpAny_bind (wpAny_tryCatch ?_);unfold Builtin.Dict.pairItems;refine wpAny_bind (wpAny_typeOf (T:= "tuple") ⟨_,pe1,pc⟩ ?_);rw [if_pos (by decide)];refine wpAny_bind (wpAny_seqItems pe1 pd ?_);refine wpAny_pure ?_;show wpAny _ _ (holding [key,kv.2] (dictSet d key kv.2)) _ _ _;refine wpAny_holding (wpAny_dictSet_pairs (s:={ s with heap:=h1 }) hkey hd1 (fun h2 hd2 sb2=>?_) (by lia));refine wpAny_pure ⟨plainId_quiet F.plain_dict_update_loop _,?_⟩;have keep2:∀ b o,b≠d→b≠it→s.heap.get? b=some o→h2.get? b=some o:=fun b o hb hb' z=>(sb2.2 b hb).trans (keep1 b o hb' z);have hlen:(stored acc kv.1 kv.2).length≤i+1:=by have:=stored_length_le acc kv.1 kv.2;lia
  have ht2:h2.IsTuple t items:=by
   obtain ⟨o,ho,r⟩:=ht;exact ⟨o,keep2 t o hdt hit ho,r⟩
  have hs2:h2.IsTupleIter it t (i+1):=by
   obtain ⟨o,ho,r⟩:=hs1;exact ⟨o,(sb2.2 it (Ne.symm hdi)).trans ho,r⟩
  have e:rawInt ((i:Int)+1)=rawInt ((i+1:Nat):Int):=by rw [aBI];rfl
  show codeAny _ _ (.builtin "dict.update.loop" ⟨[.ref d,.ref it,rawInt ((i:Int)+1),.none],[]⟩) _ _;rw [e];refine ih (i+1) { s with heap:=h2,toks:=s.toks+1 } (stored acc kv.1 kv.2) (by lia) hlt hlen ht2 (hp.stay fun j b o z z2=>keep2 b o (hav j b z).1 (hav j b z).2 z2) hs2 hd2 fun h' tk hd' k'=>?_;have q:=hR h' tk (by
   have z:kvs.drop i=kv :: kvs.drop (i+1):=by
    rw [aA6 hlt];rw [aAm hlt] at hkv;rw [Option.some.inj hkv]
   rw [z];exact hd') fun b o hb hb' z=>k' b o hb hb' (keep2 b o hb hb' z)
  exact q
theorem iX {s:Shared} {t:Addr} {o:Obj} {items:Array Value} {n:Nat} {kvs:List (K×Value)} {Q:Value→Shared→Prop} (hh:A.handled=none) (ho:s.heap.get? t=some o) (hc:o.cls=.type "tuple") (hdat:o.data=.seq items n) (hd:o.dict=none)
  (hp:s.heap.PairItems knd items kvs) (hsz:kvs.length+kvs.length≤sizeLine)
  (h:∀ h' tk,h'.DictOf knd s.heap.objs.size (merged [] kvs)→(∀ b o,s.heap.get? b=some o→h'.get? b=some o)→Q (.ref s.heap.objs.size) { s with heap:=h',toks:=tk }) :
  wpAny (model prog w) A (call (.type "dict") [.ref t]) Q E s:=by
 refine callType_codes (Q₁:=fun obj s₁=>obj=.ref s.heap.objs.size∧s₁={ s with heap:=s.heap.push { cls:=.type "dict",data:=.dict #[] } }) F.kt_called_dict (F.kt_typeCall_dict_1 _) F.entry_dict_init (kt_code_dict_new _ ⟨rfl,rfl⟩) ?_;rintro obj s₁ ⟨rfl,rfl⟩;have hnew:(s.heap.push { cls:=.type "dict",data:=.dict #[] }).DictOf knd s.heap.objs.size []:=Heap.DictOf.new s.heap;have ho1:(s.heap.push { cls:=.type "dict",data:=.dict #[] }).get? t=some o:=aAb _ ho;have htl:t < s.heap.objs.size:=aAf ho;refine ⟨hnew.typeIs,F.args_dict_init_2 _ _,?_⟩;unfold Builtin.«dict.__init__»;refine wpAny_bind ?_;unfold Builtin.Dict.selfAndRest;refine wpAny_bind (wpAny_notOrdered_dict hnew.typeIs ?_);show wpAny _ _ (pure (s.heap.objs.size,[Value.ref t])) _ _ _;refine wpAny_pure ?_;show wpAny _ _ (Builtin.Dict.updateFrom "dict.__init__" s.heap.objs.size (.ref t) [] .none) _ _ _;unfold Builtin.Dict.updateFrom;refine wpAny_bind (wpAny_typeOf (T:= "tuple") ⟨_,ho1,hc⟩ ?_);rw [if_pos (by decide)];refine wpAny_bind (iW ho1 hc hdat hd (by first | exact hh | simpa using hh) fun h1 tk1 e hx=>?_);rw [if_pos (by rfl)];refine wpAny_bind (wpAny_rule ?_);have kp1:∀ b o,(s.heap.push { cls:=.type "dict",data:=.dict #[] }).get? b=some o→h1.get? b=some o:=fun b o z=>hx.keeps b o z;have ht1:h1.IsTuple t items:=⟨o,kp1 t o ho1,hc,n,hdat⟩;refine wpAny_bind (wpAny_pyIter_tuple ht1 ?_);have hit:s.heap.objs.size < h1.objs.size:=by
  obtain ⟨o2,es,ep,ho2,_⟩:=hnew;exact aAf (kp1 _ _ ho2)
 have kp0:∀ b o,s.heap.get? b=some o→h1.get? b=some o:=fun b o z=>kp1 b o (aAb _ z);refine wpAny_pure ⟨plainId_quiet F.plain_dict_update_loop _,?_⟩;refine gB (knd:=knd) (t:=t) (items:=items) (kvs:=kvs) (by first | exact hh | simpa using hh) (aAy htl) (aAy (aBc htl hit)) (aAy hit) (fun i a z=>?_) hsz kvs.length 0 _ [] (by lia) (aAx _) (aAl _)
  ⟨o,aAb _ (kp1 t o ho1),hc,n,hdat⟩ (hp.stay fun i a o2 _ z=>aAb _ (kp0 a o2 z)) ⟨_,aAq _ rfl,rfl,rfl⟩ ?_ fun h' tk hd' k'=>⟨rfl,?_⟩
 ·have hi:i < kvs.length:=by
   rw [← hp.1];exact (aBf.mp z).1
  obtain ⟨b,key,e1,⟨ob,e2,_⟩,_⟩:=hp.2 i _ (aAm hi);rw [z] at e1;have e3:a=b:=by injection (Option.some.inj e1)
  subst e3;have:=aAf e2;exact ⟨aAy this,aAy (aBc this hit)⟩
 ·obtain ⟨o2,es,ep,ho2,r⟩:=hnew;exact ⟨o2,es,ep,aAb _ (kp1 _ _ ho2),r⟩
 ·refine h h' tk hd' fun b ob z=>k' b ob (aAy (aAf z)) (aAy (aBc (aAf z) hit)) (aAb _ (kp0 b ob z))
end
end PySem
namespace L2
open PySem PySem.Spec PyProof.Rows
def Pl (H:Hp) (a:Addr):Prop:=∃ o u,H a=some (.frz o u)∧o.dict=none
mutual
inductive IsP (K:W.Frag) (H:Hp):Dt→V→Prop
 | non:IsP K H .non .non
 | bl {b}:IsP K H (.bl b) (.bl b)
 | int {i}:IsP K H (.int i) (.int i)
 | str {z}:IsP K H (.str z) (.str z)
 | tup {l:List Dt} {a:Addr} {xs:List V}:SqT K H a xs→Pl H a→IsPs K H l xs→IsP K H (.tup l) (.ref a)
inductive IsPs (K:W.Frag) (H:Hp):List Dt→List V→Prop
 | nil:IsPs K H [] []
 | cons {d:Dt} {l:List Dt} {x:V} {xs:List V}:IsP K H d x→IsPs K H l xs→IsPs K H (d :: l) (x :: xs)
end
section
variable {K:W.Frag} {H H':Hp}
mutual
theorem IsP.d:∀ {d:Dt} {v:V},IsP K H d v→IsD K H d v
 | _,_,.non=>.non
 | _,_,.bl=>.bl
 | _,_,.int=>.int
 | _,_,.str=>.str
 | _,_,.tup h _ r=>.tup h (IsPs.d r)
theorem IsPs.d:∀ {l:List Dt} {xs:List V},IsPs K H l xs→IsDs K H l xs
 | _,_,.nil=>.nil
 | _,_,.cons h r=>.cons (IsP.d h) (IsPs.d r)
end
theorem Pl.same {a:Addr} (g:Same H H') (h:Pl H a):Pl H' a:=by
 obtain ⟨o,u,e,d⟩:=h;exact ⟨o,u,g _ _ e,d⟩
theorem Pl.but {a r:Addr} {ys:List V} (hr:H r=some (.lst ys)) (g:But r H H') (h:Pl H a):Pl H' a:=by
 obtain ⟨o,u,e,d⟩:=h;exact ⟨o,u,g _ _ (fK e hr (by intro z;cases z)) e,d⟩
mutual
theorem IsP.same (g:Same H H'):∀ {d:Dt} {v:V},IsP K H d v→IsP K H' d v
 | _,_,.non=>.non
 | _,_,.bl=>.bl
 | _,_,.int=>.int
 | _,_,.str=>.str
 | _,_,.tup h p r=>.tup (g.tup h) (p.same g) (IsPs.same g r)
theorem IsPs.same (g:Same H H'):∀ {l:List Dt} {xs:List V},IsPs K H l xs→IsPs K H' l xs
 | _,_,.nil=>.nil
 | _,_,.cons h r=>.cons (IsP.same g h) (IsPs.same g r)
end
mutual
theorem IsP.but {r:Addr} {ys:List V} (hr:H r=some (.lst ys)) (g:But r H H'):∀ {d:Dt} {v:V},IsP K H d v→IsP K H' d v
 | _,_,.non=>.non
 | _,_,.bl=>.bl
 | _,_,.int=>.int
 | _,_,.str=>.str
 | _,_,.tup h p q=>.tup (by
   rcases uH hr h with n | n
   ·exact g.tup n h
   ·exact n _) (p.but hr g) (IsPs.but hr g q)
theorem IsPs.but {r:Addr} {ys:List V} (hr:H r=some (.lst ys)) (g:But r H H'):∀ {l:List Dt} {xs:List V},IsPs K H l xs→IsPs K H' l xs
 | _,_,.nil=>.nil
 | _,_,.cons h q=>.cons (IsP.but hr g h) (IsPs.but hr g q)
end
theorem IsPs.length {l:List Dt} {xs:List V} (h:IsPs K H l xs):l.length=xs.length:=h.d.length
theorem IsPs.get {l:List Dt} {xs:List V} (h:IsPs K H l xs) {i:Nat} {d:Dt} (e:l[i]?=some d):∃ x,xs[i]?=some x∧IsP K H d x:=by
 induction l generalizing xs i with
 | nil=>simp at e
 | cons c l ih =>
  cases h with
  | cons h r =>
   cases i with
   | zero=>simp at e;subst e;exact ⟨_,rfl,h⟩
   | succ i=>exact ih r (by simpa using e)
theorem IsPs.get' {l:List Dt} {xs:List V} (h:IsPs K H l xs) {i:Nat} {x:V} (e:xs[i]?=some x):∃ d,l[i]?=some d∧IsP K H d x:=by
 induction l generalizing xs i with
 | nil=>cases h;simp at e
 | cons c l ih =>
  cases h with
  | cons h r =>
   cases i with
   | zero=>simp at e;subst e;exact ⟨_,rfl,h⟩
   | succ i=>exact ih r (by simpa using e)
theorem IsPs.append {l m:List Dt} {xs ys:List V} (h:IsPs K H l xs) (h':IsPs K H m ys):IsPs K H (l++m) (xs++ys):=by
 induction l generalizing xs with
 | nil=>cases h;exact h'
 | cons d l ih=>cases h with | cons h r=>exact .cons h (ih r)
theorem IsPs.drop:∀ {l:List Dt} {xs:List V} (n:Nat),IsPs K H l xs→IsPs K H (l.drop n) (xs.drop n)
 | _,_,0,h=>h
 | _,_,_+1,.nil=>.nil
 | _,_,n+1,.cons _ r=>IsPs.drop n r
theorem IsP.unref {l:List Dt} {v:V} (h:IsP K H (.tup l) v):∃ a xs,v=.ref a∧SqT K H a xs∧Pl H a∧IsPs K H l xs:=by
 cases h with
 | tup h p r=>exact ⟨_,_,rfl,h,p,r⟩
end
def plO (xs:List V) (us:List Value):HO:=.frz { cls:=.type "tuple",data:=.seq us.toArray } (.tup xs)
section
variable {X:Cx} {pins:List (Addr×Obj)} {σ:St} {H:Hp} {s:Shared}
theorem Inv.plain {xs:List V} {us:List Value} {t':Nat} (I:Inv X pins σ H s) (r:Vals xs us) (z:xs.length≤sizeLine) :
  Inv X pins σ (upd H s.heap.objs.size (plO xs us)) { s with heap:=s.heap.push { cls:=.type "tuple",data:=.seq us.toArray },toks:=t' }∧H s.heap.objs.size=none :=
 ⟨I.laid (t':=t') (fun b ob q=>aAb _ q) (aAl _) ⟨aAq _ rfl,z,us,r,IsTup.new _ _⟩,I.hok.fresh (aAl _)⟩
theorem n6 {p:Addr} {l:List Dt} {xs:List V} {us:List Value} (hf:H p=none) (d:IsPs X.K H l xs):Same H (upd H p (plO xs us))∧IsP X.K (upd H p (plO xs us)) (.tup l) (.ref p) :=
 ⟨aj hf _,.tup (.inl (.inr ⟨_,ac⟩)) ⟨_,_,ac,rfl⟩ (d.same (aj hf _))⟩
variable {e:Expr} {es:List Expr} {t:TA} {pos:Pos}
inductive ITup (K:W.Frag) (xs:List V) (H1:Hp) (Q:VK):Prop
 | mk (l:List Dt):(IsPs K H1 l xs)→(xs.length≤sizeLine)→(∀ v H',Same H1 H'→IsP K H' (.tup l) v→Q v H')→ITup K xs H1 Q
def x9 (K:W.Frag) (t:TA):TE:=fun σ H Q=>t σ H fun xs H1=>ITup K xs H1 Q
theorem wX {x1} (h:PA X es t):PE X (.Tuple es x1 pos) (x9 X.K t):=by
 intro pins s σ H Q I hq;refine wpAny_Tuple_spliced (thn (h pos pins s σ H _ I hq) fun us s1 ⟨xs,H1,I1,r,l,d,z,q⟩=>⟨by rw [← r.length];exact z,?_⟩);obtain ⟨I2,hf⟩:=I1.plain (t':=s1.toks) r z;obtain ⟨g,dp⟩:=n6 (X:=X) (us:=us) hf d;exact ⟨.ref s1.heap.objs.size,_,I2,rfl,q _ _ g dp⟩
theorem n9:aO X (.type "tuple") (fun xs H Q=>∃ p ys l,xs=[.ref p]∧SqL X.K H p ys∧IsPs X.K H l ys∧∀ v H',Same H H'→IsP X.K H' (.tup l) v→Q v H'):=by
 intro pins s σ H xs us Q I r h;obtain ⟨p,ys,l,rfl,hq,d,q⟩:=h;obtain ⟨u,rfl,rx⟩:=cP r
 cases rx
 obtain ⟨its,r',pl,hz⟩:=I.list hq;have hlen:=r'.length;refine call_tuple_list pl.isList (fun h' kp=>?_) (by simp only [aAv] <;> lia);have I1:Inv X pins σ H { s with heap:=h' }:=I.kept (t':=s.toks) kp;obtain ⟨I2,hf⟩:=I1.plain (t':=s.toks) r' hz;obtain ⟨g,dp⟩:=n6 (X:=X) (us:=its) hf d;exact ⟨.ref h'.objs.size,_,I2,rfl,q _ _ g dp⟩
theorem wY:IxR X (fun x y H Q=>∃ l i d,IsP X.K H (.tup l) x∧y=.int i∧atI l i=some d∧∀ v,IsP X.K H d v→Q v H):=by
 intro value slice pins s σ H x y v u Q I rx ry h hs;obtain ⟨l,i,d,dx,rfl,ha,q⟩:=h;obtain ⟨a,xs,rfl,hx,pa,ra⟩:=id dx.unref;obtain ⟨j,hj,hd,_⟩:=gy ha;have e1:=ra.length;obtain ⟨w',hw,dw⟩:=ra.get hd;have hat:atI xs i=some w':=by
  unfold atI at ha ⊢;rw [← e1]
  cases z:ixN l.length i with
  | none=>rw [z] at ha;cases ha
  | some j' =>
   rw [z] at ha;have ha':l[j']?=some d:=ha;obtain ⟨w2,hw2,dw2⟩:=ra.get ha';have z2:=i9 z;rw [hj] at z2;have:j=j':=Option.some.inj z2.1;subst this;exact hw
 exact uv value slice pins s σ H (.ref a) (.int i) v u Q I rx ry ⟨a,xs,i,w',rfl,rfl,hx,hat,q w' dw⟩ hs
theorem q9:OpR X (binaryOp .Mult) (rI IntMulOk fun i j=>.int (i*j)):=opI fun _ _ _ _ _ _ _ hc q=>mul_int q hc
end
def au (fs:List (Str×Dt)) (z:Str):Option Dt:=(fs.find? fun p=>decide (p.1=z)).map (·.2)
abbrev prD (p:Str×Dt):Dt:=.tup [.str p.1,p.2]
def IF (K:W.Frag) (H:Hp) (p:Addr) (fs:List (Str×Dt)):Prop :=
 ∃ kvs,H p=some (.dK kvs)∧∀ z,(au fs z=none→bV kvs (Sum.inr z:Key)=none)∧∀ d,au fs z=some d→∃ v,bV kvs (Sum.inr z:Key)=some v∧IsP K H d v
section
variable {X:Cx} {pins:List (Addr×Obj)} {σ:St} {H:Hp} {s:Shared}
theorem uO (I:Inv X pins σ H s):∀ {fs:List (Str×Dt)} {xs:List V} {its:List Value},IsPs X.K H (fs.map prD) xs→Vals xs its →
  ∃ (kvs:List (Key×V)) (vs:List (Key×Value)),KV kvs vs∧kvs.map (·.1)=fs.map (fun p=>Sum.inr p.1)∧kvs.length=fs.length ∧
   (∀ z,(au fs z=none→bV kvs (Sum.inr z:Key)=none)∧∀ d,au fs z=some d→∃ v,bV kvs (Sum.inr z:Key)=some v∧IsP X.K H d v) ∧
   its.length=vs.length∧∀ (i:Nat) (kv:Key×Value),vs[i]?=some kv→∃ (a:Addr) (key:Value),its[i]?=some (.ref a)∧s.heap.IsTuple a #[key,kv.2]∧(av X.prog X.w).is kv.1 key=true:=by
 intro fs
 induction fs with
 | nil =>
  intro xs its h r
  cases h
  cases r
  exact ⟨[],[],.nil,rfl,rfl,fun z=>⟨fun _=>rfl,fun d q=>by cases q⟩,rfl,fun i kv q=>by simp at q⟩
 | cons f fs ih =>
  intro xs its h r
  cases h with
  | cons h1 h2 =>
   cases r with
   | cons r1 r2 =>
    obtain ⟨kvs,vs,e1,e2,e3,e4,e5,e6⟩:=ih h2 r2;obtain ⟨a,ys,rfl,ha,pa,ra⟩:=h1.unref
    cases r1
    obtain ⟨its',r',p',_⟩:=I.tuple ha
    cases ra with
    | cons d1 ra =>
     cases ra with
     | @cons _ _ v _ d2 ra =>
      cases ra
      cases d1
      cases r' with
      | cons q1 r' =>
       cases r' with
       | @cons _ u _ _ q2 r' =>
        cases r'
        obtain ⟨tk,rfl⟩:=q1;refine ⟨(Sum.inr f.1,v) :: kvs,(Sum.inr f.1,u) :: vs,.cons ⟨rfl,q2⟩ e1,by simp [e2],by simp [e3],fun z=>?_,by simp [e5],fun i kv q=>?_⟩
        ·by_cases hz:f.1=z
         ·subst hz;have l1:au (f :: fs) f.1=some f.2:=by simp [au]
          have l2:bV ((Sum.inr f.1,v) :: kvs) (Sum.inr f.1:Key)=some v:=by simp [bV]
          exact ⟨fun q=>(by rw [l1] at q;cases q),fun d q=>(by rw [l1] at q;cases q;exact ⟨v,l2,d2⟩)⟩
         ·have l1:au (f :: fs) z=au fs z:=by simp [au,hz]
          have l2:bV ((Sum.inr f.1,v) :: kvs) (Sum.inr z:Key)=bV kvs (Sum.inr z:Key):=by simp [bV,hz]
          rw [l1,l2];exact e4 z
        ·cases i with
         | zero =>
          simp at q;subst q;exact ⟨a,_,rfl,p',nY (k:=Sum.inr f.1) ⟨tk,rfl⟩⟩
         | succ i=>exact e6 i kv (by simpa using q)
end
end L2
namespace PySem
open Sem (wp)
open Builtin
section
variable {prog:Program} {w:World} {A:Around} {E:Value→Shared→Prop} {s:Shared}
end
end PySem
namespace L2
open PySem PySem.Spec PyProof.Rows
section
variable {X:Cx}
variable {tg:Expr}
end
theorem uP {X:Cx} {st:Stmt} {t:TS} (h:X.Ok→PS X st t):PS X st t:=fun pins s σ H D I hw=>h I.ok pins s σ H D I hw
theorem passF {P:Program} {w:World} {X:Cx}:et (CXE P w) X (fun _ _ _=>False):=by
 intro pins σ H s e s' I h;obtain ⟨_,_,_,_,_,_,_,_,_,_,_,_,_,q⟩:=h;exact q.elim
theorem u1 {A:Around} (h:A.units+64 < cLine):A.units+1 < cLine:=by lia
theorem bu {P:Program} {w:World} {K:W.Frag} {mg:Str→Option Value} {base:Heap} {CX:CXT} {k:Nat} {f:Addr} {fd:FuncData} {ps:List Str} {sp:Sp} (h:∀ vs H Q E,¬ sp vs H Q E):FnOk P w K mg base CX k f fd ps sp :=
 ⟨fun vs H Q E z=>(h vs H Q E z).elim,fun A outer s H args us vs Q E hr e0 hb r z=>(h vs H Q E z).elim⟩
theorem lh {X:Cx} {K:W.Frag} (hK:X.K=K):aO X (.builtin "isinstance") (fun xs H Q=>∃ a C D b,xs=[.ref a,.ref D]∧H a=some (xO a C)∧W.ExcK K C∧W.kitOne K (.ref C) (.ref D)=some b∧Q (.bl b) H):=by
 subst hK;exact uJ
theorem qt {X:Cx} {K:W.Frag} (hK:X.K=K):aO X (.builtin "isinstance") (fun xs H Q=>∃ a C T b,xs=[.ref a,.ty T]∧H a=some (xO a C)∧W.ExcK K C∧W.kitOne K (.ref C) (.type T)=some b∧Q (.bl b) H):=by
 subst hK;exact sQ
section
variable {X:Cx}
theorem jA:OpR X (binaryOp .FloorDiv) (rI (fun _ j=>0 < j∧j < 10000000000000000000000000000000000000000000000000000000000000) fun i j=>.int (i / j)):=opI fun i j _ _ _ _ _ hc q=>by
 have h1:(0:Int) < j:=hc.1;have h2:j < 10000000000000000000000000000000000000000000000000000000000000:=hc.2;refine floordiv_int (by lia) (by rw [Int.fdiv_eq_ediv_of_nonneg i (by lia)];exact q) (.inl (PyProof.noPylong_of_log2 ?_));have h3:j.natAbs < 2 ^ 9000:=aAj (show j.natAbs < 10000000000000000000000000000000000000000000000000000000000000 by lia) (by decide +kernel);exact (Nat.log2_lt (by lia)).mpr h3
theorem mt_starts:MtM X "str.startswith" (fun x vs H Q=>∃ y z,x=.str y∧vs=[.str z]∧Q (.bl (Txt.startswith y z)) H):=by
 intro pins s σ H x vs v us Q I rx rv h;obtain ⟨y,z,rfl,rfl,q⟩:=h;obtain ⟨t,rfl⟩:=rx;obtain ⟨u,rfl,t',rfl⟩:=rv.one;exact SC.startswith ⟨.bl _,H,I,rfl,q⟩
theorem call_int_text:aO X (.type "int") (fun xs H Q=>∃ z n,xs=[.str z]∧intText? z=some n∧z.length≤640∧Q (.int n) H):=by
 intro pins s σ H xs us Q I r h;obtain ⟨z,n,rfl,hn,hl,q⟩:=h;obtain ⟨u,rfl,t,rfl⟩:=cP r;exact W.KIN.call_text hn hl ⟨.int n,H,I.tok _,⟨_,rfl⟩,q⟩
inductive ICatS (K:W.Frag) (x y:V) (H:Hp) (Q:VK):Prop
 | mk (l b:Addr) (xs zs:List V):(x=.ref l)→(y=.ref b)→(SqL K H l xs)→(SqL K H b zs)→(xs.length+zs.length≤sizeLine)→(∀ p,H p=none→Q (.ref p) (upd H p (.lst (xs++zs))))→ICatS K x y H Q
def ya (K:W.Frag):R2:=fun x y H Q=>ICatS K x y H Q
theorem wZ:OpR X (binaryOp .Add) (ya X.K):=by
 intro pins s σ H x y v u Q I rx ry h;obtain ⟨l,b,xs,zs,rfl,rfl,hH,hB,hz,q⟩:=h
 cases rx
 cases ry
 obtain ⟨its,r,pl,z⟩:=I.list hH;obtain ⟨its2,r2,pl2,z2⟩:=I.list hB;obtain ⟨⟨cls,dd,data,sl⟩,ho,hc,n,hd⟩:=pl.isList;obtain ⟨⟨cls2,dd2,data2,sl2⟩,ho2,hc2,n2,hd2⟩:=pl2.isList;simp only at hc hd hc2 hd2;subst hc hd hc2 hd2;have l1:=r.length;have l2:=r2.length;have ea:its.toArray++its2.toArray=(its++its2).toArray:=by simp
 refine concat_meets ⟨_,ho,rfl⟩ ⟨_,ho2,rfl⟩ noFill_list_add seq_list_add PySem.F.slot_list_add PySem.F.entry_list_add (PySem.F.args_list_add_2 _ _) (list_addW l b its.toArray its2.toArray n n2 dd dd2 sl sl2 (by simp only [aAv];lia)) ⟨ho,ho2,?_⟩;rw [ea];exact ⟨.ref _,_,I.lnew (t':=s.toks) (r.append r2) (by rw [aAk];lia),rfl,q _ I.fresh⟩
end
open PySem.NumText
def dg (m:Nat):List Nat:=(Nat.toDigits 10 m).map Char.toNat
theorem uQ:∀ d:Nat,d < 10→(Nat.digitChar d).toNat=48+d:=by decide
theorem eC {m:Nat} (h:m < 10):dg m=[48+m]:=by
 unfold dg;rw [Nat.toDigits_of_lt_base h];show [(Nat.digitChar m).toNat]=_;rw [uQ m h]
theorem re {m:Nat} (h:10≤m):dg m=dg (m / 10)++[48+m % 10]:=by
 have hm:m % 10 < 10:=Nat.mod_lt m (by decide);have t:Nat.toDigits 10 (m / 10)++Nat.toDigits 10 (m % 10)=Nat.toDigits 10 (10*(m / 10)+m % 10):=Nat.toDigits_append_toDigits (by decide) (by lia) hm;rw [Nat.div_add_mod] at t;unfold dg;rw [← t,aAo]
 congr 1
 exact eC hm
theorem c8 (m:Nat):AllDigits (dg m):=by
 intro c hc;obtain ⟨ch,hch,e⟩:=aAr.mp hc;rw [← e];exact digit_range (Nat.isDigit_of_mem_toDigits (by decide) (by decide) hch)
theorem uR (m:Nat):dg m≠[]:=by
 intro e;have h:=toDigits_len_ge 10 m;rw [List.map_eq_nil_iff.mp e] at h;exact absurd h (by decide)
theorem uS (m:Nat):digitsVal (dg m)=m:=W.KIN.val_back m
theorem rf:∀ (m:Nat),0 < m→∃ c r,dg m=c :: r∧49≤c:=by
 intro m
 induction m using Nat.strongRecOn with
 | _ m ih =>
  intro h
  by_cases h1:m < 10
  ·exact ⟨48+m,[],eC h1,by lia⟩
  ·obtain ⟨c,r,e,hc⟩:=ih (m / 10) (by lia) (by lia);exact ⟨c,r++[48+m % 10],by rw [re (by lia),e];rfl,hc⟩
theorem qu:∀ (k m:Nat),m < 10 ^ (k+1)→(dg m).length≤k+1
 | 0,m,h=>by rw [eC (by simpa using h)];exact aAl 1
 | k+1,m,h=>by
  by_cases h1:m < 10
  ·rw [eC h1];exact aB5 (aAx _)
  ·rw [re (by lia),aAk,aCh];have:m / 10 < 10 ^ (k+1):=by
    rw [Nat.pow_succ] at h;exact Nat.div_lt_of_lt_mul (by rw [Nat.mul_comm];exact h)
   have:=qu k (m / 10) this;lia
def dG (n:Int):List Nat:=if n < 0 then 45 :: dg n.natAbs else dg n.natAbs
theorem str_int (n:Int):(Str.ofString (toString n)).cps.toList=dG n:=by
 rw [signs_ofString]
 cases n with
 | ofNat m =>
  have:¬ (Int.ofNat m < 0):=by simp
  unfold dG;rw [if_neg this];show (Nat.repr m).toList.map Char.toNat=_;rw [Nat.toList_repr]
  rfl
 | negSucc m =>
  have:Int.negSucc m < 0:=Int.negSucc_lt_zero m;unfold dG;rw [if_pos this];show ("-" ++Nat.repr (m+1)).toList.map Char.toNat=_;rw [String.toList_append,aAo,Nat.toList_repr]
  rfl
theorem cv {x y:Str} (h:x.cps.toList=y.cps.toList):x=y:=by
 obtain ⟨a⟩:=x;obtain ⟨b⟩:=y
 congr 1
 exact Array.toList_inj.mp h
theorem jB (z:Str) (c:Nat):Txt.startswith z ⟨#[c]⟩=decide (z.cps.toList.head?=some c):=by
 obtain ⟨⟨l⟩⟩:=z
 cases l with
 | nil=>rfl
 | cons d r =>
  rw [aAX,decide_eq_true_iff];simp [Txt.startswith,Builtin.Str.subAt,Str.length]
theorem qv {z:Str} (h:1≤z.length):Txt.slice z (some 1) none=⟨(z.cps.toList.drop 1).toArray⟩:=by
 have e:=slice_from_eq (x:=z) (i:=1) (b:=z.length) (by decide) (by lia) rfl;rw [e];apply cv;show ((z.cps.toList.drop 1).take ((z.length:Int) - 1).toNat)=z.cps.toList.drop 1;apply aAM;have:z.cps.toList.length=z.length:=aAQ;rw [aAJ];lia
end L2
namespace L2
open PySem PySem.Spec PyProof.Rows
section
variable {X:Cx} {pins:List (Addr×Obj)} {σ:St} {H:Hp} {s:Shared} {h':Heap}
theorem Inv.turnedT {t':Nat} {wr:List Addr} {T:Addr} {o:HO} (I:Inv X pins σ H s) (k:∀ b u,b∉wr→s.heap.get? b=some u→h'.get? b=some u) (f:∀ b∈wr,fG X pins H b)
  (hT:s.heap.objs.size≤T) (new:ObjOk X.prog X.w (upd H T o) h' T o):Inv X pins σ (upd H T o) { s with heap:=h',toks:=t' }:=by
 have nT:∀ b u,s.heap.get? b=some u→b≠T:=fun b u e z=>absurd (aAj (aAf e) (z ▸ hT)) (aAN _);have nH:∀ b u,H b=some u→b≠T:=fun b u e z=>absurd (aAj (I.hok.lt e) (z ▸ hT)) (aAN _);have nw:∀ b u,H b=some u→b∉wr:=fun b u e z=>by rw [(f b z).1] at e;cases e
 refine I.step (g':=s.gens) (d':=s.drawn) (ch:=wr) (fun b hb=>?_) (fun b u _ _ hc e _=>k b u hc e) (fun b u _ _ hc e _=>⟨u.slots,k b u hc e⟩) (fun b u _ e n=>by rw [ag (nT b u e)];exact n)
  (fun b u hc e=>⟨u,k b u hc e⟩) (fun b xs e=>by rw [ag (nH b _ e)];exact e) (fun b u v e=>by rw [ag (nH b _ e)];exact e) (fun b ps e=>⟨#[],by rw [ag (nH b _ e),e];simp⟩) (fun m hm=>?_) (fun b u e=>?_) I.bare
 ·obtain ⟨f0,f1,f2,f3,f4,f5⟩:=f b hb;exact ⟨f3,f1,f4,f5⟩
 ·obtain ⟨u,es,ep,ho,r⟩:=hm;exact ⟨u,es,ep,k _ u (fun z=>(f _ z).2.1 rfl) ho,r⟩
 ·by_cases hb:b=T
  ·subst hb;rw [ac] at e
   cases e
   exact new
  ·rw [ag hb] at e;refine (I.hok b u e).stay (fun c v hc q=>k c v ?_ q) (fun c q=>?_) fun c xs q=>by rw [ag (nH c _ q)];exact q
   ·rcases hc with z | z
    ·rw [z];exact nw b u e
    ·exact nw c _ z
   ·rw [ag (nH c _ q)];exact q
theorem Inv.turnedL {t':Nat} {wr:List Addr} (I:Inv X pins σ H s) (k:∀ b u,b∉wr→s.heap.get? b=some u→h'.get? b=some u) (f:∀ b∈wr,fG X pins H b):Inv X pins σ H { s with heap:=h',toks:=t' }:=by
 have nw:∀ b u,H b=some u→b∉wr:=fun b u e z=>by rw [(f b z).1] at e;cases e
 refine I.step (g':=s.gens) (d':=s.drawn) (ch:=wr) (fun b hb=>?_) (fun b u _ _ hc e _=>k b u hc e) (fun b u _ _ hc e _=>⟨u.slots,k b u hc e⟩) (fun _ _ _ _ n=>n)
  (fun b u hc e=>⟨u,k b u hc e⟩) (fun _ _ e=>e) (fun _ _ _ e=>e) (fun b ps e=>⟨#[],by rw [e];simp⟩) (fun m hm=>?_) (fun b u e=>?_) I.bare
 ·obtain ⟨f0,f1,f2,f3,f4,f5⟩:=f b hb;exact ⟨f3,f1,f4,f5⟩
 ·obtain ⟨u,es,ep,ho,r⟩:=hm;exact ⟨u,es,ep,k _ u (fun z=>(f _ z).2.1 rfl) ho,r⟩
 ·refine (I.hok b u e).stay (fun c v hc q=>k c v ?_ q) (fun _ q=>q) fun _ _ q=>q;rcases hc with z | z
  ·rw [z];exact nw b u e
  ·exact nw c _ z
end
def Itz (K:W.Frag) (a b:Addr):It :=
 ⟨fun i H=>∃ xs ys x y,SqL K H a xs∧SqL K H b ys∧xs[i]?=some x∧ys[i]?=some y,
  fun i H v H'=>∃ T x y,v=.ref T∧H T=none∧H'=upd H T (.tup [x,y])∧(∀ xs,SqL K H a xs→xs[i]?=some x)∧(∀ ys,SqL K H b ys→ys[i]?=some y),
  fun i H=>∃ xs ys,SqL K H a xs∧SqL K H b ys∧min xs.length ys.length=i⟩
def Hi (z TI TO i1 i2 l1 l2:Addr) (i:Nat) (h:Heap):Prop:=IsZip h z TI TO .none∧IsPair h TI (.ref i1) (.ref i2)∧(∃ a b,IsPair h TO a b)∧h.IsListIter i1 l1 i∧h.IsListIter i2 l2 i
theorem uT {P:Program} {w:World} {K:W.Frag} {elts:List Expr} {k:Nat} {pos:Pos} (z TI TO i1 i2 l1 l2:Addr) (D:ZipApart z TI TO i1 i2 l1 l2) :
  Turn P w K (.Tuple elts k pos) (Itz K l1 l2) [z,TI,TO,i1,i2] z (Hi z TI TO i1 i2 l1 l2) where
 mem:=by simp
 obj:=fun i h st b hb=>by
  obtain ⟨hz,hTI,⟨a,c,hTO⟩,⟨o1,e1,c1,d1⟩,⟨o2,e2,c2,d2⟩⟩:=st;simp only [aAp,aAF,or_false] at hb;rcases hb with rfl | rfl | rfl | rfl | rfl
  ·exact ⟨_,hz,fun v q=>by cases q⟩
  ·exact ⟨_,hTI,fun v q=>by cases q⟩
  ·exact ⟨_,hTO,fun v q=>by cases q⟩
  ·exact ⟨o1,e1,fun v q=>by rw [d1] at q;cases q⟩
  ·exact ⟨o2,e2,fun v q=>by rw [d2] at q;cases q⟩
 keep:=fun i h h' st kk=>by
  obtain ⟨hz,hTI,⟨a,c,hTO⟩,h1,h2⟩:=st;exact ⟨kk z (by simp) _ hz,kk TI (by simp) _ hTI,⟨a,c,kk TO (by simp) _ hTO⟩,h1.at fun o e=>kk i1 (by simp) o e,h2.at fun o e=>kk i2 (by simp) o e⟩
 item:=by
  intro X hP hw hK hc i pins s σ H E I hf st hg;subst hP hw hK;obtain ⟨xs,ys,x,y,hx,hy,ex,ey⟩:=hg;obtain ⟨its,rv,p,hz⟩:=I.list hx;obtain ⟨its2,rv2,p2,hz2⟩:=I.list hy;obtain ⟨s1,s2,s3,s4,s5⟩:=st;have W:=WalksT.zip2 (prog:=X.prog) (w:=X.w) (I.ok.hd hc) z TI TO i1 i2 l1 l2 D its.toArray its2.toArray;have li:i < xs.length:=(aAc.mp ex).1;have li2:i < ys.length:=(aAc.mp ey).1;have el:=rv.length;have el2:=rv2.length;have wsub:∀ b∈[z,TO,i1,i2],b∈[z,TI,TO,i1,i2]:=fun b hb=>by
   simp only [aAp,aAF,or_false] at hb ⊢;rcases hb with rfl | rfl | rfl | rfl <;> simp
  refine W.item i s _ _ (by simp only [aAv];lia) ⟨s1,s2,s3,s4,s5,p.isList,p2.isList⟩ fun T vals h' tk hv hT hTup hm hk=>?_;obtain ⟨u,v,eu,ev,rfl⟩:=hv;obtain ⟨u',eu',ru⟩:=rv.get ex;obtain ⟨v',ev',rv'⟩:=rv2.get ey;have e1:u=u':=by
   have:its[i]?=some u:=by simpa using eu
   rw [eu'] at this;exact (Option.some.inj this).symm
  have e2:v=v':=by
   have:its2[i]?=some v:=by simpa using ev
   rw [ev'] at this;exact (Option.some.inj this).symm
  subst e1 e2;have hTn:H T=none:=I.hok.fresh hT;have I1:Inv X pins σ (upd H T (.tup [x,y])) { s with heap:=h',toks:=tk }:=I.turnedT hk (fun b hb=>hf b (wsub b hb)) hT ⟨by show 2≤sizeLine;decide,[u,v],.cons ru (.cons rv' .nil),hTup⟩;have ap:=W.apart i T h' hm;have f1:∀ b∈[z,TO,i1,i2],fG X pins (upd H T (.tup [x,y])) b:=fun b hb=>by
   obtain ⟨f0,f1⟩:=hf b (wsub b hb);exact ⟨by rw [ag (fun e:b=T=>ap (by rw [← e];exact hb))];exact f0,f1⟩
  refine ⟨_,rfl,W.go elts k pos i T _ _ _ hm fun h'' st2 hk2=>?_⟩;obtain ⟨t1,t2,t3,t4,t5,_,_⟩:=st2;refine ⟨.ref T,_,Inv.turnedL (s:={ s with heap:=h',toks:=tk }) (t':=tk) I1 hk2 f1,rfl,⟨T,x,y,rfl,hTn,rfl,fun zs q=>by rw [I.list_inj q hx];exact ex,fun zs q=>by rw [I.list_inj q hy];exact ey⟩,⟨t1,t2,t3,t4,t5⟩,fun b hb=>?_⟩;have fb:=(hf b hb).1
  by_cases e:b=T
  ·subst e;have lti:s.heap.objs.size > TI:=aAf s2;simp only [aAp,aAF,or_false] at hb;rcases hb with rfl | rfl | rfl | rfl | rfl
   ·exact absurd (by simp) ap
   ·exact absurd lti (aB1.mpr hT)
   ·exact absurd (by simp) ap
   ·exact absurd (by simp) ap
   ·exact absurd (by simp) ap
  ·rw [ag e];exact fb
 done:=by
  intro X hP hw hK hc i pins s σ H E I hf st hg;subst hP hw hK;obtain ⟨xs,ys,hx,hy,hi⟩:=hg;obtain ⟨its,rv,p,hz⟩:=I.list hx;obtain ⟨its2,rv2,p2,hz2⟩:=I.list hy;obtain ⟨s1,s2,s3,s4,s5⟩:=st;have W:=WalksT.zip2 (prog:=X.prog) (w:=X.w) (I.ok.hd hc) z TI TO i1 i2 l1 l2 D its.toArray its2.toArray;have el:=rv.length;have el2:=rv2.length;have en:min its.toArray.size its2.toArray.size=i:=by simp only [aAv];lia
  have wsub:∀ b∈[z,TO,i1,i2],b∈[z,TI,TO,i1,i2]:=fun b hb=>by
   simp only [aAp,aAF,or_false] at hb ⊢;rcases hb with rfl | rfl | rfl | rfl <;> simp
  refine W.done s _ _ ?_ fun h' tk hk=>⟨rfl,I.turnedL hk fun b hb=>hf b (wsub b hb)⟩;rw [en];exact ⟨s1,s2,s3,s4,s5,p.isList,p2.isList⟩
 self:=fun _ _ _ _ _ st h=>wpAny_pyIter_zip st.1 h
section
variable {X:Cx} {elts:List Expr} {k:Nat} {tpos:Pos}
def IG (K:W.Frag) (ta:TA):TI:=fun σ H R=>ta σ H fun vs H1=>∃ a b,vs=[.ref a,.ref b]∧(∃ xs,SqL K H1 a xs)∧(∃ ys,SqL K H1 b ys)∧R (Itz K a b) H1
theorem Bs {a b:Expr} {ta:TA} {p pos:Pos} (hg:Gl X "zip") (hm:X.mg "zip" = none) (ha:PA X [a,b] ta) (hs:starEach [a,b] X.env=[(false,eval a X.env),(false,eval b X.env)]:=by rfl) (hs2:starEach [b] X.env=[(false,eval b X.env)]:=by rfl) :
  PI X (.Tuple elts k tpos) (.Call (.Name "zip" p) [a,b] [] pos) (IG X.K ta):=by
 intro pins s σ H R I h;refine Call_ (gX I hg hm boot_zip (PyProof.Rows.callWith_type1 (thn (ha pos pins s σ H _ I h) fun us s1 ⟨vs,H1,I1,r1,q1⟩=>?_) (by rw [hs,hs2]) (by rw [hs2];rfl)));obtain ⟨l1,l2,e,⟨xs,hx⟩,⟨ys,hy⟩,q⟩:=q1;subst e;obtain ⟨u,v,rfl,ru,rv⟩:=r1.two
 cases ru
 cases rv
 obtain ⟨its,rr,pl,hz⟩:=I1.list hx;obtain ⟨its2,rr2,pl2,hz2⟩:=I1.list hy;have lt1:l1 < s1.heap.objs.size:=by obtain ⟨o,e,_⟩:=pl.isList;exact aAf e
 have lt2:l2 < s1.heap.objs.size:=by obtain ⟨o,e,_⟩:=pl2.isList;exact aAf e
 refine call_zip_2 pl.isList pl2.isList fun h' z1 z2 z3 z4 z5 zs kk=>?_;have I2:Inv X pins σ H1 { s1 with heap:=h' }:=I1.kept (t':=s1.toks) kk;refine wpAny_pyIter_zip z1 ?_;refine ⟨_,_,_,_,H1,rfl,I2,uT _ _ _ _ _ l1 l2 ?_,⟨z1,z2,⟨_,_,z3⟩,z4,z5⟩,fun b hb=>?_,q⟩
 ·have lt1':s1.heap.objs.size > l1:=lt1;have lt2':s1.heap.objs.size > l2:=lt2
  constructor <;> (show ¬ (@Eq Nat _ _)) <;> lia
 ·have:s1.heap.objs.size≤b:=by
   simp only [aAp,aAF,or_false] at hb;rcases hb with rfl | rfl | rfl | rfl | rfl <;> lia
  exact I1.fpOk this (I1.hok.fresh this)
end
theorem uU {K:W.Frag} {a b l:Addr} {xs ys:List V} {g:TG} {tb:List V→Addr→St→Hp→(List V→St→Hp→Prop)→Prop} {Q:VK} {σ0:St} {H0:Hp} (Pv:Nat→List V→St→Hp→Prop) (h0:Pv 0 [] σ0 H0)
  (hla:∀ i us σ H,Pv i us σ H→SqL K H a xs∧SqL K H b ys)
  (hs:∀ i x y T us σ H (N:List V→St→Hp→Prop),xs[i]?=some x→ys[i]?=some y→H T=none→Pv i us σ H→(∀ us' σ' H',Pv (i+1) us' σ' H'→N us' σ' H')→g (.ref T) σ (upd H T (.tup [x,y])) fun σ2 H2=>tb us l σ2 H2 N)
  (hd:∀ us σ H,Pv (min xs.length ys.length) us σ H→Q (.ref l) H) :
  ∃ W:Nat→Nat→List V→St→Hp→Prop,(∃ m,W 0 m [] σ0 H0)∧∀ i m us σ' H',W i m us σ' H'→((Itz K a b).stop i H'∧Q (.ref l) H') ∨
   ((Itz K a b).go i H'∧∀ x H'',(Itz K a b).yld i H' x H''→g x σ' H'' fun σ2 H2=>tb us l σ2 H2 fun us' σ3 H3=>∃ m',m' < m∧W (i+1) m' us' σ3 H3):=by
 refine ⟨fun i m us σ H=>m=min xs.length ys.length - i∧i≤min xs.length ys.length∧Pv i us σ H,⟨_,rfl,aAx _,h0⟩,?_⟩;rintro i m us σ H ⟨rfl,hi,p⟩;obtain ⟨sa,sb⟩:=hla i us σ H p
 by_cases hlt:i < min xs.length ys.length
 ·obtain ⟨x,ex⟩:∃ x,xs[i]?=some x:=⟨_,aAm (by lia)⟩;obtain ⟨y,ey⟩:∃ y,ys[i]?=some y:=⟨_,aAm (by lia)⟩;refine .inr ⟨⟨xs,ys,x,y,sa,sb,ex,ey⟩,fun v H' q=>?_⟩;obtain ⟨T,x',y',rfl,hT,rfl,q1,q2⟩:=q;have e1:=q1 xs sa;have e2:=q2 ys sb;exact hs i x' y' T us σ H _ e1 e2 hT p fun us' σ' H' w=>⟨_,by lia,rfl,hlt,w⟩
 ·have e:i=min xs.length ys.length:=by lia
  subst e;exact .inl ⟨⟨xs,ys,sa,sb,rfl⟩,hd us σ H p⟩
def met:List Key→List Key
 | []=>[]
 | k :: r=>if r.any (fun j=>decide (j=k)) then met r else k :: met r
section
variable {P:Program} {w:World} {A:Around} {R:Result→Shared→Prop} {it:Addr} {fp wr:List Addr} {G:Array GenState→Array GenState→Prop} {n:Nat} {Pt:Nat→Value→Prop} {St:Nat→Shared→Prop}
end
section
variable {P:Program} {w:World} {A:Around} {E:Value→Shared→Prop} {s:Shared}
end
section
variable {X:Cx}
end
section
variable {K:W.Frag} {a b l:Addr} {xs ys:List V} {g:TG} {tb:List V→Addr→St→Hp→(List V→St→Hp→Prop)→Prop} {R:Hp→Prop} {σ0:St} {H0:Hp}
theorem cz (Pv:Nat→List V→St→Hp→Prop) (h0:Pv 0 [] σ0 H0) (hl:∀ i ys σ H,i≤xs.length→Pv i ys σ H→SqT K H a xs)
  (hs:∀ i x ys σ H (N:List V→St→Hp→Prop),xs[i]?=some x→Pv i ys σ H→(∀ ys' σ' H',Pv (i+1) ys' σ' H'→N ys' σ' H')→g x σ H fun σ2 H2=>tb ys l σ2 H2 N)
  (hd:∀ ys σ H,Pv xs.length ys σ H→R H) :
  ∃ W:Nat→Nat→List V→St→Hp→Prop,(∃ m,W 0 m [] σ0 H0)∧∀ i m ys σ' H',W i m ys σ' H'→((Itt K a).stop i H'∧R H') ∨
   ((Itt K a).go i H'∧∀ x H'',(Itt K a).yld i H' x H''→g x σ' H'' fun σ2 H2=>tb ys l σ2 H2 fun ys' σ3 H3=>∃ m',m' < m∧W (i+1) m' ys' σ3 H3):=uG (Q:=fun _ H=>R H) Pv h0 hl hs hd
theorem jC (Pv:Nat→List V→St→Hp→Prop) (h0:Pv 0 [] σ0 H0) (hl:∀ i ys σ H,i≤xs.length→Pv i ys σ H→SqL K H a xs)
  (hs:∀ i x ys σ H (N:List V→St→Hp→Prop),xs[i]?=some x→Pv i ys σ H→(∀ ys' σ' H',Pv (i+1) ys' σ' H'→N ys' σ' H')→g x σ H fun σ2 H2=>tb ys l σ2 H2 N)
  (hd:∀ ys σ H,Pv xs.length ys σ H→R H) :
  ∃ W:Nat→Nat→List V→St→Hp→Prop,(∃ m,W 0 m [] σ0 H0)∧∀ i m ys σ' H',W i m ys σ' H'→((Itl K a).stop i H'∧R H') ∨
   ((Itl K a).go i H'∧∀ x H'',(Itl K a).yld i H' x H''→g x σ' H'' fun σ2 H2=>tb ys l σ2 H2 fun ys' σ3 H3=>∃ m',m' < m∧W (i+1) m' ys' σ3 H3):=sM (Q:=fun _ H=>R H) Pv h0 hl hs hd
theorem sW (Pv:Nat→List V→St→Hp→Prop) (h0:Pv 0 [] σ0 H0) (hla:∀ i us σ H,Pv i us σ H→SqL K H a xs∧SqL K H b ys)
  (hs:∀ i x y T us σ H (N:List V→St→Hp→Prop),xs[i]?=some x→ys[i]?=some y→H T=none→Pv i us σ H→(∀ us' σ' H',Pv (i+1) us' σ' H'→N us' σ' H')→g (.ref T) σ (upd H T (.tup [x,y])) fun σ2 H2=>tb us l σ2 H2 N)
  (hd:∀ us σ H,Pv (min xs.length ys.length) us σ H→R H) :
  ∃ W:Nat→Nat→List V→St→Hp→Prop,(∃ m,W 0 m [] σ0 H0)∧∀ i m us σ' H',W i m us σ' H'→((Itz K a b).stop i H'∧R H') ∨
   ((Itz K a b).go i H'∧∀ x H'',(Itz K a b).yld i H' x H''→g x σ' H'' fun σ2 H2=>tb us l σ2 H2 fun us' σ3 H3=>∃ m',m' < m∧W (i+1) m' us' σ3 H3):=uU (Q:=fun _ H=>R H) Pv h0 hla hs hd
end
theorem jd {X:Cx} {K:W.Frag} {es:List Expr} {k:Nat} {pos:Pos} {t:TGs} {n:Nat} (hK:X.K=K) (hc:X.calm=true) (h:PGs X es t)
  (hn:(assignEach es X.env).length=n:=by rfl) (hst:(assignEach es X.env).findIdx? (·.1)=none:=by rfl):PG X (.Tuple es k pos) (GR K n t):=by
 subst hK;exact lW hc h hn hst
theorem a8 {H H1:Hp} {l:Addr} {o:HO} (hl:H l=none) (g:Same H H1):Same H (upd H1 l o):=fun b u e=>by rw [ag (ah e hl)];exact g b u e
section
variable {X:Cx}
theorem uV {elt tgt iter:Expr} {ifs:List Expr} {scope:Scope} {pos spos py:Pos} {NL N':List Str} {ρ:List Nat} {wi:TI} {g:TG} {tb:List V→Addr→St→Hp→(List V→St→Hp→Prop)→Prop} {body:Value→Env→Sem Unit} {j:Nat} {y:Str}
  (hN:X.N.Nodup) (hj:X.N[j]?=some y) (hy:Loc X.env.scope y) (hfn:X.fn y=true∨X.env.scope.names.lookup y=some .local)
  (hsw:swapsWith (.ListComp elt [⟨tgt,iter,ifs,0⟩] scope pos) (some (.Name y py)) spos.line X.env=pure true)
  (hc:X.calm=true) (S:CScope X scope NL ρ N') (hi:PI X tgt iter wi)
  (hg:∀ C s₀ H₀ fp,PG (ccx X scope C N' s₀ H₀ fp) tgt g) (hb:∀ C s₀ H₀ fp,PB (ccx X scope C N' s₀ H₀ fp) (fun acc=>body acc (ccx X scope C N' s₀ H₀ fp).env) tb)
  (he:∀ (it acc:Value) (env:Env),compTurn (.ListComp elt [⟨tgt,iter,ifs,0⟩] scope pos) 0 it acc env=(standAt iter.pos >>= fun _=>pyNext it >>= fun r=>match r with
   | none=>pure (.done .next)
   | some v=>letOwnedTupleGo tgt it v >>= fun _=>assign tgt env v >>= fun _=>body acc env >>= fun _=>again (.compLoop (.ListComp elt [⟨tgt,iter,ifs,0⟩] scope pos) 0 it acc env)))
  (hs:∀ x,foldedSetIterable iter X.env x=pure x:=by intro _;rfl):PS X (.Assign [.Name y py] (.ListComp elt [⟨tgt,iter,ifs,0⟩] scope pos) spos) (ww (nE NL.length ρ wi g tb) (jm j)):=by
 intro pins s σ H D0 I h;have free_in:∀ x∈scope.names,x.2=.free→∃ c,X.env.cells.lookup x.1=some c:=fun x hx hk=>I.ok.has x.1 (S.frees x hx hk);rw [exec_Assign_Name_used _ _ _ _ hsw];refine wpAny_bind (wpAny_standAt (wpAny_bind ?_));rw [arm_evalThenUse_ListComp];refine wpAny_bind (thn (Q:=fun _ s'=>SP X pins D0 .next s') ?_ fun _ s' q0=>wpAny_pure (wpAny_pure q0));refine wpAny_comprehension_free (use:=some (assign (.Name y py) X.env)) (Q:=fun _ s'=>SP X pins D0 .next s') rfl hs (jt free_in) S.kind S.locs ?_;refine thn (hi pins s σ H _ I h) fun v s1 h1=>thn h1 fun itv s2 h2=>?_;obtain ⟨it,fp,tn,J,H2,e,I2,T,st2,f2,w⟩:=h2;subst e;refine wpAny_newObj_type (wpAny_newFunctionEnv S.nocell (by intro y hy;simp at hy) (fun h₁ hns₁ hsb₁=>?_) S.kind);dsimp only at hns₁ hsb₁ ⊢
 generalize hH2:s2.heap.push { cls:=.type "list",dict:=none,data:=.seq ([]:List Value).toArray }=h2' at hns₁ hsb₁ ⊢
 have hCs:h2'.objs.size=s2.heap.objs.size+1:=by rw [← hH2,aAT]
 have hDC:s2.heap.objs.size≠h2'.objs.size:=by rw [hCs];exact aAy (aA5 _)
 have hC:s2.heap.objs.size≤h2'.objs.size:=by rw [hCs];exact aBC _
 have old:∀ b o,s2.heap.get? b=some o→h₁.get? b=some o:=fun b o e=>hsb₁.extBut b o (aAy (aAj (aAf e) hC)) (aAb _ (hH2 ▸ aAb _ e));have hd:h₁.get? s2.heap.objs.size=some { cls:=.type "list",data:=.seq #[] 0 }:=hsb₁.extBut _ _ hDC (aAb _ (hH2 ▸ aAq _ rfl));have hfo:∀ b∈fp,∃ o,s2.heap.get? b=some o:=fun b hb=>let ⟨o,e,_⟩:=T.obj _ _ st2 b hb;⟨o,e⟩;have I4:Inv (ccx X scope h2'.objs.size N' s2 H2 fp) (X.pn++pins) (cst NL.length ρ σ) (upd H2 s2.heap.objs.size (.lst [])) { s2 with heap:=h₁,toks:=s2.toks+([]:List (Str×Value)).length } :=
  Inv.comp S I2 f2 hfo hC (aAl _) hDC old hd (by simpa using hns₁)
 have hD0:H2 s2.heap.objs.size=none:=I2.hok.fresh (aAl _);have nfp:s2.heap.objs.size∉fp:=fun z=>by
  obtain ⟨o,e⟩:=hfo _ z;exact absurd (aAf e) (aAN _)
 obtain ⟨W,⟨m0,w0⟩,turn⟩:=w s2.heap.objs.size hD0;have stat:∀ {H':Hp},(∀ b∈fp,H' b=none)→∀ b∈fp,fG (ccx X scope h2'.objs.size N' s2 H2 fp) (X.pn++pins) H' b:=fun {H'} hn b hb=>by
  obtain ⟨f0,f1,f2',f3,f4,f5⟩:=f2 b hb;have ok:=I4.ok;refine ⟨hn b hb,(ok.exf b hb).1,ok.exfs b hb,.inl hb,(ok.exf b hb).2,fun p hp=>f5 p hp⟩
 have loop:∀ s₃:Shared,s₃={ s2 with heap:=h₁,toks:=s2.toks+([]:List (Str×Value)).length } →
   codeAny (model X.prog X.w) X.A (.compLoop (.ListComp elt [⟨tgt,iter,ifs,0⟩] scope pos) 0 (.ref it) (.ref s2.heap.objs.size) (compEnvC scope (cQ X.env scope.names []) h2'.objs.size X.env))
    (compPost (model X.prog X.w) X.A X.xe (some (assign (.Name y py) X.env)) (fun _ s'=>SP X pins D0 .next s') (.ref s2.heap.objs.size) h2'.objs.size) s₃:=by
  rintro s₃ rfl;refine codeAny_loop rfl (fun n s'=>∃ i ys σ' H',Inv (ccx X scope h2'.objs.size N' s2 H2 fp) (X.pn++pins) σ' H' s'∧tn i s'.heap∧(∀ b∈fp,H' b=none)∧W i n ys σ' H') (fun n s3 hI=>?_) m0
   ⟨0,[],_,_,I4,T.keep _ _ _ st2 (fun b _ o e=>old b o e),fun b hb=>?_,w0⟩
  ·obtain ⟨i,ys,σ3,H3,I3,st3,fr3,w3⟩:=hI;show wpAny _ _ ((compTurn (.ListComp elt [⟨tgt,iter,ifs,0⟩] scope pos) 0 (.ref it) (.ref s2.heap.objs.size) (compEnvC scope (cQ X.env scope.names []) h2'.objs.size X.env)).onRaise (fun x=>do noteFrame x _;theTreesLotGoes x)) _ _ s3;refine wpAny_noted ?_;rw [he];refine wpAny_bind (wpAny_standAt (wpAny_bind ?_));rcases turn i n ys σ3 H3 w3 with ⟨stop,qn⟩ | ⟨go,step⟩
   ·refine thn (T.done (ccx X scope h2'.objs.size N' s2 H2 fp) rfl rfl rfl hc i _ s3 σ3 H3 _ I3 (stat fr3) st3 stop) fun r s4 ⟨hr,I5⟩=>?_;subst hr;refine wpAny_pure ?_;obtain ⟨m,hm,_⟩:=id I5.loc;have IX:Inv X pins σ H3 { s4 with heap:=s4.heap }:=Inv.compEnd I2 f2 hC I5 (Heap.SameBut.refl _ _);have cne:∀ x c,X.env.cells.lookup x=some c→c≠h2'.objs.size:=fun x c ec z=>by
     obtain ⟨v0,oc,hoc,_⟩:=I2.cell x c ec;exact absurd (aAj (aAf hoc) hC) (by rw [z];exact aAN _)
    have lne:h2'.objs.size≠X.env.locals:=aBk (aAj I2.lt hC);refine wpAny_assign_Name (kU IX hN hj hy (v:=.ref s2.heap.objs.size) rfl (fun s5 I6 ⟨a,sb,ha⟩=>?_) hfn);have na:h2'.objs.size≠a:=fun z=>by
     rcases ha with e | e
     ·exact lne (z.trans e)
     ·exact cne _ _ e z.symm
    refine ⟨m,hm.at' fun o e=>(sb.2 _ na).trans e,fun h' hs'=>⟨_,H3,?_,qn⟩⟩;exact I6.turned (t':=s5.toks) (fun b o hb' e=>(hs'.2 b hb').trans e) I5.free lne (.inr (aAA I2.sz hC)) cne fun q hq z=>by
     obtain ⟨e,_⟩:=I2.pin q hq;exact absurd (aAj (aAf e) hC) (by rw [z];exact aAN _)
   ·refine thn (T.item (ccx X scope h2'.objs.size N' s2 H2 fp) rfl rfl rfl hc i _ s3 σ3 H3 _ I3 (stat fr3) st3 go) fun r s4 ⟨u,hr,h4⟩=>?_;subst hr;refine wpAny_bind (thn h4 fun _ s5 ⟨x,H5,I5,r5,y5,st5,fr5⟩=>?_);have I5':=I5.pinned (stat fr5) (T.obj _ _ st5);refine wpAny_bind (wpAny_mono (hg h2'.objs.size s2 H2 fp _ s5 σ3 H5 x u _ I5' r5 (step x H5 y5)) (fun _ s6 ⟨σ6,H6,I6,q6⟩=>?_) fun _ _ z=>z.elim);refine wpAny_bind (wpAny_mono (hb h2'.objs.size s2 H2 fp _ s6 σ6 H6 s2.heap.objs.size ys _ I6 q6) (fun _ s7 ⟨ys7,σ7,H7,I7,m',hm,w7⟩=>?_) fun _ _ z=>z.elim);refine wpAny_pure ⟨rfl,m',hm,i+1,ys7,σ7,H7,I7.unpinned,T.keep _ _ _ st5 fun b hb o e=>(I7.pin (b,o) (aAG _ (aAG _ (bT hb e)))).1,fun b hb=>?_,w7⟩;obtain ⟨o,e,d⟩:=T.obj _ _ st5 b hb;exact (I7.pin (b,o) (aAG _ (aAG _ (bT hb e)))).2.1
  ·rw [ag (show b≠s2.heap.objs.size from fun z=>nfp (by rw [← z];exact hb))];exact (f2 b hb).1
 refine codeAny_compStart_list (loop _ rfl) (T.self _ 0 _ _ _ ?_ (loop _ rfl));exact T.keep _ _ _ st2 fun b _ o e=>old b o e
theorem w9 {elt tgt iter:Expr} {scope:Scope} {pos spos py:Pos} {NL N':List Str} {ρ:List Nat} {wi:TI} {g:TG} {te:TE} {j:Nat} {y:Str} (hN:X.N.Nodup) (hj:X.N[j]?=some y) (hy:Loc X.env.scope y)
  (hc:X.calm=true) (S:CScope X scope NL ρ N') (hi:PI X tgt iter wi) (hg:∀ C s₀ H₀ fp,PG (ccx X scope C N' s₀ H₀ fp) tgt g) (he:∀ C s₀ H₀ fp,PE (ccx X scope C N' s₀ H₀ fp) elt te)
  (hsw:swapsWith (.ListComp elt [⟨tgt,iter,[],0⟩] scope pos) (some (.Name y py)) spos.line X.env=pure true:=by rfl) (hfn:X.fn y=true∨X.env.scope.names.lookup y=some .local:=by first | exact .inl rfl | exact .inr rfl | assumption)
  (hs:∀ x,foldedSetIterable iter X.env x=pure x:=by intro _;rfl):PS X (.Assign [.Name y py] (.ListComp elt [⟨tgt,iter,[],0⟩] scope pos) spos) (ww (nE NL.length ρ wi g (cEl te)) (jm j)) :=
 uV (body:=fun acc env=>do let x ← eval elt env;let _ ← call (.builtin "list.append") [acc,x];pure ()) hN hj hy hfn hsw hc S hi hg (fun C s₀ H₀ fp=>uA (he C s₀ H₀ fp)) (fun it acc env=>nF elt tgt iter scope pos it acc env) hs
end
section
variable {X:Cx}
theorem xf (hu:X.A.units+64 < cLine):OpR X (compareOp .NotEq) (fun x y H Q=>wQ X.K x y H Q∨Bn X.K true x y H Q):=by
 intro pins s σ H x y v u Q I rx ry h;rcases h with h | h
 ·exact uI hu pins s σ H x y v u Q I rx ry h
 ·exact Bo hu pins s σ H x y v u Q I rx ry h
variable {K:W.Frag}
theorem pe_tupPK {es:List Expr} {x1:Nat} {pos:Pos} {t:TA} (hK:X.K=K) (h:PA X es t):PE X (.Tuple es x1 pos) (x9 K t):=by subst hK;exact wX h
theorem aP (hK:X.K=K):IxR X (G5 K):=by subst hK;exact wJ
theorem je (hK:X.K=K) (hu:X.A.units+64 < cLine):OpR X (compareOp .Eq) (Hc K):=by subst hK;exact Bm hu
theorem dH (hK:X.K=K):OpR X (compareOp .In) (rIn K false):=by subst hK;exact sF
end
section
variable {X:Cx}
def Hj (K:W.Frag) (HC:Addr) (i j:Nat) (te:TX) (ts:TS):TS:=fun D σ H=>te σ H (fun v H1=>D.nx (σ.set j (some v)) H1) fun cls _ H'=>∃ C,cls=.ref C∧W.exmOne K (.ref C) (.ref HC)=some true ∧
 ∀ ea,H' ea=none→ts { nx:=fun σ' H''=>D.nx (σ'.set i none) H'',rt:=D.rt,bk:=fun σ' H''=>D.bk (σ'.set i none) H'',ct:=fun σ' H''=>D.ct (σ'.set i none) H'' } (σ.set i (some (.ref ea))) (upd H' ea (xO ea C))
theorem xh {e:Expr} {x n y:Str} {i j:Nat} {py:Pos} {b₀:Stmt} {suite:List Stmt} {np p1 hpos pos:Pos} {te:TX} {HC:Addr} {ts:TS} (hstk:X.stack=X.env :: X.outer) (hfr:X.env.frame=some X.env.locals) (he:PX X e te) (hm:X.mg x=some (.ref HC)) (hg:Gl X x)
  (hN:X.N.Nodup) (hi:X.N[i]?=some n) (hlo:X.env.scope.names.lookup n=some .local) (hj:X.N[j]?=some y) (hy:Loc X.env.scope y) (hb:∀ ea,PSs (hcx X ea) (b₀ :: suite) ts) (hs:swapsWith e (some (.Name y py)) p1.line X.env=pure false:=by rfl) (hf:X.fn y=true∨X.env.scope.names.lookup y=some .local:=by first | exact .inl rfl | exact .inr rfl | assumption) (hdb:(x == ("__debug__" : Str))=false:=by decide) :
  PS X (.Try [.Assign [.Name y py] e p1] [.ExceptHandler (some (.Name x np)) (some n) (b₀ :: suite) hpos] [] [] pos) (Hj X.K HC i j te ts):=by
 intro pins s σ H D I h;have fr0:X.A.frames=some (X.env :: X.outer):=by rw [← hstk];exact I.ok.frames
 refine wpAny_Try_except (wpAny_execs_cons (wpAny_Assign_Name (wpAny_mono (he pins s σ H _ _ I h) (fun v s1 ⟨y,H1,I1,r1,q1⟩=>?_) (fun ex s1 ⟨H1,s0,I0,fl0⟩=>?_)) hs))
 ·exact dZ I1 hN hj hy r1 (fun s2 I2=>wpAny_execs_nil (wpAny_execs_nil ⟨_,H1,I2,q1⟩)) hf
 obtain ⟨ea,C,a0,B,H',rfl,fl,os,bare,un,hok,c1,c2,C',e',hx,q⟩:=fl0
 cases e'
 have flS:=fl;rw [hstk] at fl;refine wpAny_looks_onW fr0 hfr fl fun h4 held4 up4=>?_;refine wpAny_landsW held4 fun h5 held5 up5=>?_;have frames:∀ {h2:Heap},s1.heap.UpToSlots h2→∀ b o,s0.heap.get? b=some o→b∈frs X.stack→∃ sl,h2.get? b=some { o with slots:=sl }:=fun {h2} up b o e hb=>by
  obtain ⟨sl,e1⟩:=un.slot b o e (I0.stkFree b hb) hb (by simp);obtain ⟨o2,e2,nf⟩:=jw flS.2.2.1 hb;rw [e1] at e2;obtain rfl:=Option.some.inj e2;obtain ⟨sl2,e3⟩:=up b _ e1 nf;exact ⟨sl2,e3⟩
 have I5:Inv X pins σ H' { s1 with heap:=h5 }:=I0.call' (s':={ s1 with heap:=h5 }) os (mn un c1 c2 held5.1 (frames (up4.trans up5))) (hok.kept held5.1) bare (ch:=[]) (fun _ z=>nomatch z);have ea0:H' ea=none:=uK hok fl.2.1;obtain ⟨ob,hob,hobc⟩:=held5.there;have LT:W.Looks (model X.prog X.w) h5 (typeOf (.ref ea)) (.ref C):=by
  have L:W.Looks (model X.prog X.w) h5 (typeOf (.ref ea)) ob.cls:=(W.Looks.ld hob).andThen .now;rw [hobc] at L;exact L
 refine wpAny_handleBy_cons (codeAny_handlers_test (fo (X:=hcx X ea) (I5.hcx ea) hg hm ?_ hdb)) (by intro z;cases z);refine (W.exm_one (h:=h5) I5.kIn LT hx).here ?_;refine codeAny_handlers_suite_as ?_;refine lands_againW held5 fun h6 fl6 up6=>?_;have up16:s1.heap.UpToSlots h6:=(up4.trans up5).trans up6;obtain ⟨oe,ws,hoe,hoec,hoed,_⟩:=fl6.first
 have neF:ea∉frs X.stack:=fun hb=>by
  have f6:=fl6.2.2.1;rw [← hstk] at f6;obtain ⟨o2,e2,nf⟩:=jw f6 hb;rw [hoe] at e2;obtain rfl:=Option.some.inj e2;exact nf _ hoed
 have un6:Un (frs X.stack) [] H1 H' s0.heap h6:=mn un c1 c2 fl6.1 (frames up16);have un7:Un (frs X.stack) [] H1 (upd H' ea (xO ea C)) s0.heap h6:=by
  refine ⟨un6.keep,un6.slot,fun b o e n z=>?_,un6.there,fun b xs e=>?_,fun b o u e=>?_,fun b ps e=>?_⟩
  ·have hne:b≠ea:=by
    rintro rfl
    by_cases hb:b∈frs X.stack
    ·exact neF hb
    ·have z:=c1 b o e n hb;rw [fl.2.1] at z
     cases z
   rw [ag hne];exact un6.free b o e n z
  ·rw [ag (ah (un6.tups b xs e) ea0)];exact un6.tups b xs e
  ·rw [ag (ah (un6.frzs b o u e) ea0)];exact un6.frzs b o u e
  ·obtain ⟨m1,e1⟩:=un6.tbls b ps e;exact ⟨m1,by rw [ag (ah e1 ea0)];exact e1⟩
 have hok6:HOk X.prog X.w (upd H' ea (xO ea C)) h6:=fun b u e=>by
  by_cases hb:b=ea
  ·subst hb;rw [ac] at e
   cases e
   exact He ⟨oe,hoe,hoec⟩
  ·rw [ag hb] at e;exact (hok b u e).stay (fun c v _ z=>fl6.1 c v z) (fun c z=>by rw [ag (ah z ea0)];exact z) fun c xs z=>by rw [ag (ah z ea0)];exact z
 have I6:Inv X pins σ (upd H' ea (xO ea C)) { s1 with heap:=h6 }:=I0.call' (s':={ s1 with heap:=h6 }) os un7 hok6 bare (ch:=[]) (fun _ z=>nomatch z);refine dZ (X:=hcx X ea) (v:=.ref ea) (I6.hcx ea) hN hi (.inl hlo) rfl (fun s7 I7=>?_) (.inr hlo);refine wpAny_mono (hb ea pins s7 _ _ _ I7 (q ea ea0)) (fun f s8 h8=>?_) fun _ _ z=>z.elim
 cases f with
 | next =>
  obtain ⟨σ8,H8,I8,q8⟩:=h8;exact (I8.unhcx I.ok).goes hN hi hlo fun s9 I9=>⟨_,H8,I9,q8⟩
 | ret v =>
  obtain ⟨v8,σ8,H8,I8,r8,q8⟩:=h8;exact (I8.unhcx I.ok).goes hN hi hlo fun s9 I9=>⟨v8,_,H8,I9,r8,q8⟩
 | brk =>
  obtain ⟨σ8,H8,I8,q8⟩:=h8;exact (I8.unhcx I.ok).goes hN hi hlo fun s9 I9=>⟨_,H8,I9,q8⟩
 | cont =>
  obtain ⟨σ8,H8,I8,q8⟩:=h8;exact (I8.unhcx I.ok).goes hN hi hlo fun s9 I9=>⟨_,H8,I9,q8⟩
end
section
variable {X:Cx}
theorem de:∀ {ss:List Str} {us:List Value},Vals (ss.map V.str) us→StrsAre us ss
 | [],us,h=>by cases h;exact .nil
 | z :: ss,us,h=>by
  cases h with
  | cons r rr =>
   obtain ⟨t,rfl⟩:=r;exact .cons z t (de rr)
theorem ft:∀ {ss:List Str} {us:List Value},StrsAre us ss→Vals (ss.map V.str) us
 | _,_,.nil=>.nil
 | _,_,.cons z t r=>.cons ⟨t,rfl⟩ (ft r)
theorem qw:aO X (.builtin "sorted") (fun xs H Q=>∃ (p:Addr) (ss:List Str),xs=[.ref p]∧SqL X.K H p (ss.map V.str)∧ss.length < 64∧∀ a ss',H a=none→ss'.Perm ss→sortedS ss'=true→Q (.ref a) (upd H a (.lst (ss'.map V.str)))):=by
 intro pins s σ H xs us Q I r h;obtain ⟨p,ss,rfl,hp,hl,q⟩:=h;obtain ⟨u,rfl,rx⟩:=cP r
 cases rx
 obtain ⟨its,rv,pl,hz⟩:=I.list hp;have el:=rv.length;rw [aAa] at el;refine sorted_strs pl.isList (de rv) (by lia) fun out ss' h1 h2 h3=>?_;obtain ⟨e,he⟩:=sortedAll_at s.heap its out;have hn:H (s.heap.objs.size+1)=none:=I.hok.fresh (aBC _);refine ⟨.ref (s.heap.objs.size+1),_,I.laid (t':=s.toks) (o:=.lst (ss'.map V.str)) (fun b o=>sortedAll_old) (aBC _) ?_,rfl,q _ _ hn h2 h3⟩;have e2:seqObj "list" out e=seqObj "list" out.toList.toArray e:=by rw [aBJ]
 refine ⟨?_,out.toList,e,ft h1,?_⟩
 ·rw [aAa,h2.length_eq];exact aAY (aBc hl (by decide))
 ·rw [he,e2]
end
abbrev two (v:Value) (c:Nat):Obj:={ cls:=.type "list",dict:=none,data:=.seq #[v,v] c,slots:=#[] }
section
variable {prog:Program} {w:World} {A:Around} {R:Result→Shared→Prop} {it:Addr} {fp wr:List Addr} {n:Nat} {P:Nat→Value→Prop} {St:Nat→Heap→Prop}
end
section
variable {prog:Program} {w:World} {A:Around} {E:Value→Shared→Prop} {s:Shared} {l:Addr} {zs:Array (Int×Tok)} {d:Value} {Q:Value→Shared→Prop}
end
section
variable {X:Cx}
end
section
variable {X:Cx} {K:W.Frag}
end
section
variable {l:Addr} {g:TG} {tb:List V→Addr→St→Hp→(List V→St→Hp→Prop)→Prop} {R:Hp→Prop} {σ0:St} {H0:Hp} {lo:Int} {n:Nat} {z:Str}
theorem aU (Pv:Nat→List V→St→Hp→Prop) (h0:Pv 0 [] σ0 H0) (hs:∀ i ys σ H (N:List V→St→Hp→Prop),i < n→Pv i ys σ H→(∀ ys' σ' H',Pv (i+1) ys' σ' H'→N ys' σ' H')→g (.int (lo+i)) σ H fun σ2 H2=>tb ys l σ2 H2 N) (hd:∀ ys σ H,Pv n ys σ H→R H) :
  ∃ W:Nat→Nat→List V→St→Hp→Prop,(∃ m,W 0 m [] σ0 H0)∧∀ i m ys σ' H',W i m ys σ' H'→((Itr lo n).stop i H'∧R H')∨((Itr lo n).go i H'∧∀ x H'',(Itr lo n).yld i H' x H''→g x σ' H'' fun σ2 H2=>tb ys l σ2 H2 fun ys' σ3 H3=>∃ m',m' < m∧W (i+1) m' ys' σ3 H3):=qo (Q:=fun _ H=>R H) Pv h0 hs hd
theorem lm (Pv:Nat→List V→St→Hp→Prop) (h0:Pv 0 [] σ0 H0) (hs:∀ i c ys σ H (N:List V→St→Hp→Prop),z.cps[i]?=some c→Pv i ys σ H→(∀ ys' σ' H',Pv (i+1) ys' σ' H'→N ys' σ' H')→g (.str ⟨#[c]⟩) σ H fun σ2 H2=>tb ys l σ2 H2 N) (hd:∀ ys σ H,Pv z.cps.size ys σ H→R H) :
  ∃ W:Nat→Nat→List V→St→Hp→Prop,(∃ m,W 0 m [] σ0 H0)∧∀ i m ys σ' H',W i m ys σ' H'→((Its z).stop i H'∧R H')∨((Its z).go i H'∧∀ x H'',(Its z).yld i H' x H''→g x σ' H'' fun σ2 H2=>tb ys l σ2 H2 fun ys' σ3 H3=>∃ m',m' < m∧W (i+1) m' ys' σ3 H3):=nQ (Q:=fun _ H=>R H) Pv h0 hs hd
end
section
variable {X:Cx} {K:W.Frag}
inductive JIxP (K:W.Frag) (x y:V) (H:Hp) (Q:VK):Prop
 | mk (l:List Dt) (i:Int) (d:Dt):(IsP K H (.tup l) x)→(y=.int i)→(atI l i=some d)→(∀ v,IsP K H d v→Q v H)→JIxP K x y H Q
def Bt (K:W.Frag):R2:=fun x y H Q=>JIxP K x y H Q
def IH (K:W.Frag):R2:=fun x y H Q=>∃ l i d,IsD K H (.tup l) x∧y=.int i∧atI l i=some d∧∀ v,IsD K H d v→Q v H
def Hk (K:W.Frag):R2:=fun x y H Q=>wQ K x y H Q∨Bn K true x y H Q
inductive JLenD (K:W.Frag) (xs:List V) (H:Hp) (Q:VK):Prop
 | mk (x:V) (l:List Dt):(xs=[x])→(IsD K H (.tup l) x)→(Q (.int l.length) H)→JLenD K xs H Q
def Hl (K:W.Frag):List V→Hp→VK→Prop:=fun xs H Q=>JLenD K xs H Q
inductive JIsi (K:W.Frag) (xs:List V) (H:Hp) (Q:VK):Prop
 | mk (x:V) (T:String) (b:Bool):(xs=[x,.ty T])→(IsiB K H x T b)→(Q (.bl b) H)→JIsi K xs H Q
def II (K:W.Frag):List V→Hp→VK→Prop:=fun xs H Q=>JIsi K xs H Q
inductive JTupP (K:W.Frag) (xs:List V) (H:Hp) (Q:VK):Prop
 | mk (p:Addr) (ys:List V) (l:List Dt):(xs=[.ref p])→(SqL K H p ys)→(IsPs K H l ys)→(∀ v H',Same H H'→IsP K H' (.tup l) v→Q v H')→JTupP K xs H Q
def Hm (K:W.Frag):List V→Hp→VK→Prop:=fun xs H Q=>JTupP K xs H Q
theorem eD (hK:X.K=K):IxR X (Bt K):=by
 subst hK;intro e1 e2 pins s σ H x y v u Q I rx ry h hs;obtain ⟨l,i,d,a,b,c,q⟩:=h;exact wY _ _ _ _ _ _ _ _ _ _ _ I rx ry ⟨l,i,d,a,b,c,q⟩ hs
theorem ix_tupDN (hK:X.K=K):IxR X (IH K):=by subst hK;exact wT
theorem op_neDLN (hK:X.K=K) (hu:X.A.units+64 < cLine):OpR X (compareOp .NotEq) (Hk K):=by subst hK;exact xf hu
theorem xi (hK:X.K=K) (hu:X.A.units+64 < cLine):OpR X (compareOp .NotEq) (wQ K):=by subst hK;exact uI hu
theorem call_lenDN (hK:X.K=K):aO X (.builtin "len") (Hl K):=by
 subst hK;intro pins s σ H xs us Q I r h;obtain ⟨x,l,a,b,q⟩:=h;exact sR _ _ _ _ _ _ _ I r ⟨x,l,a,b,q⟩
theorem call_isiN' (hK:X.K=K):aO X (.builtin "isinstance") (II K):=by
 subst hK;intro pins s σ H xs us Q I r h;obtain ⟨x,l,m,a,b,q⟩:=h;exact uC _ _ _ _ _ _ _ I r ⟨x,l,m,a,b,q⟩
theorem aQ (hK:X.K=K):aO X (.type "tuple") (Hm K):=by
 subst hK;intro pins s σ H xs us Q I r h;obtain ⟨x,l,m,a,b,c,q⟩:=h;exact n9 _ _ _ _ _ _ _ I r ⟨x,l,m,a,b,c,q⟩
theorem pi_tupN {tg l:Expr} {tl:TE} (hK:X.K=K) (hl:PE X l tl):PI X tg l (GS K tl):=by subst hK;exact Bc hl
theorem pi_listN {tg l:Expr} {tl:TE} (hK:X.K=K) (hl:PE X l tl):PI X tg l (xX K tl):=by subst hK;exact wx hl
end
section
variable {prog:Program} {w:World} {A:Around} {E:Value→Shared→Prop} {s:Shared}
theorem fU {b t:Addr} {k:Nat} {its:Array Value} {v:Value} {Q:Value→Shared→Prop} (hb:IsTupIter s.heap b t k) (ht:IsTup s.heap t its) (hv:its[k]?=some v)
  (q:∀ h',IsTupIter h' b t (k+1)→Heap.SameBut b s.heap h'→Q v { s with heap:=h' }):wpAny (model prog w) A (Builtin.SmallTypes.nextOf (.ref b)) Q E s:=by
 obtain ⟨ob,gb,cb,db⟩:=id hb;obtain ⟨ot,gt,_,nt,dt⟩:=ht;unfold Builtin.SmallTypes.nextOf;refine wpAny_bind (wpAny_callSpecial?_slot (name:=Str.ofString "__next__") hb.typeIs slot_tupleiter_next (wpAny_call_entry slot_tupleiter_next hb.typeIs entry_tupleiter_next ?_ (args_tupleiter_next _)));refine show wpAny _ _ (field (.ref b) 0 >>= _) _ _ s from wpAny_bind (wpAny_field gb db (x:=.ref t) rfl ?_);refine show wpAny _ _ (if (Value.ref t == Value.none)=true then _ else _) _ _ s from ?_;rw [if_neg (by exact aAw)];refine show wpAny _ _ (field (.ref b) 1 >>= _) _ _ s from wpAny_bind (wpAny_field gb db (x:=.int k 0) rfl ?_);refine show wpAny _ _ (seqItems? (.ref t) >>= _) _ _ s from wpAny_bind (wpAny_seqItems gt dt ?_);simp only [hv,aA8];refine wpAny_bind (wpAny_setField gb db (by simp) (wpAny_pure ⟨v,rfl,wpAny_pure (q _ ⟨_,aBd _ gb (Obj.isFreed_of_fields (Obj.data_mapFields db _)),(Obj.cls_mapFields ..).trans cb,?_⟩ (Heap.SameBut.update ..))⟩));rw [Obj.data_mapFields db];simp [rawInt]
theorem lp {b t:Addr} {k:Nat} {its:Array Value} {Q:Value→Shared→Prop} (hh:A.handled=none) (hb:IsTupIter s.heap b t k) (ht:IsTup s.heap t its) (hv:its[k]?=none)
  (q:∀ h' e,Heap.ExtBut b s.heap h'→(∃ o,h'.get? e=some o∧o.cls=.type "StopIteration")→E (.ref e) { s with heap:=h' }):wpAny (model prog w) A (Builtin.SmallTypes.nextOf (.ref b)) Q E s:=by
 obtain ⟨ob,gb,cb,db⟩:=id hb;obtain ⟨ot,gt,_,nt,dt⟩:=ht;unfold Builtin.SmallTypes.nextOf;refine wpAny_bind (wpAny_callSpecial?_slot (name:=Str.ofString "__next__") hb.typeIs slot_tupleiter_next (wpAny_call_entry slot_tupleiter_next hb.typeIs entry_tupleiter_next ?_ (args_tupleiter_next _)));refine show wpAny _ _ (field (.ref b) 0 >>= _) _ _ s from wpAny_bind (wpAny_field gb db (x:=.ref t) rfl ?_);refine show wpAny _ _ (if (Value.ref t == Value.none)=true then _ else _) _ _ s from ?_;rw [if_neg (by exact aAw)];refine show wpAny _ _ (field (.ref b) 1 >>= _) _ _ s from wpAny_bind (wpAny_field gb db (x:=.int k 0) rfl ?_);refine show wpAny _ _ (seqItems? (.ref t) >>= _) _ _ s from wpAny_bind (wpAny_seqItems gt dt ?_);simp only [hv,aA8];refine wpAny_bind (wpAny_rule (wpAny_bind (wpAny_setField gb db (by simp) ?_)));refine show wpAny _ _ (newExc (.type "StopIteration") [] >>= _) _ _ _ from wpAny_bind ?_;simp only [newTuple,newExc];refine wpAny_bind (wpAny_newObj_type (wpAny_bind (m:=firstArgMember _ _) (wpAny_of_eq (a:=Value.none) (by first | rfl | (simp only [firstArgMember];rfl)) (wpAny_newObj_type ?_ (by size_fits)))) (by size_fits));simp only [raiseNew];refine wpAny_bind (wpAny_handled ?_);rw [show A.in1.handled=none from hh];exact wpAny_bind (wpAny_pure (wpAny_throw (q _ _ (((Heap.SameBut.update ..).extBut.push _).push _) ⟨_,aAq _ rfl,rfl⟩)))
theorem sX {z P0 P1 u v l m:Addr} {k:Nat} {xs ys:Array Value} {x y a b:Value} {Q:Option Value→Shared→Prop} (D:ZipApart z P0 P1 u v l m) (Z:IsZip s.heap z P0 P1 .none) (I0:IsPair s.heap P0 (.ref u) (.ref v)) (I1:IsPair s.heap P1 a b)
  (wu:IsTupIter s.heap u l k) (wv:IsTupIter s.heap v m k) (tl:IsTup s.heap l xs) (tm:IsTup s.heap m ys) (ex:xs[k]?=some x) (ey:ys[k]?=some y)
  (q:∀ h',IsZip h' z P0 P1 (rawInt s.heap.objs.size)→IsPair h' P1 x y→IsTupIter h' u l (k+1)→IsTupIter h' v m (k+1)→IsPair h' s.heap.objs.size x y→h'.objs.size=s.heap.objs.size+1 →
   (∀ c o,c≠z→c≠P1→c≠u→c≠v→s.heap.get? c=some o→h'.get? c=some o)→Q (some (.ref s.heap.objs.size)) { s with heap:=h' }):wpAny (model prog w) A (pyNext (.ref z)) Q E s:=by
 have hT:s.TypeIs (.ref z) "zip" :=⟨_,Z,rfl⟩;unfold pyNext;refine wpAny_bind (wpAny_attempt (wpAny_callSpecial?_slot (name:=Str.ofString "__next__") hT F.slot_zip_next (wpAny_call_entry F.slot_zip_next hT F.entry_zip_next ?_ (F.args_zip_next_1 _))));refine show wpAny _ _ (field (.ref z) 2 >>= _) _ _ _ from wpAny_bind (wpAny_field Z rfl (x:=.bool false) rfl ?_);refine show wpAny _ _ (field (.ref z) 3 >>= _) _ _ _ from wpAny_bind (wpAny_field Z rfl (x:=.ref P0) rfl (wpAny_bind (wpAny_seqItems I0 rfl ?_)));refine show wpAny _ _ (Builtin.SmallTypes.ownedTupleIsFree (.ref z) >>= _) _ _ _ from wpAny_bind ?_;unfold Builtin.SmallTypes.ownedTupleIsFree;refine wpAny_bind (wpAny_field Z rfl (x:=.none) rfl (wpAny_pure ?_));rw [if_pos rfl];refine wpAny_bind (wpAny_rule (wpAny_bind (wpAny_field Z rfl (x:=.ref P1) rfl (wpAny_bind (wpAny_setField_rec Z (by simp) fun ha Za sa=>?_)))));replace Za:IsZip ha z P0 P1 .ellipsis:=Za;refine wpAny_bind ?_;simp only [List.zipIdx_cons,aAV,List.zipIdx_nil,aBr];refine wpAny_bind (wpAny_bind (wpAny_onRaise ?_));refine show wpAny _ _ (Builtin.SmallTypes.nextOf (.ref u) >>= _) _ _ _ from wpAny_bind (fU (wu.extBut sa.extBut D.i1z) (tl.extBut sa.extBut D.l1z) ex fun hb wb sb=>wpAny_pure ?_);have Ib:IsPair hb P1 a b:=sb.extBut _ _ D.TOi1 (sa.extBut _ _ D.TOz I1);refine wpAny_bind (wpAny_seqItems Ib rfl (wpAny_bind (wpAny_updateSeq_pair Ib fun hc Ic sc=>wpAny_bind (wpAny_letGo (wpAny_pure ?_)))));replace Ic:IsPair hc P1 x b:=Ic;refine wpAny_bind (wpAny_bind (wpAny_onRaise ?_));refine show wpAny _ _ (Builtin.SmallTypes.nextOf (.ref v) >>= _) _ _ _ from wpAny_bind (fU (((wv.extBut sa.extBut D.i2z).extBut sb.extBut D.i12.symm).extBut sc.extBut D.TOi2.symm) (((tm.extBut sa.extBut D.l2z).extBut sb.extBut D.l2i1).extBut sc.extBut D.l2TO) ey fun hd wd sd=>wpAny_pure ?_);have Id:IsPair hd P1 x b:=sd.extBut _ _ D.TOi2 Ic;refine wpAny_bind (wpAny_seqItems Id rfl (wpAny_bind (wpAny_updateSeq_pair Id fun he Ie se=>wpAny_bind (wpAny_letGo (wpAny_pure (wpAny_pure ?_))))));replace Ie:IsPair he P1 x y:=Ie;refine wpAny_bind (wpAny_seqItems Ie rfl (wpAny_bind (wpAny_newTuple ?_)));have size:he.objs.size=s.heap.objs.size:=by rw [se.1,sd.1,sc.1,sb.1,sa.1]
 have Ze:IsZip he z P0 P1 .ellipsis:=se.extBut _ _ D.TOz.symm (sd.extBut _ _ D.i2z.symm (sc.extBut _ _ D.TOz.symm (sb.extBut _ _ D.i1z.symm Za)));have keep:∀ c o,c≠z→c≠P1→c≠u→c≠v→s.heap.get? c=some o→he.get? c=some o:=fun c o n1 n2 n3 n4 e=>se.extBut _ _ n2 (sd.extBut _ _ n4 (sc.extBut _ _ n2 (sb.extBut _ _ n3 (sa.extBut _ _ n1 e))));have we:IsTupIter he u l (k+1):=((wb.extBut sc.extBut D.TOi1.symm).extBut sd.extBut D.i12).extBut se.extBut D.TOi1.symm;have we':IsTupIter he v m (k+1):=wd.extBut se.extBut D.TOi2.symm;have ltz:z < he.objs.size:=aAf Ze;refine show wpAny _ _ (Builtin.SmallTypes.ownedTupleHandOut (.ref z) (.ref he.objs.size) >>= _) _ _ _ from wpAny_bind ?_;unfold Builtin.SmallTypes.ownedTupleHandOut;have Zf:IsZip (he.push { cls:=.type "tuple",data:=.seq #[x,y] }) z P0 P1 .ellipsis:=aAb _ Ze;refine wpAny_bind (wpAny_setField_rec Zf (by simp) fun hg Zg sg=>?_);replace Zg:IsZip hg z P0 P1 (rawInt he.objs.size):=Zg;refine wpAny_setField_rec Zg (by simp) fun hi Zi si=>?_;replace Zi:IsZip hi z P0 P1 (rawInt he.objs.size):=Zi;have up:∀ c o,c≠z→he.get? c=some o→hi.get? c=some o:=fun c o n e=>si.extBut _ _ n (sg.extBut _ _ n (aAb _ e));have Ti:IsPair hi he.objs.size x y:=si.extBut _ _ (aBk ltz) (sg.extBut _ _ (aBk ltz) (aAq _ rfl));have size':hi.objs.size=he.objs.size+1:=by rw [si.1,sg.1,aAT]
 refine wpAny_pure ⟨_,rfl,wpAny_pure ?_⟩;rw [size] at Zi Ti size';have go:=q hi Zi (up _ _ D.TOz Ie) (by obtain ⟨o,e,r⟩:=we;exact ⟨o,up _ o D.i1z e,r⟩) (by obtain ⟨o,e,r⟩:=we';exact ⟨o,up _ o D.i2z e,r⟩) Ti size' fun c o n1 n2 n3 n4 e=>up c o n1 (keep c o n1 n2 n3 n4 e);rw [← size] at go;exact go
theorem uW {z P0 P1 u v l m:Addr} {k:Nat} {xs ys:Array Value} {a b:Value} {Q:Option Value→Shared→Prop} (hh:A.handled=none) (D:ZipApart z P0 P1 u v l m) (Z:IsZip s.heap z P0 P1 .none) (I0:IsPair s.heap P0 (.ref u) (.ref v)) (I1:IsPair s.heap P1 a b)
  (wu:IsTupIter s.heap u l k) (wv:IsTupIter s.heap v m k) (tl:IsTup s.heap l xs) (tm:IsTup s.heap m ys) (no:xs[k]?=none∨ys[k]?=none)
  (q:∀ h',(∀ c o,c≠z→c≠P1→c≠u→c≠v→s.heap.get? c=some o→h'.get? c=some o)→Q none { s with heap:=h' }):wpAny (model prog w) A (pyNext (.ref z)) Q E s:=by
 have hT:s.TypeIs (.ref z) "zip" :=⟨_,Z,rfl⟩;unfold pyNext;refine wpAny_bind (wpAny_attempt (wpAny_callSpecial?_slot (name:=Str.ofString "__next__") hT F.slot_zip_next (wpAny_call_entry F.slot_zip_next hT F.entry_zip_next ?_ (F.args_zip_next_1 _))));refine show wpAny _ _ (field (.ref z) 2 >>= _) _ _ _ from wpAny_bind (wpAny_field Z rfl (x:=.bool false) rfl ?_);refine show wpAny _ _ (field (.ref z) 3 >>= _) _ _ _ from wpAny_bind (wpAny_field Z rfl (x:=.ref P0) rfl (wpAny_bind (wpAny_seqItems I0 rfl ?_)));refine show wpAny _ _ (Builtin.SmallTypes.ownedTupleIsFree (.ref z) >>= _) _ _ _ from wpAny_bind ?_;unfold Builtin.SmallTypes.ownedTupleIsFree;refine wpAny_bind (wpAny_field Z rfl (x:=.none) rfl (wpAny_pure ?_));rw [if_pos rfl];refine wpAny_bind (wpAny_rule (wpAny_bind (wpAny_field Z rfl (x:=.ref P1) rfl (wpAny_bind (wpAny_setField_rec Z (by simp) fun ha Za sa=>?_)))));replace Za:IsZip ha z P0 P1 .ellipsis:=Za;refine wpAny_bind ?_;simp only [List.zipIdx_cons,aAV,List.zipIdx_nil,aBr];refine wpAny_bind (wpAny_bind (wpAny_onRaise ?_));have stop:∀ {h':Heap} {e:Addr},(∃ o,h'.get? e=some o∧o.cls=.type "StopIteration")→IsZip h' z P0 P1 .ellipsis→e≠z:=fun he hz c=>by
  obtain ⟨o,ho,hc⟩:=he;subst c;rw [hz] at ho
  cases ho
  simp at hc
 have fin:∀ {h':Heap} {e:Addr},(∃ o,h'.get? e=some o∧o.cls=.type "StopIteration")→(∀ c o,c≠z→c≠P1→c≠u→c≠v→s.heap.get? c=some o→h'.get? c=some o) →
   wpAny (model prog w) A (do if (← isInstance (.ref e) (.type "StopIteration")) then pure none else throw (.ref e)) Q E { s with heap:=h' }:=fun {h' e} he hk=>by
  obtain ⟨o,ho,hc⟩:=he;exact wpAny_bind (wpAny_isInstance (T:= "StopIteration") (b:=true) ⟨o,ho,hc⟩ isSubtype_stop (wpAny_pure (q _ hk)))
 cases ex:xs[k]? with
 | none =>
  refine show wpAny _ _ (Builtin.SmallTypes.nextOf (.ref u) >>= _) _ _ _ from wpAny_bind (lp hh (wu.extBut sa.extBut D.i1z) (tl.extBut sa.extBut D.l1z) ex fun hb e sb he=>?_);have Zb:IsZip hb z P0 P1 .ellipsis:=sb _ _ D.i1z.symm Za;have ne:=stop he Zb;obtain ⟨o,ho,hc⟩:=he;exact wpAny_setField_rec Zb (by simp) fun hd _ sd=>fin ⟨o,sd.extBut _ _ ne ho,hc⟩ fun c o n1 _ n3 _ e=>sd.extBut _ _ n1 (sb _ _ n3 (sa.extBut _ _ n1 e))
 | some x =>
  have ey:ys[k]?=none:=no.resolve_left (by rw [ex];simp);refine show wpAny _ _ (Builtin.SmallTypes.nextOf (.ref u) >>= _) _ _ _ from wpAny_bind (fU (wu.extBut sa.extBut D.i1z) (tl.extBut sa.extBut D.l1z) ex fun hb wb sb=>wpAny_pure ?_);have Ib:IsPair hb P1 a b:=sb.extBut _ _ D.TOi1 (sa.extBut _ _ D.TOz I1);refine wpAny_bind (wpAny_seqItems Ib rfl (wpAny_bind (wpAny_updateSeq_pair Ib fun hc Ic sc=>wpAny_bind (wpAny_letGo (wpAny_pure (wpAny_bind (wpAny_bind (wpAny_onRaise ?_))))))));refine show wpAny _ _ (Builtin.SmallTypes.nextOf (.ref v) >>= _) _ _ _ from wpAny_bind (lp hh (((wv.extBut sa.extBut D.i2z).extBut sb.extBut D.i12.symm).extBut sc.extBut D.TOi2.symm) (((tm.extBut sa.extBut D.l2z).extBut sb.extBut D.l2i1).extBut sc.extBut D.l2TO) ey fun hd e sd he=>?_);have Zd:IsZip hd z P0 P1 .ellipsis:=sd _ _ D.i2z.symm (sc.extBut _ _ D.TOz.symm (sb.extBut _ _ D.i1z.symm Za));have ne:=stop he Zd;obtain ⟨o,ho,hcl⟩:=he;exact wpAny_setField_rec Zd (by simp) fun hf _ sf=>fin ⟨o,sf.extBut _ _ ne ho,hcl⟩ fun c o n1 n2 n3 n4 e=>sf.extBut _ _ n1 (sd _ _ n4 (sc.extBut _ _ n2 (sb.extBut _ _ n3 (sa.extBut _ _ n1 e))))
theorem yb (hh:A.handled=none) (z P0 P1 u v l m:Addr) (D:ZipApart z P0 P1 u v l m) (xs ys:Array Value) :
  WalksT prog w A z [z,P0,P1,u,v,l,m] [z,P1,u,v] (min xs.size ys.size) (fun i vals=>∃ x y,xs[i]?=some x∧ys[i]?=some y∧vals=#[x,y])
   (fun i h=>IsZip h z P0 P1 .none∧IsPair h P0 (.ref u) (.ref v)∧(∃ a b,IsPair h P1 a b)∧IsTupIter h u l i∧IsTupIter h v m i∧IsTup h l xs∧IsTup h m ys)
   (fun i T h=>IsZip h z P0 P1 (rawInt T)∧IsPair h P0 (.ref u) (.ref v)∧(∃ a b,IsPair h P1 a b)∧IsTupIter h u l (i+1)∧IsTupIter h v m (i+1)∧IsTup h l xs∧IsTup h m ys∧T≠z∧T≠P1∧T≠u∧T≠v) where
 sub:=fun c hc=>by
  simp only [aAp,aAF,or_false] at hc ⊢;rcases hc with h | h | h | h <;> simp [h]
 frame:=fun i h h' st kk=>by
  obtain ⟨Z,I0,⟨a,b,I1⟩,⟨o1,e1,r1⟩,⟨o2,e2,r2⟩,⟨o3,e3,r3⟩,⟨o4,e4,r4⟩⟩:=st;exact ⟨kk z (by simp) _ Z,kk P0 (by simp) _ I0,⟨a,b,kk P1 (by simp) _ I1⟩,⟨o1,kk u (by simp) _ e1,r1⟩,⟨o2,kk v (by simp) _ e2,r2⟩,⟨o3,kk l (by simp) _ e3,r3⟩,⟨o4,kk m (by simp) _ e4,r4⟩⟩
 item:=fun i s Q E hi st q=>by
  obtain ⟨Z,I0,⟨a,b,I1⟩,wu,wv,tl,tm⟩:=st;have h1:i < xs.size:=by lia
  have h2:i < ys.size:=by lia
  refine sX D Z I0 I1 wu wv tl tm (aBj h1) (aBj h2) fun h' a1 a2 a3 a4 a5 a6 kk=>?_;have far:∀ {c o},s.heap.get? c=some o→s.heap.objs.size≠c:=fun e=>aBk (aAf e);obtain ⟨o1,e1,_⟩:=wu;obtain ⟨o2,e2,_⟩:=wv;obtain ⟨o3,e3,r3⟩:=tl;obtain ⟨o4,e4,r4⟩:=tm;refine q s.heap.objs.size #[xs[i],ys[i]] h' s.toks ⟨_,_,aBj h1,aBj h2,rfl⟩ (aAl _) ⟨_,a5,rfl,_,rfl⟩ ⟨a1,kk _ _ D.TIz D.TITO D.TIi1 D.TIi2 I0,⟨_,_,a2⟩,a3,a4,⟨o3,kk _ _ D.l1z D.l1TO D.l1i1 D.l1i2 e3,r3⟩,⟨o4,kk _ _ D.l2z D.l2TO D.l2i1 D.l2i2 e4,r4⟩,far Z,far I1,far e1,far e2⟩ fun c o hc e=>?_;simp only [aAp,aAF,or_false,not_or] at hc;exact kk c o hc.1 hc.2.1 hc.2.2.1 hc.2.2.2 e
 go:=fun elts k pos i T s Q E st q=>by
  obtain ⟨Z,I0,⟨a,b,I1⟩,wu,wv,tl,tm,_⟩:=st;refine wpAny_letOwnedTupleGo_zip Z fun h' Z' s'=>q h' ⟨Z',s'.extBut _ _ D.TIz I0,⟨a,b,s'.extBut _ _ D.TOz I1⟩,wu.extBut s'.extBut D.i1z,wv.extBut s'.extBut D.i2z,tl.extBut s'.extBut D.l1z,tm.extBut s'.extBut D.l2z⟩ fun c o hc e=>?_;simp only [aAp,aAF,or_false,not_or] at hc;exact s'.extBut _ _ hc.1 e
 apart:=fun i T h st hT=>by
  obtain ⟨_,_,_,_,_,_,_,n1,n2,n3,n4⟩:=st;simp only [aAp,aAF,or_false] at hT;rcases hT with h | h | h | h
  ·exact n1 h
  ·exact n2 h
  ·exact n3 h
  ·exact n4 h
 done:=fun s Q E st q=>by
  obtain ⟨Z,I0,⟨a,b,I1⟩,wu,wv,tl,tm⟩:=st;have no:xs[min xs.size ys.size]?=none∨ys[min xs.size ys.size]?=none:=by
   rcases Nat.le_total xs.size ys.size with h | h
   ·exact .inl (aCe (by lia))
   ·exact .inr (aCe (by lia))
  refine uW hh D Z I0 I1 wu wv tl tm no fun h' kk=>q h' s.toks fun c o hc e=>?_;simp only [aAp,aAF,or_false,not_or] at hc;exact kk c o hc.1 hc.2.1 hc.2.2.1 hc.2.2.2 e
 self:=fun i s Q E st q=>wpAny_pyIter_zip st.1 q
abbrev zT1 (h:Heap) (l:Addr):Heap:=h.push { cls:=.type "tuple_iterator",data:=.fields #[.ref l,.int 0 0] }
abbrev zT2 (h:Heap) (l m:Addr):Heap:=(zT1 h l).push { cls:=.type "tuple_iterator",data:=.fields #[.ref m,.int 0 0] }
abbrev zT3 (h:Heap) (l m:Addr):Heap:=(zT2 h l m).push { cls:=.type "tuple",data:=.seq #[.ref h.objs.size,.ref (zT1 h l).objs.size] }
abbrev zT4 (h:Heap) (l m:Addr):Heap:=(zT3 h l m).push { cls:=.type "tuple",data:=.seq #[.none,.none] }
abbrev zT5 (h:Heap) (l m:Addr):Heap:=(zT4 h l m).push { cls:=.type "zip",data:=.fields #[.none,.bool false,.bool false,.ref (zT2 h l m).objs.size,.ref (zT3 h l m).objs.size] }
theorem qx (l m:Addr) (xs ys:Array Value) :
  Meets (Builtin.«zip.__new__» ⟨[.type "zip",.ref l,.ref m],[]⟩) (fun _ R s=>IsTup s.heap l xs∧IsTup s.heap m ys∧R (.ok (.ret (.ref (zT4 s.heap l m).objs.size))) { s with heap:=zT5 s.heap l m }) :=
 .of_wp fun prog w A R s h=>by
  obtain ⟨hp,g,d,tk,os⟩:=s;obtain ⟨tl,tm,h⟩:=h;have sub:=sub_zip;have T1:IsTup (Shared.heap ⟨hp,g,d,tk,os⟩) l xs:=tl;have T2:IsTup (Shared.heap ⟨hp.push { cls:=.type "tuple_iterator",data:=.fields #[.ref l,.int 0 0] },g,d,tk,os⟩) m ys:=IsTup.push tm _
  wp_walk using iter_tuple T1,iter_tuple T2
  exact ⟨_,rfl,h⟩
theorem sY {l m:Addr} {xs ys:Array Value} {Q:Value→Shared→Prop} (tl:IsTup s.heap l xs) (tm:IsTup s.heap m ys)
  (q:∀ h',IsZip h' (s.heap.objs.size+4) (s.heap.objs.size+2) (s.heap.objs.size+3) .none→IsPair h' (s.heap.objs.size+2) (.ref s.heap.objs.size) (.ref (s.heap.objs.size+1))→IsPair h' (s.heap.objs.size+3) .none .none →
   IsTupIter h' s.heap.objs.size l 0→IsTupIter h' (s.heap.objs.size+1) m 0→h'.objs.size=s.heap.objs.size+5→(∀ c o,s.heap.get? c=some o→h'.get? c=some o)→Q (.ref (s.heap.objs.size+4)) { s with heap:=h' }) :
  wpAny (model prog w) A (call (.type "zip") [.ref l,.ref m]) Q E s:=by
 refine callType_new F.called_zip (by decide) (F.typeCall_zip_2 _ _) (F.newCall_zip_2 _ _) (fun obj=>F.args_object_init_3 obj _ _) F.entry_zip_new (qx l m xs ys) ⟨tl,tm,?_⟩;have n1:(zT1 s.heap l).objs.size=s.heap.objs.size+1:=aAT ..;have n2:(zT2 s.heap l m).objs.size=s.heap.objs.size+2:=by rw [aAT,n1]
 have n3:(zT3 s.heap l m).objs.size=s.heap.objs.size+3:=by rw [aAT,n2]
 have n4:(zT4 s.heap l m).objs.size=s.heap.objs.size+4:=by rw [aAT,n3]
 have n5:(zT5 s.heap l m).objs.size=s.heap.objs.size+5:=by rw [aAT,n4]
 have e5:(zT5 s.heap l m).get? (zT4 s.heap l m).objs.size=some _:=aAq _ rfl;have e4:(zT5 s.heap l m).get? (zT3 s.heap l m).objs.size=some _:=aAb _ (aAq _ rfl);have e3:(zT5 s.heap l m).get? (zT2 s.heap l m).objs.size=some _:=aAb _ (aAb _ (aAq _ rfl));have e2:(zT5 s.heap l m).get? (zT1 s.heap l).objs.size=some _:=aAb _ (aAb _ (aAb _ (aAq _ rfl)));have e1:(zT5 s.heap l m).get? s.heap.objs.size=some _:=aAb _ (aAb _ (aAb _ (aAb _ (aAq _ rfl))));refine show _∧_ from ?_;rw [n2,n3,n4] at e5;rw [n1,n2] at e3;rw [n3] at e4;rw [n1] at e2;rw [n4];exact ⟨⟨_,e5,rfl⟩,q _ e5 e3 e4 ⟨_,e1,rfl,rfl⟩ ⟨_,e2,rfl,rfl⟩ n5 fun c o x=>aAb _ (aAb _ (aAb _ (aAb _ (aAb _ x))))⟩
end
def og (K:W.Frag) (a b:Addr):It :=
 ⟨fun i H=>∃ xs ys x y,SqT K H a xs∧SqT K H b ys∧xs[i]?=some x∧ys[i]?=some y,
  fun i H v H'=>∃ T x y,v=.ref T∧H T=none∧H'=upd H T (.tup [x,y])∧(∀ xs,SqT K H a xs→xs[i]?=some x)∧(∀ ys,SqT K H b ys→ys[i]?=some y),
  fun i H=>∃ xs ys,SqT K H a xs∧SqT K H b ys∧min xs.length ys.length=i⟩
def Bu (z TI TO i1 i2 l1 l2:Addr) (i:Nat) (h:Heap):Prop:=IsZip h z TI TO .none∧IsPair h TI (.ref i1) (.ref i2)∧(∃ a b,IsPair h TO a b)∧IsTupIter h i1 l1 i∧IsTupIter h i2 l2 i
theorem sZ {P:Program} {w:World} {K:W.Frag} {elts:List Expr} {k:Nat} {pos:Pos} (z TI TO i1 i2 l1 l2:Addr) (D:ZipApart z TI TO i1 i2 l1 l2) :
  Turn P w K (.Tuple elts k pos) (og K l1 l2) [z,TI,TO,i1,i2] z (Bu z TI TO i1 i2 l1 l2) where
 mem:=by simp
 obj:=fun i h st b hb=>by
  obtain ⟨hz,hTI,⟨a,c,hTO⟩,⟨o1,e1,c1,d1⟩,⟨o2,e2,c2,d2⟩⟩:=st;simp only [aAp,aAF,or_false] at hb;rcases hb with rfl | rfl | rfl | rfl | rfl
  ·exact ⟨_,hz,fun v q=>by cases q⟩
  ·exact ⟨_,hTI,fun v q=>by cases q⟩
  ·exact ⟨_,hTO,fun v q=>by cases q⟩
  ·exact ⟨o1,e1,fun v q=>by rw [d1] at q;cases q⟩
  ·exact ⟨o2,e2,fun v q=>by rw [d2] at q;cases q⟩
 keep:=fun i h h' st kk=>by
  obtain ⟨hz,hTI,⟨a,c,hTO⟩,⟨o1,e1,r1⟩,⟨o2,e2,r2⟩⟩:=st;exact ⟨kk z (by simp) _ hz,kk TI (by simp) _ hTI,⟨a,c,kk TO (by simp) _ hTO⟩,⟨o1,kk i1 (by simp) _ e1,r1⟩,⟨o2,kk i2 (by simp) _ e2,r2⟩⟩
 item:=by
  intro X hP hw hK hc i pins s σ H E I hf st hg;subst hP hw hK;obtain ⟨xs,ys,x,y,hx,hy,ex,ey⟩:=hg;obtain ⟨its,rv,p,hz⟩:=I.tuple hx;obtain ⟨its2,rv2,p2,hz2⟩:=I.tuple hy;obtain ⟨s1,s2,s3,s4,s5⟩:=st;have W:=yb (prog:=X.prog) (w:=X.w) (I.ok.hd hc) z TI TO i1 i2 l1 l2 D its.toArray its2.toArray;have li:i < xs.length:=(aAc.mp ex).1;have li2:i < ys.length:=(aAc.mp ey).1;have el:=rv.length;have el2:=rv2.length;have wsub:∀ b∈[z,TO,i1,i2],b∈[z,TI,TO,i1,i2]:=fun b hb=>by
   simp only [aAp,aAF,or_false] at hb ⊢;rcases hb with rfl | rfl | rfl | rfl <;> simp
  refine W.item i s _ _ (by simp only [aAv];lia) ⟨s1,s2,s3,s4,s5,p,p2⟩ fun T vals h' tk hv hT hTup hm hk=>?_;obtain ⟨u,v,eu,ev,rfl⟩:=hv;obtain ⟨u',eu',ru⟩:=rv.get ex;obtain ⟨v',ev',rv'⟩:=rv2.get ey;have e1:u=u':=by
   have:its[i]?=some u:=by simpa using eu
   rw [eu'] at this;exact (Option.some.inj this).symm
  have e2:v=v':=by
   have:its2[i]?=some v:=by simpa using ev
   rw [ev'] at this;exact (Option.some.inj this).symm
  subst e1 e2;have hTn:H T=none:=I.hok.fresh hT;have I1:Inv X pins σ (upd H T (.tup [x,y])) { s with heap:=h',toks:=tk }:=I.turnedT hk (fun b hb=>hf b (wsub b hb)) hT ⟨by show 2≤sizeLine;decide,[u,v],.cons ru (.cons rv' .nil),hTup⟩;have ap:=W.apart i T h' hm;have f1:∀ b∈[z,TO,i1,i2],fG X pins (upd H T (.tup [x,y])) b:=fun b hb=>by
   obtain ⟨f0,f1⟩:=hf b (wsub b hb);exact ⟨by rw [ag (fun e:b=T=>ap (by rw [← e];exact hb))];exact f0,f1⟩
  refine ⟨_,rfl,W.go elts k pos i T _ _ _ hm fun h'' st2 hk2=>?_⟩;obtain ⟨t1,t2,t3,t4,t5,_,_⟩:=st2;refine ⟨.ref T,_,Inv.turnedL (s:={ s with heap:=h',toks:=tk }) (t':=tk) I1 hk2 f1,rfl,⟨T,x,y,rfl,hTn,rfl,fun zs q=>by rw [I.tuple_inj q hx];exact ex,fun zs q=>by rw [I.tuple_inj q hy];exact ey⟩,⟨t1,t2,t3,t4,t5⟩,fun b hb=>?_⟩;have fb:=(hf b hb).1
  by_cases e:b=T
  ·subst e;have lti:s.heap.objs.size > TI:=aAf s2;simp only [aAp,aAF,or_false] at hb;rcases hb with rfl | rfl | rfl | rfl | rfl
   ·exact absurd (by simp) ap
   ·exact absurd lti (aB1.mpr hT)
   ·exact absurd (by simp) ap
   ·exact absurd (by simp) ap
   ·exact absurd (by simp) ap
  ·rw [ag e];exact fb
 done:=by
  intro X hP hw hK hc i pins s σ H E I hf st hg;subst hP hw hK;obtain ⟨xs,ys,hx,hy,hi⟩:=hg;obtain ⟨its,rv,p,hz⟩:=I.tuple hx;obtain ⟨its2,rv2,p2,hz2⟩:=I.tuple hy;obtain ⟨s1,s2,s3,s4,s5⟩:=st;have W:=yb (prog:=X.prog) (w:=X.w) (I.ok.hd hc) z TI TO i1 i2 l1 l2 D its.toArray its2.toArray;have el:=rv.length;have el2:=rv2.length;have en:min its.toArray.size its2.toArray.size=i:=by simp only [aAv];lia
  have wsub:∀ b∈[z,TO,i1,i2],b∈[z,TI,TO,i1,i2]:=fun b hb=>by
   simp only [aAp,aAF,or_false] at hb ⊢;rcases hb with rfl | rfl | rfl | rfl <;> simp
  refine W.done s _ _ ?_ fun h' tk hk=>⟨rfl,I.turnedL hk fun b hb=>hf b (wsub b hb)⟩;rw [en];exact ⟨s1,s2,s3,s4,s5,p,p2⟩
 self:=fun _ _ _ _ _ st h=>wpAny_pyIter_zip st.1 h
section
variable {X:Cx} {elts:List Expr} {k:Nat} {tpos:Pos}
def Hn (K:W.Frag) (ta:TA):TI:=fun σ H R=>ta σ H fun vs H1=>∃ a b,vs=[.ref a,.ref b]∧(∃ xs,SqT K H1 a xs)∧(∃ ys,SqT K H1 b ys)∧R (og K a b) H1
theorem xj {a b:Expr} {ta:TA} {p pos:Pos} (hg:Gl X "zip") (hm:X.mg "zip" = none) (ha:PA X [a,b] ta) (hs:starEach [a,b] X.env=[(false,eval a X.env),(false,eval b X.env)]:=by rfl) (hs2:starEach [b] X.env=[(false,eval b X.env)]:=by rfl) :
  PI X (.Tuple elts k tpos) (.Call (.Name "zip" p) [a,b] [] pos) (Hn X.K ta):=by
 intro pins s σ H R I h;refine Call_ (gX I hg hm boot_zip (PyProof.Rows.callWith_type1 (thn (ha pos pins s σ H _ I h) fun us s1 ⟨vs,H1,I1,r1,q1⟩=>?_) (by rw [hs,hs2]) (by rw [hs2];rfl)));obtain ⟨l1,l2,e,⟨xs,hx⟩,⟨ys,hy⟩,q⟩:=q1;subst e;obtain ⟨u,v,rfl,ru,rv⟩:=r1.two
 cases ru
 cases rv
 obtain ⟨its,rr,pl,hz⟩:=I1.tuple hx;obtain ⟨its2,rr2,pl2,hz2⟩:=I1.tuple hy;have lt1:l1 < s1.heap.objs.size:=by obtain ⟨o,e,_⟩:=pl;exact aAf e
 have lt2:l2 < s1.heap.objs.size:=by obtain ⟨o,e,_⟩:=pl2;exact aAf e
 refine sY pl pl2 fun h' z1 z2 z3 z4 z5 zs kk=>?_;have I2:Inv X pins σ H1 { s1 with heap:=h' }:=I1.kept (t':=s1.toks) kk;refine wpAny_pyIter_zip z1 ?_;refine ⟨_,_,_,_,H1,rfl,I2,sZ _ _ _ _ _ l1 l2 ?_,⟨z1,z2,⟨_,_,z3⟩,z4,z5⟩,fun b hb=>?_,q⟩
 ·have lt1':s1.heap.objs.size > l1:=lt1;have lt2':s1.heap.objs.size > l2:=lt2
  constructor <;> (show ¬ (@Eq Nat _ _)) <;> lia
 ·have:s1.heap.objs.size≤b:=by
   simp only [aAp,aAF,or_false] at hb;rcases hb with rfl | rfl | rfl | rfl | rfl <;> lia
  exact I1.fpOk this (I1.hok.fresh this)
end
theorem tj {K:W.Frag} {a b l:Addr} {xs ys:List V} {g:TG} {tb:List V→Addr→St→Hp→(List V→St→Hp→Prop)→Prop} {Q:VK} {σ0:St} {H0:Hp} (Pv:Nat→List V→St→Hp→Prop) (h0:Pv 0 [] σ0 H0)
  (hla:∀ i us σ H,Pv i us σ H→SqT K H a xs∧SqT K H b ys)
  (hs:∀ i x y T us σ H (N:List V→St→Hp→Prop),xs[i]?=some x→ys[i]?=some y→H T=none→Pv i us σ H→(∀ us' σ' H',Pv (i+1) us' σ' H'→N us' σ' H')→g (.ref T) σ (upd H T (.tup [x,y])) fun σ2 H2=>tb us l σ2 H2 N)
  (hd:∀ us σ H,Pv (min xs.length ys.length) us σ H→Q (.ref l) H) :
  ∃ W:Nat→Nat→List V→St→Hp→Prop,(∃ m,W 0 m [] σ0 H0)∧∀ i m us σ' H',W i m us σ' H'→((og K a b).stop i H'∧Q (.ref l) H') ∨
   ((og K a b).go i H'∧∀ x H'',(og K a b).yld i H' x H''→g x σ' H'' fun σ2 H2=>tb us l σ2 H2 fun us' σ3 H3=>∃ m',m' < m∧W (i+1) m' us' σ3 H3):=by
 refine ⟨fun i m us σ H=>m=min xs.length ys.length - i∧i≤min xs.length ys.length∧Pv i us σ H,⟨_,rfl,aAx _,h0⟩,?_⟩;rintro i m us σ H ⟨rfl,hi,p⟩;obtain ⟨sa,sb⟩:=hla i us σ H p
 by_cases hlt:i < min xs.length ys.length
 ·obtain ⟨x,ex⟩:∃ x,xs[i]?=some x:=⟨_,aAm (by lia)⟩;obtain ⟨y,ey⟩:∃ y,ys[i]?=some y:=⟨_,aAm (by lia)⟩;refine .inr ⟨⟨xs,ys,x,y,sa,sb,ex,ey⟩,fun v H' q=>?_⟩;obtain ⟨T,x',y',rfl,hT,rfl,q1,q2⟩:=q;have e1:=q1 xs sa;have e2:=q2 ys sb;exact hs i x' y' T us σ H _ e1 e2 hT p fun us' σ' H' w=>⟨_,by lia,rfl,hlt,w⟩
 ·have e:i=min xs.length ys.length:=by lia
  subst e;exact .inl ⟨⟨xs,ys,sa,sb,rfl⟩,hd us σ H p⟩
section
variable {X:Cx} {K:W.Frag}
theorem lq:OpR X (compareOp .LtE) (fun x y H Q=>∃ i j,x=.str i∧y=.str j∧Q (.bl (!decide (j.cps.toList < i.cps.toList))) H):=by
 intro pins s σ H x y v u Q I rx ry h;obtain ⟨i,j,rfl,rfl,q⟩:=h;obtain ⟨t,rfl⟩:=rx;obtain ⟨t',rfl⟩:=ry;exact PySem.P.le_str (az I q rfl)
end
section
variable {prog:Program} {w:World} {A:Around} {E:Value→Shared→Prop} {s:Shared}
theorem kB:typeLookup (.type "dict") "__len__" = pure (some (.builtin "dict.__len__")):=by rw [typeLookup_type,builtinLookup_eq_fast];kernel_rfl
theorem uX {d:Addr} {kvs:List (Key×Value)} {Q:List Value→Shared→Prop} (hh:A.handled=none) (hd:(d == sysModules)=false) (hm:s.heap.DictOf (av prog w) d kvs) (hn:kvs.length≤sizeLine)
  (q:∀ s' acc,(∀ b o,s.heap.get? b=some o→s'.heap.get? b=some o)→s.heap.objs.size < s'.heap.objs.size→s'.gens=s.gens→s'.drawn=s.drawn→s'.os=s.os→ItemsOf (fun i v=>∃ k x,kvs[i]?=some (k,x)∧(av prog w).is k v=true) acc kvs.length→Q acc.toList s') :
  wpAny (model prog w) A (collect (.ref d)) Q E s:=by
 obtain ⟨ep,at0⟩:=hm.dictAt;have hdT:s.TypeIs (.ref d) "dict" :=hm.typeIs;unfold collect;refine wpAny_bind (wpAny_runValue (codeAny_builtin F.entry_proto_collect ?_));rw [Around.under_plainId F.plain_proto_collect _];refine show wpAny _ A.in1 (newList [] >>= fun l=>again (.builtin "list.__iadd__" ⟨[l,.ref d],[]⟩)) _ _ s from wpAny_bind (wpAny_newObj_type ?_);refine wpAny_pure ⟨plainId_quiet F.plain_list_iadd _,codeAny_builtin F.entry_list_iadd ?_⟩;rw [Around.under_plainId F.plain_list_iadd _];have ltd:d < s.heap.objs.size:=at0.lt_size;have at1:=at0.push { cls:=.type "list",data:=.seq ([]:List Value).toArray }
 generalize hH:s.heap.push { cls:=.type "list",data:=.seq ([]:List Value).toArray }=G at at1 ⊢
 have hT1:Shared.TypeIs { s with heap:=G } (.ref d) "dict" :=at1.dictOf.typeIs;refine show wpAny _ A.in1 (Builtin.List.listExtendWith (.ref s.heap.objs.size) (.ref d) (.ref s.heap.objs.size)) _ _ _ from ?_;unfold Builtin.List.listExtendWith;refine wpAny_bind (wpAny_typeOf hT1 ?_);have n1:Builtin.List.listSameRef (.ref s.heap.objs.size) (.ref d)=false:=by simp [Builtin.List.listSameRef];exact aBk ltd
 simp only [n1,show (Value.type "dict" == Value.type "list")=false by decide,show (Value.type "dict" == Value.type "tuple")=false by decide,aCk,aAH,if_false];refine wpAny_bind (wpAny_pyIter_dict hd at1 ?_);refine wpAny_bind (wpAny_holding ?_);have at2:=at1.push { cls:=.type "dict_keyiterator",data:=.fields #[.ref d,.int 0 0,.int kvs.length 0,.int ep 0] };have k2:Heap.IsKeyIter (G.push { cls:=.type "dict_keyiterator",data:=.fields #[.ref d,.int 0 0,.int kvs.length 0,.int ep 0] }) G.objs.size d 0 kvs.length ep:=⟨_,aAq _ rfl,rfl,rfl⟩;have S2:(G.push { cls:=.type "dict_keyiterator",data:=.fields #[.ref d,.int 0 0,.int kvs.length 0,.int ep 0] }).get? s.heap.objs.size=some { cls:=.type "list",data:=.seq ([]:List Value).toArray }:=aAb _ (hH ▸ aAq _ rfl);have keep2:∀ b o,s.heap.get? b=some o→(G.push { cls:=.type "dict_keyiterator",data:=.fields #[.ref d,.int 0 0,.int kvs.length 0,.int ep 0] }).get? b=some o:=fun b o e=>aAb _ (hH ▸ aAb _ e);have sizeG:G.objs.size=s.heap.objs.size+1:=by rw [← hH,aAT]
 generalize G.push { cls:=.type "dict_keyiterator",data:=.fields #[.ref d,.int 0 0,.int kvs.length 0,.int ep 0] }=G2 at at2 k2 S2 keep2 ⊢
 have hT2:Shared.TypeIs { s with heap:=G2 } (.ref d) "dict" :=at2.dictOf.typeIs;unfold Builtin.List.listLengthHint;refine wpAny_bind (wpAny_specialOf hT2 kB ?_)
 wp_delta
 refine wpAny_bind (wpAny_isInstance (b:=true) hT2 (by rw [isSubtype_type];kernel_rfl) ?_);refine show wpAny _ A.in1 (typeOf (Value.ref d) >>= _) _ _ _ from wpAny_bind (wpAny_typeOf hT2 (wpAny_pure ?_));rw [if_pos (by decide)];refine wpAny_bind (wpAny_rule (wpAny_bind ?_));refine show wpAny _ A.in1 (updateSeq s.heap.objs.size (·.push .none) >>= fun _=>updateSeq s.heap.objs.size (·.pop)) _ _ _ from wpAny_bind (wpAny_updateSeq S2 rfl ?_);have S3:=aBd (Obj.mapSeq (·.push Value.none)) S2 rfl;refine wpAny_updateSeq (hz:=by seq_fits) S3 rfl ?_;have S4:=aBd (Obj.mapSeq (·.pop)) S3 rfl;have oth:∀ b o,b≠s.heap.objs.size→G2.get? b=some o→((G2.update s.heap.objs.size (Obj.mapSeq (·.push Value.none))).update s.heap.objs.size (Obj.mapSeq (·.pop))).get? b=some o:=fun b o n e=>(aBb _ _ (Ne.symm n)).trans ((aBb _ _ (Ne.symm n)).trans e);have nG:G.objs.size≠s.heap.objs.size:=by rw [sizeG];exact Nat.succ_ne_self _
 have nd:d≠G.objs.size:=by rw [sizeG];exact aAy (aBX ltd)
 have Wk:=Walks.dictKeys (prog:=prog) (w:=w) (A:=A.in1) (knd:=av prog w) hh G.objs.size d nd kvs ep;have hSf:s.heap.objs.size∉[G.objs.size,d]:=by
  simp only [aAp,aAF,or_false,not_or];exact ⟨nG.symm,aBk ltd⟩
 refine wpAny_pure ⟨plainId_quiet F.plain_extend_loop _,codeAny_extend_loopS Wk.toS hn _ hSf _ kvs.length 0 _ _ _ rfl (aAx _) ⟨k2.at fun o e=>oth _ o nG e,at2.at' fun o e=>oth _ o (aAy ltd) e⟩ S4 (ItemsOf.nil _) fun s' acc' c' hmv S5 hacc=>?_⟩;refine show wpAny _ A (load s.heap.objs.size >>= _) _ _ s' from wpAny_bind (wpAny_load S5 (wpAny_pure (q s' acc' (fun b o e=>hmv.heap b o (fun hb=>?_) (oth b o (aAy (aAf e)) (keep2 b o e))) (aAf S5) hmv.gens hmv.drawn hmv.os hacc)));have hlt:=aAf e;simp only [aAp,aAF,or_false] at hb;rcases hb with h | h
 ·exact absurd hlt (h ▸ aAN _)
 ·rw [h,sizeG] at hlt;exact absurd hlt (aB1.mpr (aBC _))
theorem xl {P:Program} {w:World} {z:Str} {v:Value} (h:(av P w).is (Sum.inr z) v=true):∃ t,v=.str z t:=by
 rcases aF (show iI (Sum.inr z) v=true from h) with ⟨i,t,e,_⟩ | ⟨x,t,e,rfl⟩
 ·cases e
 ·cases e
  exact ⟨t,rfl⟩
theorem lu {P:Program} {w:World}:∀ {ss:List Str} {us:List Value},us.length=ss.length→(∀ (j:Nat) (v:Value),us[j]?=some v→∃ z,ss[j]?=some z∧(av P w).is (Sum.inr z) v=true)→StrsAre us ss
 | [],us,hl,_=>by
  cases us with
  | nil=>exact .nil
  | cons u us=>cases hl
 | z :: ss,us,hl,h=>by
  cases us with
  | nil=>cases hl
  | cons u us =>
   obtain ⟨z',e,hz⟩:=h 0 u rfl;obtain rfl:z=z':=Option.some.inj e;obtain ⟨t,rfl⟩:=xl hz;exact .cons z t (lu (Nat.succ.inj hl) fun j v hj=>by simpa using h (j+1) v (by simpa using hj))
theorem xm {d:Addr} {kvs:List (Key×Value)} {ss:List Str} {Q:Value→Shared→Prop} (hh:A.handled=none) (hd:(d == sysModules)=false) (hm:s.heap.DictOf (av prog w) d kvs) (names:kvs.map (·.1)=ss.map Sum.inr) (h64:ss.length < 64)
  (q:∀ (h':Heap) (t':Nat) (a:Addr) (out:Array Value) (ss':List Str) (n:Nat),(∀ b o,s.heap.get? b=some o→h'.get? b=some o)→s.heap.objs.size≤a→h'.get? a=some (seqObj "list" out n)→StrsAre out.toList ss'→ss'.Perm ss→sortedS ss'=true→Q (.ref a) { s with heap:=h',toks:=t' }) :
  wpAny (model prog w) A (call (.builtin "sorted") [.ref d]) Q E s:=by
 have lk:kvs.length=ss.length:=by have:=congrArg List.length names;simpa using this
 refine Calls.call_function_entry kind_sorted plain_sorted entry_sorted (args_sorted1 _) ?_;unfold Builtin.«sorted»;refine wpAny_bind (m:=checkCount "sorted" 1 1 _) (wpAny_pure (wpAny_bind (uX hh hd hm (by rw [lk];exact aAY (aBc h64 (by decide))) fun s1 acc kk low g1 d1 o1 items=>?_)));have hS:StrsAre acc.toList ss:=lu (P:=prog) (w:=w) (by rw [aAQ,items.1,lk]) fun j v hj=>by
  obtain ⟨k,x,e,hk⟩:=items.2 j v (by simpa using hj);have e2:(kvs.map (·.1))[j]?=some k:=by rw [aAg,e];rfl
  rw [names,aAg] at e2;obtain ⟨z,hz,rfl⟩:=aAh.mp e2;exact ⟨z,hz,hk⟩
 have lacc:acc.toList.length < 64:=by
  have:=items.1;simp only [aAQ];lia
 refine wpAny_bind (wpAny_newList ?_);have hoL:(s1.heap.push (seqObj "list" acc.toList.toArray 0)).get? s1.heap.objs.size=some (seqObj "list" acc.toList.toArray 0):=aAq _ rfl;refine wpAny_bind (wpAny_holding (wpAny_call_entry slot_list_sort ⟨_,hoL,rfl⟩ entry_list_sort (list_sort_treeK strKind_oneLt hoL hS.keysOf (fun v₁ v₂ rest e=>keyKind_strs (by rw [← e];exact hS)) lacc fun st' hp hs=>⟨_,rfl,?_⟩) (args_list_sort _)));obtain ⟨ss',h1,h2,h3⟩:=sorted_out_str hS hp hs;obtain ⟨e,he⟩:=sortedHeap_at (out:=(arrOf st').map (·.2)) hoL;obtain ⟨hp1,g',d',tk',os'⟩:=s1;have e1:g'=s.gens:=g1;have e2:d'=s.drawn:=d1;have e3:os'=s.os:=o1;subst e1 e2 e3;refine wpAny_pure ⟨_,rfl,q _ tk' _ _ ss' e (fun b o eb=>?_) (aAY low) he h1 h2 h3⟩;have lt:=aAf (kk b o eb);rw [sortedHeap_old (aAy lt) (by rw [aAT];exact aBX lt)];exact aAb _ (kk b o eb)
end
section
variable {X:Cx}
def DicQ (K:W.Frag) (H:Hp) (p:Addr) (fs:List (Str×Dt)):Prop :=
 ∃ kvs,H p=some (.dK kvs)∧kvs.map (·.1)=fs.map (fun p=>(Sum.inr p.1:Key))∧∀ z,(au fs z=none→bV kvs (Sum.inr z:Key)=none)∧∀ d,au fs z=some d→∃ v,bV kvs (Sum.inr z:Key)=some v∧IsP K H d v
theorem DicQ.p {K:W.Frag} {H:Hp} {p:Addr} {fs:List (Str×Dt)} (h:DicQ K H p fs):IF K H p fs:=by
 obtain ⟨kvs,e,_,k⟩:=h;exact ⟨kvs,e,k⟩
end
section
variable {prog:Program} {w:World} {A:Around} {E:Value→Shared→Prop} {s:Shared}
end
section
variable {prog:Program} {w:World} {A:Around} {E:Value→Shared→Prop} {s:Shared}
end
section
variable {X:Cx} {pins:List (Addr×Obj)} {σ:St} {H H':Hp} {s:Shared} {h':Heap}
end
abbrev Ho (j tk:Nat) (x:Value):Obj:={ cls:=.type "tuple",data:=.seq #[.int j tk,x] }
inductive Rws (h:Heap) (lo:Nat):Nat→List V→List (Addr×HO)→Prop
 | nil {j:Nat}:Rws h lo j [] []
 | cons {j T tk:Nat} {x:Value} {v:V} {vs:List V} {r:List (Addr×HO)}:lo < T→RelV v x→h.get? T=some (Ho j tk x)→Rws h lo (j+1) vs r→Rws h lo j (v :: vs) ((T,plO [.int j,v] [.int j tk,x]) :: r)
theorem Rws.length {h:Heap} {lo:Nat}:∀ {j:Nat} {vs:List V} {r:List (Addr×HO)},Rws h lo j vs r→r.length=vs.length
 | _,_,_,.nil=>rfl
 | _,_,_,.cons _ _ _ r=>by rw [aAe,aAe,r.length]
section
variable {X:Cx}
end
section
variable {prog:Program} {w:World} {A:Around} {E:Value→Shared→Prop} {s:Shared}
end
section
variable {X:Cx}
end
def Itd (a:Addr) (ob:Obj) (kvs:List (Key×V)):It where
 go i H:=H a=some (.frz ob (.dK kvs))∧i < kvs.length
 yld i H x H':=H'=H∧∀ p,kvs[i]?=some p→x=kV p.1
 stop i H:=H a=some (.frz ob (.dK kvs))∧kvs.length≤i
theorem xn {P:Program} {w:World} {k:Key} {v:Value} (h:(av P w).is k v=true):RelV (kV k) v:=by
 rcases aF (show iI k v=true from h) with ⟨i,t,rfl,rfl⟩ | ⟨x,t,rfl,rfl⟩
 ·exact ⟨t,rfl⟩
 ·exact ⟨t,rfl⟩
theorem uY {X:Cx} {pins:List (Addr×Obj)} {σ:St} {H:Hp} {s:Shared} {a:Addr} {ob:Obj} {kvs:List (Key×V)} {es:Array DictEntry} {ep:Nat} (I:Inv X pins σ H s) (ha:H a=some (.frz ob (.dK kvs))) (hep:ob.data=.dict es ep) :
  ∃ vs,KV kvs vs∧s.heap.DictAt (av X.prog X.w) a vs ep∧(a == sysModules)=false:=by
 obtain ⟨ho,_,hs,vs,r,o,es',ep',h1,h2,h3,h4⟩:=(show ObjOk X.prog X.w H s.heap a (.frz ob (.dK kvs)) from I.hok a _ ha);rw [ho] at h1;obtain rfl:=Option.some.inj h1;have h3':=h3;rw [hep] at h3';injection h3' with e1 e2
 subst e1 e2;exact ⟨vs,r,⟨ob,es,ho,h2,hep,h4⟩,hs⟩
theorem tq {P:Program} {w:World} {K:W.Frag} {tg:Expr} (a it:Addr) (ob:Obj) (kvs:List (Key×V)) (es:Array DictEntry) (ep:Nat) (hep:ob.data=.dict es ep) :
  Turn P w K tg (Itd a ob kvs) [it] it (fun i h=>h.IsKeyIter it a i kvs.length ep) where
 mem:=by simp
 obj:=fun i h st b hb=>by
  have e:b=it:=by simpa using hb
  subst e;obtain ⟨o,e,c,d⟩:=st;exact ⟨o,e,fun v z=>by rw [d] at z;cases z⟩
 keep:=fun i h h' st k=>st.at fun o e=>k it (by simp) o e
 item:=by
  intro X hP hw hK hc i pins s σ H E I hf st hg;subst hP hw hK;obtain ⟨ha,hi⟩:=hg;obtain ⟨vs,r,at0,_⟩:=uY I ha hep;have hl:=r.length;obtain ⟨⟨k,v⟩,hk⟩:∃ p,vs[i]?=some p:=⟨_,aAm (by lia)⟩;have hk':(kvs.map (·.1))[i]?=some k:=by rw [r.keys,aAg,hk];rfl
  obtain ⟨f0,f1,f2,f3,f4,f5⟩:=hf it (by simp);refine wpAny_pyNext_dict_item (knd:=av X.prog X.w) (show s.heap.IsKeyIter it a i vs.length ep by rw [← hl];exact st) at0 hk fun key h' hkey st' sb=>?_;have I1:Inv X pins σ H { s with heap:=h' }:=I.turned (t':=s.toks) (fun b o hb e=>(sb.2 b hb).trans e) f0 f1 f3 f4 f5;rw [← hl] at st';obtain ⟨o,e,c,d⟩:=id st';refine ⟨key,rfl,nl (s:={ s with heap:=h' }) e c d (by decide) ⟨kV k,H,I1,xn hkey,⟨rfl,fun p hp=>?_⟩,st',fun b hb=>(hf b hb).1⟩⟩;rw [aAg,hp] at hk';exact congrArg kV (Option.some.inj hk').symm
 done:=by
  intro X hP hw hK hc i pins s σ H E I hf st hg;subst hP hw hK;obtain ⟨ha,hi⟩:=hg;obtain ⟨vs,r,at0,_⟩:=uY I ha hep;have hl:=r.length;obtain ⟨f0,f1,f2,f3,f4,f5⟩:=hf it (by simp);exact wpAny_pyNext_dict_end (knd:=av X.prog X.w) (I.ok.hd hc) (show s.heap.IsKeyIter it a i vs.length ep by rw [← hl];exact st) at0 (aBs (by lia)) fun h' eb=>⟨rfl,I.turned (t':=s.toks) (fun b o hb e=>eb b o hb e) f0 f1 f3 f4 f5⟩
 self:=fun _ _ _ _ _ st h=>wpAny_pyIter_keyiter st h
section
variable {X:Cx} {tg:Expr} {pins:List (Addr×Obj)} {σ:St} {H:Hp} {s:Shared}
theorem Inv.freeze {a:Addr} {ob:Obj} {kvs:List (Key×V)} (I:Inv X pins σ H s) (ha:H a=some (.dK kvs)) (ho:s.heap.get? a=some ob):Inv X pins σ (upd H a (.frz ob (.dK kvs))) s:=by
 refine I.step (h':=s.heap) (g':=s.gens) (d':=s.drawn) (t':=s.toks) (ch:=[]) (fun _ z=>nomatch z) (fun b o _ _ _ e _=>e) (fun b o _ _ _ e _=>⟨o.slots,e⟩) (fun b o _ e n=>?_) (fun b o _ e=>⟨o,e⟩) (fun b xs e=>?_) (fun b o u e=>?_) (fun b ps e=>?_) (fun m e=>e) (fun b u e=>?_) I.bare
 ·rw [ag (fun z=>by rw [z,ha] at n;cases n)];exact n
 ·rw [ag (fun z=>by rw [z,ha] at e;cases e)];exact e
 ·rw [ag (fun z=>by rw [z,ha] at e;cases e)];exact e
 ·refine ⟨#[],?_⟩;rw [ag (fun z=>by rw [z,ha] at e;cases e),Array.append_empty];exact e
 ·have st:∀ {u:HO},ObjOk X.prog X.w H s.heap b u→ObjOk X.prog X.w (upd H a (.frz ob (.dK kvs))) s.heap b u:=fun q=>q.stay (fun _ _ _ e=>e) (fun c r=>by rw [ag (fun z=>by rw [z,ha] at r;cases r)];exact r) fun c xs r=>by rw [ag (fun z=>by rw [z,ha] at r;cases r)];exact r
  by_cases hb:b=a
  ·subst hb;rw [ac] at e;obtain rfl:=Option.some.inj e;exact ⟨ho,st (I.hok b _ ha)⟩
  ·rw [ag hb] at e;exact st (I.hok b _ e)
def Hq (te:TE):TI:=fun σ H R=>te σ H fun x H1=>∃ a kvs,x=.ref a∧H1 a=some (.dK kvs)∧∀ ob,R (Itd a ob kvs) (upd H1 a (.frz ob (.dK kvs)))
theorem xp {l:Expr} {tl:TE} (hl:PE X l tl):PI X tg l (Hq tl):=by
 intro pins s σ H R I h;refine thn (hl pins s σ H _ I h) fun v s1 ⟨x,H1,I1,r1,q1⟩=>?_;obtain ⟨a,kvs,e,ha,q⟩:=q1;subst e
 cases r1
 obtain ⟨_,hs,vs,r,o,es,ep,h1,h2,h3,h4⟩:=(show ObjOk X.prog X.w H1 s1.heap a (.dK kvs) from I1.hok a _ ha);have I2:=I1.freeze ha h1;have at0:s1.heap.DictAt (av X.prog X.w) a vs ep:=⟨o,es,h1,h2,h3,h4⟩;refine wpAny_pyIter_dict hs at0 ?_;refine ⟨s1.heap.objs.size,[s1.heap.objs.size],_,_,_,rfl,I2.kept (t':=s1.toks) fun b o e=>aAb _ e,tq a _ o kvs es ep h3,?_,fun b hb=>?_,q o⟩
 ·rw [r.length];exact ⟨_,aAq _ rfl,rfl,rfl⟩
 ·have e:b=s1.heap.objs.size:=by simpa using hb
  subst e;exact I2.fpOk (aAl _) (I2.hok.fresh (aAl _))
end
section
variable {X:Cx}
theorem qy (hc:X.calm=true):aO X (.type "dict") (fun xs H Q=>∃ x fs,xs=[x]∧IsP X.K H (.tup (fs.map prD)) x∧(fs.map (·.1)).Nodup∧fs.length≤1000∧∀ p H',H p=none→Same H H'→DicQ X.K H' p fs→Q (.ref p) H'):=by
 intro pins s σ H xs us Q I r h;obtain ⟨x,fs,rfl,dx,nd,hz,q⟩:=h;obtain ⟨u,rfl,rx⟩:=cP r;obtain ⟨a,ys,rfl,ha,⟨o,ho,eo,dn⟩,ra⟩:=dx.unref
 cases rx
 obtain ⟨its,r',⟨o',e',c',n',d'⟩,_⟩:=I.tuple ha;have e0:s.heap.get? a=some o:=(I.hok a _ eo).1;rw [e0] at e';obtain rfl:=Option.some.inj e';obtain ⟨kvs,vs,k1,k2,k3,k4,k5,k6⟩:=uO I ra r';have hl:vs.length=fs.length:=by rw [← k1.length,k3]
 have big:=I.big;refine iX (knd:=av X.prog X.w) (kvs:=vs) (I.ok.hd hc) e0 c' d' dn ⟨by rw [aAv];exact k5,fun i kv z=>?_⟩ (aAA (Nat.add_le_add (hl ▸ hz) (hl ▸ hz)) (by decide)) fun h' tk dd kp=>?_
 ·obtain ⟨b,key,z1,z2,z3⟩:=k6 i kv z;exact ⟨b,key,by simpa using z1,z2,z3⟩
 ·have ndv:(vs.map (·.1)).Nodup:=by
   rw [← k1.keys,k2];have z:fs.map (fun p=>(Sum.inr p.1:Key))=(fs.map (·.1)).map Sum.inr:=by rw [aAL];rfl
   rw [z];exact List.Pairwise.map _ (fun a b n q=>n (Sum.inr.inj q)) nd
  rw [merged_nil_of_nodup vs ndv] at dd;have hf:=I.hok.fresh (aAl s.heap.objs.size);have I2:Inv X pins σ (upd H s.heap.objs.size (.dK kvs)) { s with heap:=h',toks:=tk }:=I.laid (t':=tk) kp (aAl _)
   (uM (by rw [k3];exact aAY (ak hz)) (by simp;exact aBk big) k1 dd)
  refine ⟨.ref s.heap.objs.size,_,I2,rfl,q _ _ hf (aj hf _) ⟨kvs,ac,k2,fun z=>⟨(k4 z).1,fun d l=>?_⟩⟩⟩;obtain ⟨v,l1,l2⟩:=(k4 z).2 d l;exact ⟨v,l1,l2.same (aj hf _)⟩
theorem oh (hc:X.calm=true):aO X (.builtin "sorted") (fun xs H Q=>∃ (p:Addr) (kvs:List (Key×V)) (ss:List Str),xs=[.ref p]∧Rd H p (.dK kvs)∧kvs.map (·.1)=ss.map Sum.inr∧ss.length < 64∧∀ (a:Addr) (ss':List Str),H a=none→ss'.Perm ss→sortedS ss'=true→Q (.ref a) (upd H a (.lst (ss'.map V.str)))):=by
 intro pins s σ H xs us Q I r h;obtain ⟨p,kvs,ss,rfl,hp,names,hl,q⟩:=h;obtain ⟨u,rfl,rx⟩:=cP r
 cases rx
 obtain ⟨hz,hd,vs,kv,dof⟩:=qY I.hok hp;refine xm (ss:=ss) (I.ok.hd hc) hd dof (by rw [← kv.keys];exact names) hl fun h' t' a out ss' n kk low ea h1 h2 h3=>?_;have hn:H a=none:=I.hok.fresh low;refine ⟨.ref a,_,I.laid (t':=t') (o:=.lst (ss'.map V.str)) kk low ?_,rfl,q a ss' hn h2 h3⟩;have e2:seqObj "list" out n=seqObj "list" out.toList.toArray n:=by rw [aBJ]
 refine ⟨?_,out.toList,n,ft h1,?_⟩
 ·rw [aAa,h2.length_eq];exact aAY (aBc hl (by decide))
 ·rw [ea,e2]
end
section
variable {a:Addr} {ob:Obj} {kvs:List (Key×V)} {g:TG} {l:Addr} {σ0:St} {H0:Hp} {R:Hp→Prop} {tb:List V→Addr→St→Hp→(List V→St→Hp→Prop)→Prop}
theorem qz (Pv:Nat→List V→St→Hp→Prop) (h0:Pv 0 [] σ0 H0) (hl:∀ i ys σ H,i≤kvs.length→Pv i ys σ H→H a=some (.frz ob (.dK kvs)))
  (hs:∀ i p ys σ H (N:List V→St→Hp→Prop),kvs[i]?=some p→Pv i ys σ H→(∀ ys' σ' H',Pv (i+1) ys' σ' H'→N ys' σ' H')→g (kV p.1) σ H fun σ2 H2=>tb ys l σ2 H2 N)
  (hd:∀ ys σ H,Pv kvs.length ys σ H→R H) :
  ∃ W:Nat→Nat→List V→St→Hp→Prop,(∃ m,W 0 m [] σ0 H0)∧∀ i m ys σ' H',W i m ys σ' H'→((Itd a ob kvs).stop i H'∧R H') ∨
   ((Itd a ob kvs).go i H'∧∀ x H'',(Itd a ob kvs).yld i H' x H''→g x σ' H'' fun σ2 H2=>tb ys l σ2 H2 fun ys' σ3 H3=>∃ m',m' < m∧W (i+1) m' ys' σ3 H3):=by
 refine ⟨fun i m ys σ H=>m=kvs.length - i∧i≤kvs.length∧Pv i ys σ H,⟨kvs.length,by simp,aAx _,h0⟩,?_⟩;rintro i m ys σ H ⟨rfl,hi,p⟩
 by_cases hlt:i < kvs.length
 ·refine .inr ⟨⟨hl i ys σ H hi p,hlt⟩,fun x H'' hy=>?_⟩;obtain ⟨rfl,hx⟩:=hy;obtain ⟨q,hq⟩:∃ q,kvs[i]?=some q:=⟨_,aAm hlt⟩;rw [hx q hq];exact hs i q ys σ H'' _ hq p fun ys' σ' H' p'=>⟨kvs.length - (i+1),by lia,rfl,hlt,p'⟩
 ·have e:i=kvs.length:=Nat.le_antisymm hi (aB1.mp hlt);subst e;exact .inl ⟨⟨hl _ ys σ H (aAl _) p,aAl _⟩,hd ys σ H p⟩
end
section
variable {X:Cx}
end
section
variable {prog:Program} {w:World} {A:Around} {E:Value→Shared→Prop} {s:Shared}
end
section
variable {X:Cx}
end
section
variable {X:Cx} {K:W.Frag}
end
section
variable {X:Cx} {K:W.Frag}
inductive JLenS (K:W.Frag) (xs:List V) (H:Hp) (Q:VK):Prop
 | mk (p:Addr) (ys:List V):(xs=[.ref p])→((SqL K H p ys∨SqT K H p ys))→(Q (.int ys.length) H)→JLenS K xs H Q
def Hr (K:W.Frag):List V→Hp→VK→Prop:=fun xs H Q=>JLenS K xs H Q
def Bv (K:W.Frag):List V→Hp→VK→Prop:=fun xs H Q=>∃ (p:Addr) (ss:List Str),xs=[.ref p]∧SqL K H p (ss.map V.str)∧ss.length < 64∧∀ a ss',H a=none→ss'.Perm ss→sortedS ss'=true→Q (.ref a) (upd H a (.lst (ss'.map V.str)))
def IJ (K:W.Frag):List V→Hp→VK→Prop:=fun xs H Q=>∃ p ys,xs=[.ref p]∧true=true∧SqL K H p (bls ys)∧Q (.bl (ys.all id)) H
def IK (K:W.Frag):List V→Hp→VK→Prop:=fun xs H Q=>∃ p ys,xs=[.ref p]∧true=true∧SqL K H p (bls ys)∧Q (.bl (ys.any id)) H
def Bw (K:W.Frag):List V→Hp→VK→Prop:=fun xs H Q=>∃ x fs,xs=[x]∧IsP K H (.tup (fs.map prD)) x∧(fs.map (·.1)).Nodup∧fs.length≤1000∧∀ p H',H p=none→Same H H'→DicQ K H' p fs→Q (.ref p) H'
theorem eE (hK:X.K=K):SlR X (G7 K):=by subst hK;exact wK
theorem cF (hK:X.K=K):OpR X (binaryOp .Add) (ya K):=by subst hK;exact wZ
theorem bg (hK:X.K=K):aO X (.builtin "len") (Hr K):=by
 subst hK;intro pins s σ H xs us Q I r h;obtain ⟨x,l,a,b,q⟩:=h;exact gz _ _ _ _ _ _ _ I r ⟨x,l,a,b,q⟩
theorem iO (hK:X.K=K):aO X (.builtin "sorted") (Bv K):=by subst hK;exact qw
theorem call_allN (hK:X.K=K) (hc:X.calm=true):aO X (.builtin "all") (IJ K):=by
 subst hK;intro pins s σ H xs us Q I r h;obtain ⟨p,ys,rfl,_,hs,q⟩:=h;exact uD _ _ _ _ _ _ _ I r ⟨p,ys,rfl,hc,hs,q⟩
theorem tu (hK:X.K=K) (hc:X.calm=true):aO X (.builtin "any") (IK K):=by
 subst hK;intro pins s σ H xs us Q I r h;obtain ⟨p,ys,rfl,_,hs,q⟩:=h;exact uE _ _ _ _ _ _ _ I r ⟨p,ys,rfl,hc,hs,q⟩
theorem oi (hK:X.K=K) (hc:X.calm=true):aO X (.type "dict") (Bw K):=by subst hK;exact qy hc
theorem xr:OpR X (compareOp .Lt) (fun x y H Q=>rI0 (fun i j=>.bl (decide (i < j))) x y H Q∨∃ i j:Str,x=.str i∧y=.str j∧Q (.bl (decide (i.cps.toList < j.cps.toList))) H):=fM.or sA
end
section
variable {K:W.Frag} {a b l:Addr} {xs ys:List V} {g:TG} {tb:List V→Addr→St→Hp→(List V→St→Hp→Prop)→Prop} {R:Hp→Prop} {σ0:St} {H0:Hp}
theorem qA (Pv:Nat→List V→St→Hp→Prop) (h0:Pv 0 [] σ0 H0) (hla:∀ i us σ H,Pv i us σ H→SqT K H a xs∧SqT K H b ys)
  (hs:∀ i x y T us σ H (N:List V→St→Hp→Prop),xs[i]?=some x→ys[i]?=some y→H T=none→Pv i us σ H→(∀ us' σ' H',Pv (i+1) us' σ' H'→N us' σ' H')→g (.ref T) σ (upd H T (.tup [x,y])) fun σ2 H2=>tb us l σ2 H2 N)
  (hd:∀ us σ H,Pv (min xs.length ys.length) us σ H→R H) :
  ∃ W:Nat→Nat→List V→St→Hp→Prop,(∃ m,W 0 m [] σ0 H0)∧∀ i m us σ' H',W i m us σ' H'→((og K a b).stop i H'∧R H') ∨
   ((og K a b).go i H'∧∀ x H'',(og K a b).yld i H' x H''→g x σ' H'' fun σ2 H2=>tb us l σ2 H2 fun us' σ3 H3=>∃ m',m' < m∧W (i+1) m' us' σ3 H3):=tj (Q:=fun _ H=>R H) Pv h0 hla hs hd
end
section
variable {X:Cx} {K:W.Frag}
end
end L2
namespace PySem
open Sem (wp)
namespace F
end F
section
variable {prog:Program} {w:World} {K:Type} [DecidableEq K] {kd:KeyKind prog w K} {A:Around} {E:Value→Shared→Prop}
end
end PySem
namespace L2
open PySem PySem.Spec PyProof.Rows
def kDt:Key→Dt
 | .inl i=>.int i
 | .inr z=>.str z
theorem xu {K:W.Frag} {H:Hp} {k:Key} {v:V} (h:IsP K H (kDt k) v):v=kV k:=by
 cases k <;> (cases h;rfl)
theorem lz {K:W.Frag} {H:Hp}:∀ {ks:List Key} {xs:List V},IsPs K H (ks.map kDt) xs→xs=ks.map kV
 | [],_,h=>by cases h;rfl
 | k :: ks,_,h=>by
  cases h with
  | cons h r=>rw [xu h,lz r];rfl
def yc (P:Program) (w:World) (p:Addr) (xs:List (List Key×Addr×Value)) (h:Heap):Prop :=
 ∃ o es ep,h.get? p=some o∧o.ExactDict∧o.data=.dict es ep∧es.toList=xs.map (entryOfKey (tupleKind (av P w)))∧(xs.map (·.1)).Nodup
def DicT (P:Program) (w:World) (K:W.Frag) (H:Hp) (p:Addr) (kvs:List (List Key×Dt)):Prop :=
 (p == sysModules)=false∧∃ xs:List (List Key×Addr×Value),H p=some (.ext (yc P w p xs)) ∧
  Paired (fun (a:List Key×Dt) (b:List Key×Addr×Value)=>a.1=b.1∧IsP K H (.tup (a.1.map kDt)) (.ref b.2.1)∧∃ v,RelV v b.2.2∧IsP K H a.2 v) kvs xs
section
variable {X:Cx} {pins:List (Addr×Obj)} {σ:St} {H:Hp} {s:Shared}
theorem rg (I:Inv X pins σ H s) {ks:List Key} {a:Addr} (h:IsP X.K H (.tup (ks.map kDt)) (.ref a)):IsTupleKey (av X.prog X.w) s.heap ks a:=by
 obtain ⟨b,ys,e,ha,_,ra⟩:=h.unref
 cases e
 obtain ⟨its,r,⟨o,h1,h2,n,h3⟩,_⟩:=I.tuple ha;rw [lz ra] at r;exact ⟨o,its.toArray,n,h1,h2,h3,by simpa using ib r⟩
theorem DicT.dict {p:Addr} {kvs:List (List Key×Dt)} (I:Inv X pins σ H s) (h:DicT X.prog X.w X.K H p kvs):(p == sysModules)=false∧∃ xs:List (List Key×Addr×Value),s.heap.DictOfH (tupleKind (av X.prog X.w)) p xs ∧
  Paired (fun (a:List Key×Dt) (b:List Key×Addr×Value)=>a.1=b.1∧IsP X.K H (.tup (a.1.map kDt)) (.ref b.2.1)∧∃ v,RelV v b.2.2∧IsP X.K H a.2 v) kvs xs:=by
 obtain ⟨e0,xs,e,r⟩:=h;obtain ⟨⟨o,es,ep,h1,h2,h3,h4,h5⟩,_⟩:=(show ObjOk X.prog X.w H s.heap p (.ext (yc X.prog X.w p xs)) from I.hok p _ e);refine ⟨e0,xs,⟨o,es,ep,h1,h2,h3,h4,fun y hy=>?_,h5⟩,r⟩;have all:∀ {l:List (List Key×Dt)} {m:List (List Key×Addr×Value)},Paired (fun (a:List Key×Dt) (b:List Key×Addr×Value)=>a.1=b.1∧IsP X.K H (.tup (a.1.map kDt)) (.ref b.2.1)∧∃ v,RelV v b.2.2∧IsP X.K H a.2 v) l m→∀ y∈m,IsTupleKey (av X.prog X.w) s.heap y.1 y.2.1:=by
  intro l m q
  induction q with
  | nil=>intro y hy;exact nomatch hy
  | @cons p q ps qs hq t ih =>
   intro y hy;rcases aAp.mp hy with rfl | hy
   ·rw [← hq.1];exact rg I hq.2.1
   ·exact ih y hy
 exact all r y hy
end
end L2
namespace PySem
open Sem (wp)
section
variable {prog:Program} {w:World} {K:Type} [DecidableEq K] {knd:HeapKind prog w K} {A:Around} {E:Value→Shared→Prop} {s:Shared}
end
end PySem
namespace L2
open PySem PySem.Spec PyProof.Rows
section
variable {X:Cx} {pins:List (Addr×Obj)} {σ:St} {H:Hp} {s:Shared}
end
theorem u2 {A:Around} (h:A.units+64 < cLine):A.units+2 < cLine:=by lia
section
variable {X:Cx} {o e f:Expr} {apos cpos:Pos} {td ty tx:TE}
end
end L2
namespace PySem
open Sem (wp)
open PyProof.Rows
section
variable {prog:Program} {w:World} {A:Around} {E:Value→Shared→Prop} {s:Shared} {δ:Type} {R:δ→Value→Prop} {h₀:Heap} {a:Addr} {D:List (Str×δ)} {k:Str} {tk:Tok}
theorem iP {Q:Option Value→Shared→Prop} (T:KTD.TabOf R h₀ a D) (kp:∀ b o,h₀.get? b=some o→s.heap.get? b=some o) (q1:∀ d v,KTD.datumAt k D=some d→R d v→Q (some v) { s with toks:=s.toks+1 })
  (q2:KTD.datumAt k D=none→Q none { s with toks:=s.toks+1 }):wpAny (model prog w) A (dictGet a (.str k tk)) Q E s:=by
 obtain ⟨_,o,es,ep,ho0,hc,hd,hr⟩:=T;have ho:=kp _ _ ho0;obtain ⟨l⟩:=es;unfold dictGet
 try with_reducible refine wpAny_holding ?_
 refine wpAny_bind (wpAny_pyHash_str (wpAny_bind (KTD.kt_dictFind_strs (s:={ s with toks:=s.toks+1 }) ho hd (by simpa using hr.exact) ?_)));have hq:Q (findBy (fun k v=>v.isStr k) (Array.mk l) k) { s with toks:=s.toks+1 }:=by
  rw [show findBy (fun k v=>v.isStr k) (Array.mk l) k=(l.find? fun e=>e.key.isStr k).map (·.val) by simp [findBy]]
  cases hat:KTD.datumAt k D with
  | none=>rw [show (l.find? fun e=>e.key.isStr k).map (·.val)=none by have:=hr.find_none hat;simpa using this];exact q2 hat
  | some d =>
   obtain ⟨v,hv,rv⟩:=hr.find_some hat;rw [show (l.find? fun e=>e.key.isStr k).map (·.val)=some v from hv];exact q1 d v hat rv
 rw [findBy_of_findIdx?] at hq
 cases hi:(Array.mk l).findIdx? fun e=>e.key.isStr k with
 | some i=>rw [hi] at hq;exact wpAny_bind (wpAny_dictEntries (s:={ s with toks:=s.toks+1 }) ho hd (wpAny_pure hq))
 | none=>rw [hi] at hq;exact wpAny_pure hq
end
end PySem
namespace L2
open PySem PySem.Spec PyProof.Rows
def mo (K:W.Frag) (a:Addr) (D:List (Str×Addr)):Prop:=∀ h,K.In h→KTD.TabOf (fun b v=>v=Value.ref b) h a D
theorem B9 {K:W.Frag} {a:Addr} {D:List (Str×Addr)} (e:KTD.tabLook (fun b v=>v == Value.ref b) (fun b=>K.lookup b) a D=true):mo K a D :=
 fun _ X=>KTD.tab_of_look (L:=fun b v=>v == Value.ref b) (R:=fun b v=>v=Value.ref b) (fun _ _ z=>eq_of_beq z) (fun b o q=>X b o q) e
def mq (K:W.Frag) (b:Addr) (ws:List Str):Bool:=match K.lookup b with
 | some o=>o.cls == .type "tuple" && (match o.data with | .seq vs _=>KTD.strsLook vs.toList ws && decide (vs.size≤1000) | _=>false)
 | none=>false
def uZ (K:W.Frag) (D:List (Addr×List Str)):Bool:=D.all fun p=>mq K p.1 p.2
def lA (K:W.Frag) (D:List (Addr×List Str)):Prop:=∀ p∈D,∀ H:Hp,SqT K H p.1 (p.2.map V.str)
theorem Hs {K:W.Frag} {D:List (Addr×List Str)} (e:uZ K D=true):lA K D:=by
 intro p hp H;have e1:mq K p.1 p.2=true:=aAC.mp e p hp;unfold mq at e1
 split at e1
 ·rename_i o ho
  simp only [aAs] at e1;obtain ⟨e2,e3⟩:=e1
  split at e3
  ·rename_i vs n hd
   simp only [aAs] at e3;exact .inr ⟨o,vs,n,ho,eq_of_beq e2,hd,aAY (ak (of_decide_eq_true e3.2)),ft (KTD.strs_of_look e3.1)⟩
  ·cases e3
 ·cases e1
section
variable {X:Cx}
end
section
variable {prog:Program} {w:World} {A:Around} {E:Value→Shared→Prop} {s:Shared}
end
section
variable {prog:Program} {w:World} {A:Around} {E:Value→Shared→Prop} {s:Shared}
end
section
variable {prog:Program} {w:World} {K:Type} [DecidableEq K] {knd:KeyKind prog w K} {A:Around} {E:Value→Shared→Prop}
end
section
variable {prog:Program} {w:World} {K:Type} [DecidableEq K] {knd:KeyKind prog w K} {A:Around} {E:Value→Shared→Prop}
end
section
variable {X:Cx}
end
section
variable {X:Cx}
end
open AutoSeq1 (wpAny_loadPart')
structure ZOut (lo:Nat) (xs ys acc:Array Value) (h:Heap):Prop where
 pr:∀ (j:Nat) (e:Value),acc[j]?=some e→∃ (T:Addr) (x y:Value),e=.ref T∧lo≤T∧xs[j]?=some x∧ys[j]?=some y∧IsPair h T x y
 ij:∀ (j k:Nat) (e:Value),acc[j]?=some e→acc[k]?=some e→j=k
theorem ZOut.keep {lo:Nat} {xs ys acc:Array Value} {h h':Heap} (Z:ZOut lo xs ys acc h) (k:∀ T x y,lo≤T→IsPair h T x y→IsPair h' T x y):ZOut lo xs ys acc h' :=
 ⟨fun j e hj=>by obtain ⟨T,x,y,a,b,c,d,f⟩:=Z.pr j e hj;exact ⟨T,x,y,a,b,c,d,k T x y b f⟩,Z.ij⟩
section
variable {prog:Program} {w:World} {A:Around} {E:Value→Shared→Prop} {s:Shared}
end
section
variable {prog:Program} {w:World} {A:Around} {E:Value→Shared→Prop} {s:Shared}
end
abbrev Ht (x y:Value):Obj:={ cls:=.type "tuple",data:=.seq #[x,y] }
inductive RwZ (h:Heap) (lo:Nat):List V→List V→List (Addr×HO)→Prop
 | nil:RwZ h lo [] [] []
 | cons {T:Nat} {x y:Value} {v u:V} {vs us:List V} {r:List (Addr×HO)}:lo≤T→RelV v x→RelV u y→h.get? T=some (Ht x y)→RwZ h lo vs us r→RwZ h lo (v :: vs) (u :: us) ((T,plO [v,u] [x,y]) :: r)
theorem RwZ.length {h:Heap} {lo:Nat} {vs us:List V} {r:List (Addr×HO)} (R:RwZ h lo vs us r):r.length=vs.length:=by
 induction R with
 | nil=>rfl
 | cons _ _ _ _ _ ih=>rw [aAe,aAe,ih]
section
variable {X:Cx}
end
end L2
namespace L2
open PySem PySem.Spec PyProof.Rows
open AutoSeq1 (wpAny_loadPart')
section
variable {prog:Program} {w:World} {A:Around} {E:Value→Shared→Prop} {s:Shared}
end
section
variable {X:Cx}
end
end L2
namespace L2
open PySem PySem.Spec PyProof.Rows
section
variable {X:Cx} {o e:Expr} {es:List Expr} {to:TE} {t:TA} {name:Str} {apos cpos:Pos} {T id:String} {r:V→List V→Hp→VK→Prop}
end
section
variable {P:Program} {w:World} {A:Around} {E:Value→Shared→Prop} {s:Shared}
end
section
variable {P:Program} {w:World} {A:Around} {R:Result→Shared→Prop} {it:Addr} {fp wr:List Addr} {G:Array GenState→Array GenState→Prop} {n:Nat} {Pt:Nat→Value→Prop} {St:Nat→Shared→Prop}
end
section
variable {P:Program} {w:World} {A:Around} {E:Value→Shared→Prop} {s:Shared}
end
section
variable {P:Program} {w:World} {A:Around} {E:Value→Shared→Prop} {s:Shared}
def SIt (h:Heap) (I a:Addr) (first:Value) (i n ep:Nat):Prop:=∃ o,h.get? I=some o∧o.cls=.type "set_iterator" ∧o.data=.fields #[first,.int i 0,.ref a,.int n 0,.int ep 0]
theorem SIt.type {I a:Addr} {first:Value} {i n ep:Nat} (x:SIt s.heap I a first i n ep):s.TypeIs (.ref I) "set_iterator" :=let ⟨o,ho,hc,_⟩:=x;⟨o,ho,hc⟩
theorem SIt.at {h h':Heap} {I a:Addr} {first:Value} {i n ep:Nat} (x:SIt h I a first i n ep) (e:∀ o,h.get? I=some o→h'.get? I=some o):SIt h' I a first i n ep:=let ⟨o,ho,r⟩:=x;⟨o,e _ ho,r⟩
end
section
variable {P:Program} {w:World} {A:Around} {E:Value→Shared→Prop} {s:Shared}
end
section
variable {P:Program} {w:World} {A:Around} {E:Value→Shared→Prop} {s:Shared}
end
section
variable {P:Program} {w:World} {A:Around} {E:Value→Shared→Prop} {s:Shared}
end
section
variable {P:Program} {w:World} {A:Around} {E:Value→Shared→Prop} {s:Shared}
end
section
variable {P:Program} {w:World} {A:Around} {E:Value→Shared→Prop} {s:Shared}
end
section
variable {X:Cx}
end
section
variable {X:Cx} {elts:List Expr} {k:Nat} {tpos:Pos}
end
section
variable {X:Cx} {o e f:Expr} {apos cpos:Pos} {td ty tx:TE}
end
section
variable {X:Cx} {e st:Expr} {te tst:TE} {p2 pos:Pos}
end
end L2
namespace PySem
open Sem (wp)
section
variable {M:Model} {A:Around} {E:Value→Shared→Prop} {s:Shared}
end
end PySem
namespace PySem
open Sem (wp)
section
variable {prog:Program} {w:World} {A:Around} {E:Value→Shared→Prop} {s:Shared} {env:Env}
variable {nm q:Str} {C N:Addr} {bs bm bmB:List Value} {hdct:Bool} {sn:List Str} {sub:List Value} {ab:Bool} {col:Option Bool} {dd:Option Addr} {k0 k1 k2 k3 k5:Option Value} {B newId initId:String}
end
end PySem
namespace L2
open PySem PySem.Spec PyProof.Rows
section
variable {X:Cx} {pins:List (Addr×Obj)} {σ:St} {H:Hp} {s:Shared}
end
end L2
namespace PySem
open Sem (wp)
section
variable {prog:Program} {w:World} {A:Around} {E:Value→Shared→Prop} {s:Shared} {env:Env}
variable {nm q:Str} {C N:Addr} {bs bm bmB:List Value} {hdct:Bool} {sn:List Str} {sub:List Value} {ab:Bool} {col:Option Bool} {dd:Option Addr} {k0 k1 k2 k3 k5:Option Value} {B newId initId:String}
end
end PySem
namespace L2
open PySem PySem.Spec PyProof.Rows
section
variable {X:Cx} {pins:List (Addr×Obj)} {σ:St} {H:Hp} {s:Shared}
end
end L2
namespace PySem
open Sem (wp)
section
variable {prog:Program} {w:World} {K:Type} [DecidableEq K] {kd:KeyKind prog w K} {k0:K} {A:Around} {E:Value→Shared→Prop} {s:Shared}
def IsBoxKey (kd:KeyKind prog w K) (k0:K) (h:Heap) (k:K) (a:Addr):Prop :=
 ∃ o u b n,h.get? a=some o∧o.cls=.type "tuple" ∧o.data=.seq #[u,.ref b] n∧kd.is k0 u=true∧IsTupleKey kd h [k] b
theorem IsBoxKey.tuple {k:K} {a:Addr} (x:IsBoxKey kd k0 s.heap k a):s.TypeIs (.ref a) "tuple" :=let ⟨o,_,_,_,q,c,_⟩:=x;⟨o,q,c⟩
theorem IsBoxKey.one {h:Heap} {a:Addr} {x y:K} (p:IsBoxKey kd k0 h x a) (q:IsBoxKey kd k0 h y a):x=y:=by
 obtain ⟨o,u,b,n,p1,p2,p3,p4,p5⟩:=p;obtain ⟨o',u',b',n',q1,q2,q3,q4,q5⟩:=q;obtain rfl:o=o':=Option.some.inj (p1.symm.trans q1);rw [p3] at q3;injection q3 with e _
 have e2:u=u'∧b=b':=by simpa using e
 obtain ⟨rfl,rfl⟩:=e2;exact List.cons.inj (p5.inj q5) |>.1
theorem IsBoxKey.stay {h h':Heap} {k:K} {a d:Addr} {o:Obj} {es ep} (x:IsBoxKey kd k0 h k a) (q:h.get? d=some o) (qd:o.data=.dict es ep) (sb:Heap.SameBut d h h'):IsBoxKey kd k0 h' k a:=by
 obtain ⟨o',u,b,n,p1,p2,p3,p4,p5⟩:=x;have ne:a≠d:=by
  rintro rfl;obtain rfl:o'=o:=Option.some.inj (p1.symm.trans q);rw [qd] at p3;exact nomatch p3
 exact ⟨o',u,b,n,(sb.2 a ne).trans p1,p2,p3,p4,p5.keeps q qd sb⟩
def mr (kd:KeyKind prog w K) (k0 k:K):Int:=reduceHash (Builtin.Tuple.tupleHashOf [kd.hash k0,tupleKeyHash kd [k]])
theorem u0 {k:K} {a:Addr} {Q:Int→Shared→Prop} (hu:A.units+1 < cLine) (x:IsBoxKey kd k0 s.heap k a) (z:Q (mr kd k0 k) { s with toks:=s.toks+4 }) :
  wpAny (model prog w) A (pyHash (.ref a)) Q E s:=by
 have ty:=x.tuple;obtain ⟨o,u,b,n,p1,_,p3,p4,p5⟩:=x;unfold pyHash
 first | unfold pyHashByItsType | skip
 first | refine wpAny_bind (wpAny_cRoomFor_or (.inr (aBc (aA5 _) hu)) ?_) | skip
 refine wpAny_bind (wpAny_specialOf ty F.slot_tuple_hash.lookup ?_);show wpAny _ _ (if (some (Value.builtin "tuple.__hash__") == some Value.none)=true then _ else _) Q E s;rw [if_neg (by rw [beq_builtin_none];exact aAw)];refine wpAny_bind (wpAny_specialOf ty F.slot_tuple_hash.lookup ?_);show wpAny _ _ (callSpecialIfBoundUnlessNone? (.ref a) "__hash__" _ >>= _) Q E s;refine wpAny_bind (wpAny_callSpecialIfBoundUnlessNone?_slot ty F.slot_tuple_hash (wpAny_call_entry F.slot_tuple_hash ty F.entry_tuple_hash ?_ (F.args_tuple_hash_1 _)));show wpAny _ _ (Builtin.Tuple.tupleItemsOf (.ref a) >>= _) _ _ s;refine wpAny_bind (wpAny_tupleItemsOf p1 p3 ?_);refine wpAny_bind ?_;rw [← aBR];show wpAny _ _ (forIn [u,Value.ref b] _ _) _ _ _;rw [aAV];refine wpAny_bind (wpAny_bind (kd.pyHash p4 ?_))
 first | refine wpAny_pure ?_ | refine wpAny_bind (wpAny_pure (wpAny_pure ?_))
 show wpAny _ _ (forIn [Value.ref b] _ _) _ _ _;rw [aAV];refine wpAny_bind (wpAny_bind (wpAny_pyHash_tuple (knd:=kd) (ks:=[k]) (by exact hu) (by exact p5) ?_))
 first | refine wpAny_pure ?_ | refine wpAny_bind (wpAny_pure (wpAny_pure ?_))
 show wpAny _ _ (forIn ([]:List Value) _ _) _ _ _;rw [aBr];refine wpAny_pure ?_;show wpAny _ _ (retInt (Builtin.Tuple.tupleHashOf [kd.hash k0,tupleKeyHash kd [k]])) _ _ _;refine wpAny_ret_mkInt ?_;show wpAny _ _ (if (decide (-(2:Int) ^ 63≤Builtin.Tuple.tupleHashOf [kd.hash k0,tupleKeyHash kd [k]]) && decide (Builtin.Tuple.tupleHashOf [kd.hash k0,tupleKeyHash kd [k]] < 2 ^ 63))=true then _ else _) Q E _;unfold mr reduceHash at z
 split
 ·rename_i q
  rw [if_pos q] at z;exact wpAny_pure z
 ·rename_i q
  rw [if_neg q] at z;exact wpAny_bind (wpAny_rule (wpAny_pure z))
theorem u3 {x y:K} {a b:Addr} {P:Fin→Shared→Prop} (hu:A.units+1 < cLine) (p:IsBoxKey kd k0 s.heap x a) (q:IsBoxKey kd k0 s.heap y b) (z:P (.done (.ret (.bool (decide (x=y))))) s) :
  wpAny (model prog w) A (Builtin.«tuple.__eq__» ⟨[.ref a,.ref b],[]⟩) P E s:=by
 have ty:=q.tuple;obtain ⟨oa,ua,ba,na,a1,_,a3,a4,a5⟩:=p;obtain ⟨ob,ub,bb,nb,b1,_,b3,b4,b5⟩:=q;show wpAny _ _ (isInstance (.ref b) (.type "tuple") >>= _) _ _ s;refine wpAny_bind (wpAny_isInstance ty isSubtype_tuple_tuple ?_);simp only [aBg,aAH,if_false];refine wpAny_bind (wpAny_tupleItemsOf a1 a3 ?_);refine wpAny_bind (wpAny_tupleItemsOf b1 b3 ?_);refine wpAny_bind ?_;show wpAny _ _ (forIn [(ua,ub),(Value.ref ba,Value.ref bb)] _ _) _ _ _;rw [aAV];refine wpAny_bind (wpAny_bind (kd.eqBool (a:=k0) (b:=k0) a4 b4 ?_));rw [decide_eq_true rfl];simp only [aBg,aAH,if_false];refine wpAny_pure ?_;show wpAny _ _ (forIn [(Value.ref ba,Value.ref bb)] _ _) _ _ _;rw [aAV];refine wpAny_bind (wpAny_bind (wpAny_eqBool_tuple (knd:=kd) (x:=[x]) (y:=[y]) (by lia) a5 b5 ?_))
 by_cases e:x=y
 ·subst e;rw [decide_eq_true rfl];rw [decide_eq_true rfl] at z;simp only [aBg,aAH,if_false];refine wpAny_pure ?_;show wpAny _ _ (forIn ([]:List (Value×Value)) _ _) _ _ _;rw [aBr];exact wpAny_pure (wpAny_pure z)
 ·have e':¬ [x]=[y]:=fun c=>e (List.cons.inj c).1;rw [decide_eq_false e'];rw [decide_eq_false e] at z;simp only [Bool.not_false,if_true];exact wpAny_bind (wpAny_pure (wpAny_pure (wpAny_pure (wpAny_pure z))))
theorem Bx {x y:K} {a b:Addr} {Q:Bool→Shared→Prop} (hu:A.units+2 < cLine) (p:IsBoxKey kd k0 s.heap x a) (q:IsBoxKey kd k0 s.heap y b) (z:Q (decide (x=y)) s) :
  wpAny (model prog w) A (eqBool (.ref a) (.ref b)) Q E s:=by
 unfold eqBool
 try with_reducible refine wpAny_holding ?_
 show wpAny _ _ (if (Value.ref a == Value.ref b)=true then _ else _) Q E s
 by_cases ab:(Value.ref a == Value.ref b)=true
 ·rw [if_pos ab];have e:a=b:=by have:=eq_of_beq ab;injection this
  subst e;obtain rfl:=p.one q;exact wpAny_bind (wpAny_rule (wpAny_pure (by simpa using z)))
 ·rw [if_neg ab];exact wpAny_bind (wpAny_richCompare_same_room (op:=.Eq) p.tuple q.tuple F.slot_tuple_eq
   (wpAny_call_entry F.slot_tuple_eq p.tuple F.entry_tuple_eq (u3 (by exact hu) p q ⟨_,rfl,(fun e=>nomatch e),wpAny_truthy_bool z⟩) (F.args_tuple_eq_2 _ _)) (by lia))
theorem oj (m:Nat) {ks:List K} {a:Addr} {Q:Bool→Shared→Prop} (x:IsTupleKey kd s.heap ks a) (z:Q true s):wpAny (model prog w) A (eqIsQuiet (m+1) (.ref a)) Q E s:=by
 have ty:=x.typeIs;obtain ⟨o,its,n,p1,_,p3,p4⟩:=x;unfold eqIsQuiet;refine wpAny_bind (wpAny_specialOf ty F.slot_tuple_eq.lookup ?_);show wpAny _ _ (isInstance (.ref a) (.type "tuple") >>= _) _ _ s;refine wpAny_bind (wpAny_isInstance ty isSubtype_tuple_tuple ?_);simp only [aBg,aAH,if_false];refine wpAny_bind (wpAny_seqItems p1 p3 ?_);refine wpAny_bind ?_;show wpAny _ _ (forIn its _ _) _ _ s;rw [← aBR];refine wpAny_forIn_list _ (fun rest r s'=>r.1=none∧s'=s∧∀ v∈rest,carriedByValue v=true) _ ?_ ?_ _ _ ⟨rfl,rfl,p4.byValue⟩
 ·rintro v rest r s' ⟨hr,rfl,al⟩;rw [eqIsQuiet_byValue _ (al v aAd)];refine wpAny_bind (wpAny_pure ?_);simp only [aBg,aAH,if_false];exact wpAny_pure ⟨rfl,rfl,fun u hu'=>al u (aAi _ hu')⟩
 ·rintro ⟨r1,r2⟩ s' ⟨hr,rfl,_⟩;simp only at hr;subst hr;exact wpAny_pure z
theorem tw {k:K} {a:Addr} {Q:Bool→Shared→Prop} (x:IsBoxKey kd k0 s.heap k a) (z:Q true s):wpAny (model prog w) A (eqIsQuiet 8 (.ref a)) Q E s:=by
 have ty:=x.tuple;obtain ⟨o,u,b,n,p1,_,p3,p4,p5⟩:=x;unfold eqIsQuiet;refine wpAny_bind (wpAny_specialOf ty F.slot_tuple_eq.lookup ?_);show wpAny _ _ (isInstance (.ref a) (.type "tuple") >>= _) _ _ s;refine wpAny_bind (wpAny_isInstance ty isSubtype_tuple_tuple ?_);simp only [aBg,aAH,if_false];refine wpAny_bind (wpAny_seqItems p1 p3 ?_);refine wpAny_bind ?_;show wpAny _ _ (forIn #[u,Value.ref b] _ _) _ _ s;rw [← aBR];show wpAny _ _ (forIn [u,Value.ref b] _ _) _ _ s;rw [aAV,eqIsQuiet_byValue _ (kd.byValue _ _ p4)];refine wpAny_bind (wpAny_bind (wpAny_pure ?_));simp only [aBg,aAH,if_false];refine wpAny_pure ?_;show wpAny _ _ (forIn [Value.ref b] _ _) _ _ s;rw [aAV];refine wpAny_bind (wpAny_bind (oj _ p5 ?_));simp only [aBg,aAH,if_false];refine wpAny_pure ?_;show wpAny _ _ (forIn ([]:List Value) _ _) _ _ s;rw [aBr];exact wpAny_pure (wpAny_pure z)
end
def xv {prog:Program} {w:World} {K:Type} [DecidableEq K] (kd:KeyKind prog w K) (k0:K):HeapKind prog w K where
 is:=IsBoxKey kd k0
 hash:=mr kd k0
 draws:=fun _=>4
 room:=fun A=>A.units+2 < cLine
 inj:=fun p q=>p.one q
 keeps:=fun x q qd sb=>x.stay q qd sb
 pyHash:=fun hu x z=>u0 (aBc (aA5 _) hu) x z
 eqBool:=fun hu p q z=>Bx hu p q z
 quiet:=fun x z=>tw x z
section
variable {prog:Program} {w:World} {K:Type} [DecidableEq K] {knd:HeapKind prog w K} {A:Around} {E:Value→Shared→Prop} {s:Shared}
end
end PySem
namespace L2
open PySem PySem.Spec PyProof.Rows
theorem lB {α β:Type} {F:α→β→Prop}:∀ {l:List α} {m:List β},Paired F l m→∀ {i:Nat} {p:α} {q:β},l[i]?=some p→m[i]?=some q→F p q
 | _,_,.nil,i,p,q,h,_=>by simp at h
 | _,_,.cons r t,0,p,q,h,g=>by
  obtain rfl:_=p:=by simpa using h
  obtain rfl:_=q:=by simpa using g
  exact r
 | _,_,.cons r t,i+1,p,q,h,g=>lB t (by simpa using h) (by simpa using g)
theorem u4 {H:Hp} {a p:Addr} {o:Obj} {u:HO} (mu:Mut (H p)) (e:H a=some (.frz o u)):a≠p:=by
 intro c;subst c;rw [e] at mu;exact mu
mutual
theorem xw {K:W.Frag} {H H':Hp} {p:Addr} (mu:Mut (H p)) (g:But p H H'):∀ {d:Dt} {v:V},IsP K H d v→IsP K H' d v
 | _,_,.non=>.non
 | _,_,.bl=>.bl
 | _,_,.int=>.int
 | _,_,.str=>.str
 | _,_,.tup h pl q=>.tup (g.tup (by obtain ⟨o,u,e,dn⟩:=pl;exact u4 mu e) h) (by
   obtain ⟨o,u,e,dn⟩:=pl;exact ⟨o,u,g _ _ (u4 mu e) e,dn⟩) (cf mu g q)
theorem cf {K:W.Frag} {H H':Hp} {p:Addr} (mu:Mut (H p)) (g:But p H H'):∀ {l:List Dt} {xs:List V},IsPs K H l xs→IsPs K H' l xs
 | _,_,.nil=>.nil
 | _,_,.cons h q=>.cons (xw mu g h) (cf mu g q)
end
def By (k:Key):Dt:=.tup [.str "list",.tup [kDt k]]
abbrev rh (P:Program) (w:World):HeapKind P w Key:=xv (av P w) (Sum.inr ("list" : Str))
def ms (P:Program) (w:World) (p:Addr) (ob:Obj) (xs:List (Key×Addr×Value)) (h:Heap):Prop :=
 h.get? p=some ob∧ob.ExactDict∧∃ es ep,ob.data=.dict es ep∧es.toList=xs.map (entryOfKey (rh P w))∧(xs.map (·.1)).Nodup
def DicO (P:Program) (w:World) (K:W.Frag) (H:Hp) (a:Addr) (ob:Obj) (kvs:List (Key×V)):Prop:=(a == sysModules)=false∧kvs.length≤sizeLine∧∃ xs,H a=some (.ext (ms P w a ob xs)) ∧
 Paired (fun (p:Key×V) (q:Key×Addr×Value)=>p.1=q.1∧IsP K H (By p.1) (.ref q.2.1)∧RelV p.2 q.2.2) kvs xs
def DicE (P:Program) (w:World) (m:Bool) (K:W.Frag) (H:Hp) (a:Addr) (kvs:List (Key×V)):Prop:=match m with
 | false=>H a=some (.dK kvs)
 | true=>(∃ ob,DicO P w K H a ob kvs)∨(kvs=[]∧H a=some (.dK []))
section
variable {P:Program} {w:World} {K:W.Frag} {m:Bool} {H H':Hp} {a:Addr} {ob:Obj} {kvs:List (Key×V)}
theorem DicE.ne {r:Addr} {ys:List V} (h:DicE P w m K H a kvs) (hr:H r=some (.lst ys)):r≠a:=by
 intro c;subst c
 cases m with
 | false=>rw [show H r=some (.dK kvs) from h] at hr;cases hr
 | true =>
  rcases h with ⟨ob,_,_,_,e,_⟩ | ⟨_,e⟩
  ·rw [e] at hr;cases hr
  ·rw [e] at hr;cases hr
end
section
variable {X:Cx} {pins:List (Addr×Obj)} {σ:St} {H:Hp} {s:Shared}
theorem Bz (I:Inv X pins σ H s) {k:Key} {a:Addr} (h:IsP X.K H (By k) (.ref a)):IsBoxKey (av X.prog X.w) (Sum.inr ("list" : Str)) s.heap k a:=by
 obtain ⟨b,ys,e,ha,_,ra⟩:=IsP.unref h
 cases e
 obtain ⟨its,r,⟨o,h1,h2,n,h3⟩,_⟩:=I.tuple ha
 cases ra with
 | cons d1 ra =>
  cases ra with
  | cons d2 ra =>
   cases ra
   cases d1
   obtain ⟨c,zs,rfl,hc,pc,rc⟩:=IsP.unref d2
   cases r with
   | cons q1 r =>
    cases r with
    | cons q2 r =>
     cases r
     cases q2
     exact ⟨o,_,c,n,h1,h2,h3,nY (k:=Sum.inr ("list" : Str)) q1,rg I (ks:=[k]) (show IsP X.K H (.tup ([k].map kDt)) (.ref c) from d2)⟩
theorem DicO.dict {a:Addr} {ob:Obj} {kvs:List (Key×V)} (I:Inv X pins σ H s) (h:DicO X.prog X.w X.K H a ob kvs):(a == sysModules)=false∧kvs.length≤sizeLine∧∃ xs,s.heap.DictOfH (rh X.prog X.w) a xs∧ms X.prog X.w a ob xs s.heap∧H a=some (.ext (ms X.prog X.w a ob xs)) ∧
  Paired (fun (p:Key×V) (q:Key×Addr×Value)=>p.1=q.1∧IsP X.K H (By p.1) (.ref q.2.1)∧RelV p.2 q.2.2) kvs xs:=by
 obtain ⟨e0,e1,xs,e,r⟩:=h;obtain ⟨oo,_⟩:=(show ObjOk X.prog X.w H s.heap a (.ext (ms X.prog X.w a ob xs)) from I.hok a _ e);obtain ⟨h1,h2,es,ep,h3,h4,h5⟩:=id oo;refine ⟨e0,e1,xs,⟨ob,es,ep,h1,h2,h3,h4,fun y hy=>?_,h5⟩,oo,e,r⟩;obtain ⟨i,hi⟩:=aBu hy;have hl:i < kvs.length:=by rw [Paired.length r];exact (aAc.mp hi).1
 have q:=lB r (aAm hl) hi;rw [← q.1];exact Bz I q.2.1
end
section
variable {X:Cx} {P:Program} {w:World} {K:W.Frag} {o e f:Expr} {apos cpos pos:Pos} {td ty tx:TE}
end
section
variable {X:Cx} {tg:Expr} {P:Program} {w:World} {K:W.Frag}
end
section
variable {prog:Program} {w:World} {A:Around} {E:Value→Shared→Prop} {s:Shared}
end
section
variable {X:Cx} {K:W.Frag}
end
end L2
namespace PySem
open PyProof.Rows PySem.Spec
section
variable {prog:Program} {w:World} {h₀:Heap} {k:Str} {tk:Tok} {a:Addr} {α:Type} {R:α→Value→Prop} {D:List (Str×α)}
end
end PySem
namespace L2
open PySem PySem.Spec PyProof.Rows
structure Mn (K:W.Frag) (C:Addr) (m q:Str) (st:Stmt) (ps:List Str) (f:Addr) (fd:FuncData):Prop where
 meth:Meth K C m f
 F:Fun K m q st f fd
 b:Binds K fd ps []
structure Mi (K:W.Frag) (C:Addr) (m q:Str) (st:Stmt) (ps:List Str) (f:Addr) (fd:FuncData):Prop where
 makes:Mk K C f
 F:Fun K m q st f fd
 b:Binds K fd ps []
def u5 (y z:Str) (i:Int):Int:=match Builtin.Str.occurrences y z (fromIndex y.length i) y.length 1 with
 | k :: _=>(k:Int)
 | []=>-1
theorem jD:∀ {zs:List Str} {us:List Value},Vals (zs.map V.str) us→StrsAre us zs
 | [],us,h=>by cases h;exact .nil
 | z :: zs,us,h=>by
  cases h with
  | cons r h =>
   obtain ⟨t,rfl⟩:=r;exact .cons z t (jD h)
section
variable {X:Cx}
theorem u6:MtM X "str.find" (fun x vs H Q=>∃ y z i,x=.str y∧vs=[.str z,.int i]∧Q (.int (u5 y z i)) H):=by
 intro pins s σ H x vs v us Q I rx rv h;obtain ⟨y,z,i,rfl,rfl,q⟩:=h;obtain ⟨t,rfl⟩:=rx;obtain ⟨u1,u2,rfl,⟨t1,rfl⟩,⟨t2,rfl⟩⟩:=kW rv;exact call_gives PySem.F.slot_str_find (typeIs_str _ _ _) PySem.F.entry_str_find (PySem.F.args_str_find_3 _ _ _) (gives_str_find_from y z i t t1 t2) ⟨.int _,H,I.tok _,⟨_,rfl⟩,q⟩
theorem qB:MtM X "str.lstrip" (fun x vs H Q=>∃ y z,x=.str y∧vs=[.str z]∧y.length≤sizeLine∧Q (.str (Txt.lstripChars y z)) H):=by
 intro pins s σ H x vs v us Q I rx rv h;obtain ⟨y,z,rfl,rfl,hl,q⟩:=h;obtain ⟨t,rfl⟩:=rx;obtain ⟨u,rfl,t1,rfl⟩:=rv.one;exact SC.lstripChars (fun t' k=>⟨.str _,H,I.kept (t':=k) (fun _ _ e=>e),⟨t',rfl⟩,q⟩) hl
theorem gC:MtM X "str.join" (fun x vs H Q=>∃ (sp:Str) (p:Addr) (zs:List Str),x=.str sp∧vs=[.ref p]∧(SqL X.K H p (zs.map V.str)∨SqT X.K H p (zs.map V.str))∧(zs.map (·.length)).sum+zs.length*sp.length≤16777216∧Q (.str (Txt.join sp zs)) H):=by
 intro pins s σ H x vs v us Q I rx rv h;obtain ⟨sp,p,zs,rfl,rfl,hp,hz,q⟩:=h;obtain ⟨t,rfl⟩:=rx;obtain ⟨u,rfl,e⟩:=rv.one
 cases e
 rcases hp with hp | hp
 ·obtain ⟨its,rr,pl,_⟩:=I.list hp;exact join_list pl.isList (by simpa using jD rr) hz fun t' k=>⟨.str _,H,I.kept (t':=k) (fun _ _ e=>e),⟨t',rfl⟩,q⟩
 ·obtain ⟨its,rr,pl,_⟩:=I.tuple hp;exact join_tuple pl (by simpa using jD rr) hz fun t' k=>⟨.str _,H,I.kept (t':=k) (fun _ _ e=>e),⟨t',rfl⟩,q⟩
abbrev TJ:=St→Hp→Str→(Str→Hp→Prop)→Prop
def PJ (X:Cx) (es:List Expr) (t:TJ):Prop:=∀ (pins:List (Addr×Obj)) (s:Shared) (σ:St) (H:Hp) (out:Str) (Q:Str→Hp→Prop),Inv X pins σ H s→t σ H out Q→wpAny (model X.prog X.w) X.A (joinParts out (evalEach es X.env)) (EP X pins σ fun x H'=>∃ z,x=.str z∧Q z H') X.xe s
def tJn:TJ:=fun _ H out Q=>out.length≤sizeLine∧Q out H
def tJe (te:TE) (t:TJ):TJ:=fun σ H out Q=>te σ H fun x H1=>∃ y,x=.str y∧y.length≤sizeLine∧(out++y).length≤sizeLine∧t σ H1 (out++y) Q
def tJ (t:TJ):TE:=fun σ H Q=>t σ H Str.empty fun z H'=>Q (.str z) H'
theorem BA:PJ X [] tJn:=fun pins s σ H out Q I h=>joinParts_nil ⟨.str out,H,I.tok _,⟨_,rfl⟩,out,rfl,h.2⟩ h.1
theorem BB {e:Expr} {es:List Expr} {te:TE} {t:TJ} (he:PE X e te) (hr:PJ X es t):PJ X (e :: es) (tJe te t):=fun pins s σ H out Q I h =>
 joinParts_cons (thn (he pins s σ H _ I h) fun v s1 ⟨x,H1,I1,rx,y,ex,_,hl,q⟩=>by
  subst ex;obtain ⟨t0,rfl⟩:=rx;exact ⟨hl,hr pins s1 σ H1 _ Q I1 q⟩)
theorem u7 {e:Expr} {es:List Expr} {te:TE} {t:TJ} {pos:Pos} (he:PE X e te) (hr:PJ X es t):PJ X (.FormattedValue e (-1) none pos :: es) (tJe te t):=fun pins s σ H out Q I h =>
 joinParts_cons (PyProof.Rows.FormattedValue_plain (thn (he pins s σ H _ I h) fun v s1 ⟨x,H1,I1,rx,y,ex,hy,hl,q⟩=>by
  subst ex;obtain ⟨t0,rfl⟩:=rx;exact formatField_str (fun t' tk=>⟨hl,hr pins _ σ H1 _ Q (I1.kept (t':=tk) fun _ _ e=>e) q⟩) hy))
theorem xx {e1 e2:Expr} {es:List Expr} {t:TJ} {pos:Pos} (h:PJ X (e1 :: e2 :: es) t):PE X (.JoinedStr (e1 :: e2 :: es) pos) (tJ t):=fun pins s σ H Q I q =>
 JoinedStr_many (thn (h pins s σ H Str.empty _ I q) fun v s1 ⟨x,H1,I1,rx,z,ex,q1⟩=>by
  subst ex;exact ⟨.str z,H1,I1,rx,q1⟩)
end
def mv (K:W.Frag) (a:Addr) (D:List (Str×Str)):Prop:=∀ h,K.In h→KTD.TabOf (fun z v=>∃ t,v=Value.str z t) h a D
theorem Ca {K:W.Frag} {a:Addr} {D:List (Str×Str)} (e:KTD.tabLook (fun z v=>v.isStr z) (fun b=>K.lookup b) a D=true):mv K a D :=
 fun _ X=>KTD.tab_of_look (L:=fun z v=>v.isStr z) (R:=fun z v=>∃ t,v=Value.str z t) (fun z v h=>by
  cases v with
  | str y t=>exact ⟨t,by have:(y == z)=true:=h;rw [eq_of_beq this]⟩
  | _=>cases h) (fun b o q=>X b o q) e
def eG (k:Str):List (Str×Str)→Option Str
 | []=>none
 | (x,b) :: D=>if k=x then some b else eG k D
theorem df {k:Str}:∀ D:List (Str×Str),KTD.datumAt k D=eG k D
 | []=>rfl
 | (x,b) :: D=>by
  show (if decide (k=x)=true then some b else KTD.datumAt k D)=_
  by_cases h:k=x
  ·simp [eG,h]
  ·simp [eG,h,df D]
section
variable {X:Cx} {K:W.Frag}
theorem BC (hK:X.K=K):OpR X (compareOp .In) (fun x y H Q=>∃ k ad D,x=.str k∧y=.ref ad∧mv K ad D∧Q (.bl (eG k D).isSome) H):=by
 subst hK;intro pins s σ H x y v u Q I rx ry h;obtain ⟨k,ad,D,rfl,rfl,hD,q⟩:=h;obtain ⟨tk,rfl⟩:=rx
 cases ry
 have T:=hD _ I.ok.mod.kin;have ty:s.TypeIs (.ref ad) "dict" :=by
  obtain ⟨_,o,_,_,ho,hc,_⟩:=T;exact ⟨o,I.bk _ _ ho,hc.1⟩
 show wpAny _ _ ((do return Value.bool (← contains (.ref ad) (.str k tk))):Sem Value) _ _ s;refine wpAny_bind ?_;unfold contains
 try with_reducible refine wpAny_holding ?_
 refine wpAny_bind (wpAny_specialOf ty slot_dict_contains.lookup ?_);show wpAny _ _ (if (some (Value.builtin "dict.__contains__") == some Value.none)=true then _ else _) _ _ s;rw [if_neg (by rw [beq_builtin_none];exact aAw)];refine wpAny_bind (wpAny_callSpecialUnlessNone?_slot (name:=Str.ofString "__contains__") ty slot_dict_contains
  (wpAny_call_entry slot_dict_contains ty entry_dict_contains ?_ (args_dict_contains _ _)))
 show wpAny _ _ (dictGet ad (.str k tk) >>= _) _ _ s;refine wpAny_bind (iP T (fun b o z=>I.bk b o z) (fun z v hz hv=>?_) fun hn=>?_)
 ·rw [df] at hz;rw [hz] at q;exact wpAny_pure ⟨_,rfl,wpAny_truthy_bool (wpAny_pure ⟨.bl true,H,I.tok _,rfl,q⟩)⟩
 ·rw [df] at hn;rw [hn] at q;exact wpAny_bind (m:=Builtin.Dict.pendingKey? ad (.str k tk)) (wpAny_pendingKey_other T.1 (wpAny_pure ⟨_,rfl,wpAny_truthy_bool (wpAny_pure ⟨.bl false,H,I.tok _,rfl,q⟩)⟩))
def Hu (K:W.Frag) (td ty:TE):TE:=fun σ H Q=>td σ H fun x H1=>ty σ H1 fun y H2=>∃ k ad D z,x=.ref ad∧y=.str k∧mv K ad D∧eG k D=some z∧Q (.str z) H2
theorem xz {o e:Expr} {td ty:TE} {pos:Pos} (hK:X.K=K) (ho:PE X o td) (hi:PE X e ty) (hs:Br e):PE X (.Subscript o e pos) (Hu K td ty):=by
 subst hK;intro pins s σ H Q I h;refine qZ PySem.F.slot_dict_getitem.lookup hs (thn (ho pins s σ H _ I h) fun u s1 ⟨x,H1,I1,rx,q1⟩=>thn (hi pins s1 σ H1 _ I1 q1) fun iv s2 ⟨y,H2,I2,ry,k,ad,D,z,ex,ey,hD,hz,q2⟩=>?_);subst ex ey;obtain rfl:u=Value.ref ad:=rx;obtain ⟨tk,rfl⟩:=ry;have T:=hD _ I2.ok.mod.kin;have ty:s2.TypeIs (.ref ad) "dict" :=by
  obtain ⟨_,o,_,_,ho,hc,_⟩:=T;exact ⟨o,I2.bk _ _ ho,hc.1⟩
 refine ⟨ty,?_⟩;unfold getItem
 try with_reducible refine wpAny_holding ?_
 refine wpAny_bind (wpAny_sequenceKey ty (by decide) ?_);refine wpAny_bind (wpAny_callSpecial?_slot (name:=Str.ofString "__getitem__") ty slot_dict_getitem
  (wpAny_call_entry slot_dict_getitem ty entry_dict_getitem ?_ (args_dict_getitem _ _)))
 show wpAny _ _ (dictGet ad (.str k tk) >>= _) _ _ s2;refine wpAny_bind (iP T (fun b o z=>I2.bk b o z) (fun z' v hz' hv=>?_) fun hn=>?_)
 ·rw [df,hz] at hz'
  cases hz'
  obtain ⟨t,rfl⟩:=hv;exact wpAny_pure ⟨_,rfl,wpAny_pure ⟨.str z,H2,I2.tok _,⟨t,rfl⟩,q2⟩⟩
 ·rw [df,hz] at hn
  cases hn
end
def yd (K:W.Frag) (a:Addr) (bs:List Addr):Prop:=∀ H:Hp,SqT K H a (bs.map V.ref)
end L2
namespace PySem
namespace StrLaws
open Builtin Builtin.Str
theorem ol (s sub:Str) (hi:Nat):∀ (l:List Nat) (a:Array Nat) (fr:Nat),1≤a.size→(forIn l (a,fr) (occBody s sub hi 1)).run.fst=a
 | [],a,fr,h=>rfl
 | j :: l,a,fr,h=>by
  rw [aAV];unfold occBody;rw [if_neg (fun z=>by have:a.size < 1:=z.1.1.1;lia)];exact ol s sub hi l a fr h
theorem om (s sub:Str) (hi:Nat):∀ (l:List Nat) (fr:Nat),(∀ i∈l,fr≤i) →
  (forIn l ((#[]:Array Nat),fr) (occBody s sub hi 1)).run.fst=match l.find? (fun i=>decide (i+sub.length≤hi∧subAt s sub i=true)) with | some i=>#[i] | none=>#[]
 | [],fr,_=>rfl
 | a :: l,fr,hf=>by
  rw [aAV];unfold occBody;have ha:fr≤a:=hf a (aAd ..)
  by_cases hc:a+sub.length≤hi∧subAt s sub a=true
  ·rw [if_pos ⟨⟨⟨by show 0 < 1;decide,ha⟩,hc.1⟩,hc.2⟩,aA7,decide_eq_true hc];exact ol s sub hi l _ _ (by simp)
  ·rw [if_neg (fun h=>hc ⟨h.1.2,h.2⟩),aA7,decide_eq_false hc];exact om s sub hi l fr fun i hi'=>hf i (aAi _ hi')
theorem occ_one (x:Str) (c lo:Nat):occurrences x ⟨#[c]⟩ lo x.length 1=match (x.cps.toList.drop lo).findIdx? (· == c) with | some i=>[lo+i] | none=>[]:=by
 rw [occ_eq,om x ⟨#[c]⟩ x.length _ lo (fun i hi=>by rw [List.mem_range'_1] at hi;exact hi.1)];have key:∀ (n lo:Nat),lo+n=x.length+1→(List.range' lo n).find? (fun i=>decide (i+(⟨#[c]⟩:Str).length≤x.length∧subAt x ⟨#[c]⟩ i=true))=((x.cps.toList.drop lo).findIdx? (· == c)).map (lo + ·):=by
  intro n
  induction n with
  | zero =>
   intro lo h;rw [aA3 (by rw [aAQ];have:x.length=x.cps.size:=rfl;lia)]
   rfl
  | succ n ih =>
   intro lo h;rw [List.range'_succ];have dk:decide (lo+(⟨#[c]⟩:Str).length≤x.length∧subAt x ⟨#[c]⟩ lo=true)=decide (x.cps.toList[lo]?=some c):=by
    rw [decide_eq_decide];exact subAt_one x c lo
   by_cases hlt:lo < x.cps.toList.length
   ·rw [aA6 hlt]
    by_cases e:x.cps.toList[lo]=c
    ·rw [List.find?_cons_of_pos (by rw [dk,aAm hlt,e];simp),aBS];simp [e]
    ·rw [aCf (by rw [dk,aAm hlt];simpa using e),ih (lo+1) (by lia),aBS];have:(x.cps.toList[lo] == c)=false:=by simpa using e
     rw [this]
     cases (x.cps.toList.drop (lo+1)).findIdx? (· == c) with
     | none=>rfl
     | some i=>simp;lia
   ·rw [aCf (by rw [dk,aBs (by lia)];simp),ih (lo+1) (by lia),aA3 (by lia),aA3 (by lia)]
    rfl
 by_cases hlo:lo≤x.length+1
 ·rw [key (x.length+1 - lo) lo (by lia)]
  cases (x.cps.toList.drop lo).findIdx? (· == c) <;> rfl
 ·rw [show x.length+1 - lo=0 by lia,aA3 (by rw [aAQ];have:x.length=x.cps.size:=rfl;lia)]
  rfl
end StrLaws
end PySem
namespace L2
open PySem PySem.Spec PyProof.Rows
section
variable {X:Cx}
theorem fV:OpR X (binaryOp .Mult) (fun x y H Q=>∃ (z:Str) (n:Int),x=.str z∧y=.int n∧1≤z.length∧z.length≤100∧0≤n∧n≤100∧∀ z':Str,z'.cps.toList=(List.replicate n.toNat z.cps.toList).flatten→Q (.str z') H):=by
 intro pins s σ H x y v u Q I rx ry h;obtain ⟨z,n,rfl,rfl,hz1,hz,h0,h1,q⟩:=h;obtain ⟨t,rfl⟩:=rx;obtain ⟨t',rfl⟩:=ry;have hm:z.length*n.toNat≤10000:=aAA (Nat.mul_le_mul hz (show n.toNat≤100 by lia)) (by decide);refine PySem.P.mul_str ?_ (fun c0 _=>?_) (fun _ _=>?_) ?_
 ·rw [decide_eq_false (by lia),decide_eq_false (by lia)]
  rfl
 ·intro c1;have c2:(z.length:Int) > (2 ^ 63 - 1) / n:=c1;have:(z.length:Int)≤(2 ^ 63 - 1) / n:=(Int.le_ediv_iff_mul_le (by lia)).mpr (by
   have hm':((z.length*n.toNat:Nat):Int)≤10000:=by lia
   rw [Int.natCast_mul,Int.toNat_of_nonneg h0] at hm';lia)
  lia
 ·exact decide_eq_false (aB1.mpr (aAA hm (by decide)))
 ·by_cases c1:n < 1
  ·rw [if_pos c1];refine ⟨aAx _,.str _,H,I.tok _,⟨_,rfl⟩,q _ ?_⟩;rw [show n.toNat=0 by lia]
   rfl
  ·rw [if_neg c1]
   by_cases c2:n=1
   ·subst c2;exact ⟨.str _,H,I,⟨_,rfl⟩,q _ (by simp)⟩
   ·have c3:¬ (n == 1 || z.length == 0)=true:=by
     rw [show (z.length == 0)=false from by simp;lia,aCk]
     simpa using c2
    rw [if_neg c3];have e:((List.replicate n.toNat z.cps).foldl (·++·) #[]).toList=(List.replicate n.toNat z.cps.toList).flatten:=by
     have key:∀ (k:Nat) (acc:Array Nat),((List.replicate k z.cps).foldl (·++·) acc).toList=acc.toList++(List.replicate k z.cps.toList).flatten:=by
      intro k
      induction k with
      | zero=>intro acc;simp
      | succ k ih =>
       intro acc;rw [aBa,List.foldl_cons,ih,aBa,List.flatten_cons,aBP,aAZ]
     have:=key n.toNat #[]
     simpa using this
    refine ⟨?_,.str _,H,I.tok _,⟨_,rfl⟩,q _ e⟩;show (((List.replicate n.toNat z.cps).foldl (·++·) #[])).size≤sizeLine;rw [← aAQ,e,List.length_flatten,List.map_replicate,List.sum_replicate_nat];rw [aAQ,Nat.mul_comm];exact aAA hm (by decide)
end
def u8 (vs:List Value) (bs:List Addr):Bool:=vs == bs.map Value.ref
def oq (K:W.Frag) (b:Addr) (bs:List Addr):Bool:=match K.lookup b with
 | some o=>o.cls == .type "tuple" && (match o.data with | .seq vs _=>u8 vs.toList bs && decide (vs.size≤1000) | _=>false)
 | none=>false
theorem jE:∀ bs:List Addr,Vals (bs.map V.ref) (bs.map Value.ref)
 | []=>.nil
 | b :: bs=>.cons rfl (jE bs)
theorem Hv {K:W.Frag} {a:Addr} {bs:List Addr} (e:oq K a bs=true):yd K a bs:=by
 intro H;unfold oq at e
 split at e
 ·rename_i o ho
  simp only [aAs] at e;obtain ⟨e2,e3⟩:=e
  split at e3
  ·rename_i vs n hd
   simp only [aAs] at e3;have ev:vs.toList=bs.map Value.ref:=eq_of_beq e3.1;exact .inr ⟨o,vs,n,ho,eq_of_beq e2,hd,aAY (ak (of_decide_eq_true e3.2)),by rw [ev];exact jE bs⟩
  ·cases e3
 ·cases e
theorem mnM {K:W.Frag} {C f:Addr} {m q:Str} {st:Stmt} {ps:List Str} {od an:Option Addr} {sl:Array (Option Value)} {oc kV dc pm cd ct:Value} (a:W.findIn K (.ref C) m=some (some (.ref f))) (i:W.isFn K (.ref f)=true)
  (l:K.lookup f=some ⟨oc,od,.func (W.fnOf m q (bG st) (bi st) (ai st) .none kV dc pm an cd ct),sl⟩) (c:W.codeIn K cd q=true) (k:W.keepIn K (.ref f)=true)
  (b:∀ (kV doc pm:Value) (an:Option Addr) (cdv ct:Value) (us:List Value),us.length=ps.length→bindArgs (W.fnOf m q (bG st) (bi st) (ai st) .none kV doc pm an cdv ct) ⟨us,[]⟩=pure (ps.zip us)):∃ f fd,Mn K C m q st ps f fd :=
 ⟨f,_,⟨a,i,k⟩,hV (st:=st) l c k,(hV (st:=st) l c k).binds b⟩
theorem miM {K:W.Frag} {C f:Addr} {q:Str} {st:Stmt} {ps:List Str} {od an:Option Addr} {sl:Array (Option Value)} {oc kV dc pm cd ct:Value} (mk:W.makesIn K C=true) (a:W.findIn K (.ref C) "__init__" = some (some (.ref f))) (i:W.isFn K (.ref f)=true) (kc:W.keepIn K (.ref C)=true)
  (l:K.lookup f=some ⟨oc,od,.func (W.fnOf "__init__" q (bG st) (bi st) (ai st) .none kV dc pm an cd ct),sl⟩) (c:W.codeIn K cd q=true) (k:W.keepIn K (.ref f)=true)
  (b:∀ (kV doc pm:Value) (an:Option Addr) (cdv ct:Value) (us:List Value),us.length=ps.length→bindArgs (W.fnOf "__init__" q (bG st) (bi st) (ai st) .none kV doc pm an cdv ct) ⟨us,[]⟩=pure (ps.zip us)):∃ f fd,Mi K C "__init__" q st ps f fd :=
 ⟨f,_,⟨mk,a,i,kc⟩,hV (st:=st) l c k,(hV (st:=st) l c k).binds b⟩
end L2
namespace K86
open PySem L2 PyProof.Rows
abbrev gi:Stmt:=top 7
abbrev bN:Stmt:=top 8
abbrev iD:Stmt:=top 11
abbrev fD:Stmt:=top 12
abbrev dM:Stmt:=top 13
abbrev dN:Stmt:=top 14
abbrev cX:Stmt:=top 15
abbrev bh:Stmt:=top 16
abbrev br:Stmt:=top 17
abbrev bO:Stmt:=top 18
abbrev cT:Stmt:=top 19
abbrev gj:Stmt:=top 20
abbrev dO:Stmt:=top 23
abbrev eW:Stmt:=top 24
abbrev gm:Stmt:=top 35
abbrev gn:Stmt:=top 36
abbrev iE:Stmt:=top 37
abbrev eX:Stmt:=top 38
abbrev bI:Stmt:=top 39
abbrev km:Stmt:=top 45
abbrev iF:Stmt:=top 46
abbrev cy:Stmt:=top 47
abbrev cY:Stmt:=top 48
abbrev eY:Stmt:=top 49
abbrev kn:Stmt:=top 50
abbrev dP:Stmt:=top 54
abbrev gp:Stmt:=top 55
abbrev bK:Stmt:=top 56
abbrev eZ:Stmt:=top 57
abbrev pN:Stmt:=top 58
abbrev dQ:Stmt:=top 59
abbrev pO:Stmt:=top 60
abbrev pP:Stmt:=top 61
abbrev pQ:Stmt:=top 62
abbrev cU:Stmt:=top 63
abbrev ko:Stmt:=top 64
abbrev cZ:Stmt:=top 66
abbrev fc:Stmt:=top 67
abbrev iG:Stmt:=top 68
abbrev fe:Stmt:=top 69
abbrev cg:Stmt:=top 70
abbrev bP:Stmt:=top 71
abbrev cq:Stmt:=top 72
abbrev aS:Stmt:=top 73
abbrev be:Stmt:=top 74
abbrev bY:Stmt:=top 75
abbrev dR:Stmt:=top 76
abbrev dS:Stmt:=top 77
abbrev aN:Stmt:=top 78
abbrev bt:Stmt:=top 79
abbrev bn:Stmt:=top 80
abbrev ff:Stmt:=top 81
abbrev cV:Stmt:=top 82
abbrev cL:Stmt:=top 83
abbrev kq:Stmt:=top 84
abbrev sq:Stmt:=top 85
abbrev cM:Stmt:=aV (top 40) 0
abbrev bZ:Stmt:=aV (top 40) 1
abbrev cr:Stmt:=aV (top 40) 2
abbrev cN:Stmt:=aV (top 40) 3
abbrev bC:Stmt:=aV (top 40) 4
theorem i6:FnScope ["self","text"] ["self","text"] (ai cM):=by constructor <;> first | rfl | decide +kernel
theorem cW:FnScope ["self","ahead","at"] ["self","ahead"] (ai bZ):=by constructor <;> first | rfl | decide +kernel
theorem iH:FnScope ["self","mark"] ["self","mark"] (ai cr):=by constructor <;> first | rfl | decide +kernel
theorem dW:FnScope ["self","sort","found"] ["self","sort"] (ai cN):=by constructor <;> first | rfl | decide +kernel
theorem fh:FnScope ["self","mark"] ["self","mark"] (ai bC):=by constructor <;> first | rfl | decide +kernel
theorem pR:FnScope ["thing"] ["thing"] (ai gi):=by constructor <;> first | rfl | decide +kernel
theorem gq:FnScope ["thing","low","high"] ["thing","low","high"] (ai bN):=by constructor <;> first | rfl | decide +kernel
theorem qT:FnScope ["letter"] ["letter"] (ai iD):=by constructor <;> first | rfl | decide +kernel
theorem pS:FnScope ["value","kind","word"] ["value","kind"] (ai fD):=by constructor <;> first | rfl | decide +kernel
theorem kP:FnScope ["value","kind"] ["value","kind"] (ai dM):=by constructor <;> first | rfl | decide +kernel
theorem kQ:FnScope ["value","most"] ["value","most"] (ai dN):=by constructor <;> first | rfl | decide +kernel
theorem kr:FnScope ["value","word"] ["value","word"] (ai cX):=by constructor <;> first | rfl | decide +kernel
theorem kt:FnScope ["value","word","kind","most"] ["value","word","kind","most"] (ai bh):=by constructor <;> first | rfl | decide +kernel
theorem i7:FnScope ["value","fields"] ["value","fields"] (ai br):=by constructor <;> first | rfl | decide +kernel
theorem kR:FnScope ["pair","field"] ["pair","field"] (ai bO):=by constructor <;> first | rfl | decide +kernel
theorem gN:FnScope ["items","key","keys"] ["items","key"] (ai cT):=by constructor <;> first | rfl | decide +kernel
theorem fi:FnScope ["record","name","own","value"] ["record","name"] (ai gj):=by constructor <;> first | rfl | decide +kernel
theorem kS:FnScope ["number"] ["number"] (ai dO):=by constructor <;> first | rfl | decide +kernel
theorem gO:FnScope ["text","figures"] ["text"] (ai eW):=by constructor <;> first | rfl | decide +kernel
theorem cj:FnScope ["text","found","at","end"] ["text"] (ai gm):=by constructor <;> first | rfl | decide +kernel
theorem iR:FnScope ["text","at","close"] ["text","at"] (ai gn):=by constructor <;> first | rfl | decide +kernel
theorem gr:FnScope ["text","at","letters","end"] ["text","at","letters"] (ai iE):=by constructor <;> first | rfl | decide +kernel
theorem gP:FnScope ["text","number"] ["text"] (ai eX):=by constructor <;> first | rfl | decide +kernel
theorem aw:FnScope ["words","deepest","here","sort","told"] ["words"] (ai bI):=by constructor <;> first | rfl | decide +kernel
theorem sc_value_text:FnScope ["value","inner"] ["value"] (ai cy):=by constructor <;> first | rfl | decide +kernel
theorem ku:FnScope ["texts"] ["texts"] (ai cY):=by constructor <;> first | rfl | decide +kernel
theorem m9:FnScope ["word","text"] ["word","text"] (ai eY):=by constructor <;> first | rfl | decide +kernel
theorem uc:FnScope ["text"] ["text"] (ai kn):=by constructor <;> first | rfl | decide +kernel
theorem kT:FnScope ["text","kind"] ["text","kind"] (ai dP):=by constructor <;> first | rfl | decide +kernel
theorem fj:FnScope ["text","sort","row","told"] ["text","sort"] (ai gp):=by constructor <;> first | rfl | decide +kernel
theorem gQ:FnScope ["row","sort","path"] ["row","sort"] (ai bK):=by constructor <;> first | rfl | decide +kernel
theorem gR:FnScope ["row","sort","word"] ["row","sort"] (ai eZ):=by constructor <;> first | rfl | decide +kernel
theorem bF:FnScope ["row","opening","word","sort","closing"] ["row"] (ai dQ):=by constructor <;> first | rfl | decide +kernel
theorem gS:FnScope ["row","sort","closing","found"] ["row","sort","closing"] (ai cU):=by constructor <;> first | rfl | decide +kernel
theorem kx:FnScope ["script","k"] ["script","k"] (ai cZ):=by constructor <;> first | rfl | decide +kernel
theorem gU:FnScope ["cell","k","stir"] ["cell","k"] (ai fc):=by constructor <;> first | rfl | decide +kernel
theorem cO:FnScope ["script","k","turn","cell","found","j"] ["script","k","turn"] (ai iG):=by constructor <;> first | rfl | decide +kernel
theorem gW:FnScope ["row","many","digit"] ["row","many"] (ai fe):=by constructor <;> first | rfl | decide +kernel
theorem bQ:FnScope ["row","many","base","tail","way","words"] ["row","many"] (ai cg):=by constructor <;> first | rfl | decide +kernel
theorem bJ:FnScope ["row","low","high"] ["row"] (ai bP):=by constructor <;> first | rfl | decide +kernel
theorem cc:FnScope ["row","way","words"] ["row"] (ai cq):=by constructor <;> first | rfl | decide +kernel
theorem aZ:FnScope ["row","deep","room","many","fields","name"] ["row","deep","room"] (ai aS):=by constructor <;> first | rfl | decide +kernel
theorem aA:FnScope ["row","deep","room","names","key","fields","name","inner"] ["row","deep","room"] (ai be):=by constructor <;> first | rfl | decide +kernel
theorem iS:FnScope ["row","deep","room","way"] ["row","deep","room"] (ai bY):=by constructor <;> first | rfl | decide +kernel
theorem iT:FnScope ["row","most","signs"] ["row","most"] (ai dR):=by constructor <;> first | rfl | decide +kernel
theorem fm:FnScope ["row","kind","many","start"] ["row","kind"] (ai dS):=by constructor <;> first | rfl | decide +kernel
theorem sc_law_row_values:FnScope ["row","kind","fields","items","most","key","pairs","name","value"] ["row","kind"] (ai aN):=by constructor <;> first | rfl | decide +kernel
theorem bR:FnScope ["row","kind","word","edge","many"] ["row","kind"] (ai bt):=by constructor <;> first | rfl | decide +kernel
theorem sc_law_value_words:FnScope ["value","words","part","marks"] ["value"] (ai bn):=by constructor <;> first | rfl | decide +kernel
theorem nc:FnScope ["words"] ["words"] (ai ff):=by constructor <;> first | rfl | decide +kernel
theorem ng:FnScope ["words","row"] ["words","row"] (ai cV):=by constructor <;> first | rfl | decide +kernel
theorem pT:FnScope ["one","other"] ["one","other"] (ai cL):=by constructor <;> first | rfl | decide +kernel
theorem fE:FnScope ["text","kind","told","e"] ["text","kind"] (ai kq):=by constructor <;> first | rfl | decide +kernel
theorem sc_law:FnScope ["script","k","turn","row","kind","value","words","text","loose","other","due"] ["script"] (ai sq):=by constructor <;> first | rfl | decide +kernel
theorem pi1 {K:W.Frag} {X:Cx} {a:Expr} {ta:TE} {i j pos pos'} (hK:X.K=K) (ha:PE X a ta):PE X (.Subscript a (.Constant (.int i) j pos) pos') (tOp (Bt K) ta (tC (.int i))):=pe_ix (eD hK) ha pe_int fun _ _=>rfl
theorem isS {K : W.Frag} {H : Hp} {z : Str} {Q : V → Prop} (h : Q (.str z)) : ∀ v, IsP K H (.str z) v → Q v := fun v hv => by cases hv; exact h
theorem isI {K : W.Frag} {H : Hp} {z : Int} {Q : V → Prop} (h : Q (.int z)) : ∀ v, IsP K H (.int z) v → Q v := fun v hv => by cases hv; exact h
theorem sz1 : 1 ≤ sizeLine := by decide
theorem sz3 : 3 ≤ sizeLine := by decide
theorem pcl {X:Cx} {x:Str} {st:Stmt} {ps:List Str} {f:Addr} {fd:FuncData} {k:Nat} {sp:Sp} {e:Expr} {es:List Expr} {t:TA} {p pos:Pos} (D:Gn X.K X.mg x st ps f fd) (F:FnOk X.prog X.w X.K X.mg X.base CX0 k f fd ps sp) (hr:Room k X.A) (hg:Gl X x) (ha:PA X (e :: es) t) (hdb:(x == ("__debug__" : Str))=false:=by decide) (he:starEach (e :: es) X.env=(false,eval e X.env) :: starEach es X.env:=by rfl) (hpl:(backTo pos (starEach es X.env)).any (·.1)=false:=by rfl):PE X (.Call (.Name x p) (e :: es) [] pos) (xY sp [] E0 t):=pe_call F hr hg D.m D.F.kp D.b .nil iL ha hdb he hpl
theorem pa1 {X:Cx} {e:Expr} {te:TE} (ha:PE X e te) (hs:starEach [e] X.env=(false,eval e X.env) :: starEach [] X.env):PA X [e] (jq te wE):=aI ha pa_nil hs
theorem pa2 {X:Cx} {e f:Expr} {te tf:TE} (ha:PE X e te) (hb:PE X f tf) (hs:starEach [e,f] X.env=(false,eval e X.env) :: starEach [f] X.env) (ht:starEach [f] X.env=(false,eval f X.env) :: starEach [] X.env):PA X [e,f] (jq te (jq tf wE)):=aI ha (aI hb pa_nil ht) hs
theorem pa3 {X:Cx} {e f g:Expr} {te tf tg:TE} (ha:PE X e te) (hb:PE X f tf) (hc:PE X g tg) (hs:starEach [e,f,g] X.env=(false,eval e X.env) :: starEach [f,g] X.env) (ht:starEach [f,g] X.env=(false,eval f X.env) :: starEach [g] X.env) (hu:starEach [g] X.env=(false,eval g X.env) :: starEach [] X.env):PA X [e,f,g] (jq te (jq tf (jq tg wE))):=aI ha (aI hb (aI hc pa_nil hu) ht) hs
theorem sz2:2≤sizeLine:=by decide
structure Ads where
 HandError:Addr
 BadValue:Addr
 BadText:Addr
 WordRow:Addr
structure Tx (K:W.Frag) (mg:Str→Option Value) (ad:Ads):Prop where
 is_whole:∃ f fd,Gn K mg "is_whole" gi ["thing"] f fd
 is_whole_within:∃ f fd,Gn K mg "is_whole_within" bN ["thing","low","high"] f fd
 is_sign:∃ f fd,Gn K mg "is_sign" iD ["letter"] f fd
 is_of:∃ f fd,Gn K mg "is_of" fD ["value","kind"] f fd
 made_value:∃ f fd,Gn K mg "made_value" dM ["value","kind"] f fd
 is_text_of:∃ f fd,Gn K mg "is_text_of" dN ["value","most"] f fd
 holds_tuple:∃ f fd,Gn K mg "holds_tuple" cX ["value","word"] f fd
 holds_items:∃ f fd,Gn K mg "holds_items" bh ["value","word","kind","most"] f fd
 is_record_of:∃ f fd,Gn K mg "is_record_of" br ["value","fields"] f fd
 is_pair_of:∃ f fd,Gn K mg "is_pair_of" bO ["pair","field"] f fd
 are_keyed:∃ f fd,Gn K mg "are_keyed" cT ["items","key"] f fd
 field_of:∃ f fd,Gn K mg "field_of" gj ["record","name"] f fd
 figures_of:∃ f fd,Gn K mg "figures_of" dO ["number"] f fd
 number_of:∃ f fd,Gn K mg "number_of" eW ["text"] f fd
 words_of:∃ f fd,Gn K mg "words_of" gm ["text"] f fd
 word_end:∃ f fd,Gn K mg "word_end" gn ["text","at"] f fd
 run_end:∃ f fd,Gn K mg "run_end" iE ["text","at","letters"] f fd
 made_word:∃ f fd,Gn K mg "made_word" eX ["text"] f fd
 deepest_brackets:∃ f fd,Gn K mg "deepest_brackets" bI ["words"] f fd
 parts_behind:∃ f fd,Gn K mg "parts_behind" km ["sort","word"] f fd
 most_exchanged:∃ f fd,Gn K mg "most_exchanged" iF ["word","parts"] f fd
 value_text:∃ f fd,Gn K mg "value_text" cy ["value"] f fd
 with_commas:∃ f fd,Gn K mg "with_commas" cY ["texts"] f fd
 pair_text:∃ f fd,Gn K mg "pair_text" eY ["word","text"] f fd
 quoted:∃ f fd,Gn K mg "quoted" kn ["text"] f fd
 read_value:∃ f fd,Gn K mg "read_value" dP ["text","kind"] f fd
 read_all:∃ f fd,Gn K mg "read_all" gp ["text","sort"] f fd
 part_read:∃ f fd,Gn K mg "part_read" bK ["row","sort"] f fd
 pair_read:∃ f fd,Gn K mg "pair_read" eZ ["row","sort"] f fd
 kind_read:∃ f fd,Gn K mg "kind_read" pN ["row"] f fd
 value_read:∃ f fd,Gn K mg "value_read" dQ ["row"] f fd
 turn_read:∃ f fd,Gn K mg "turn_read" pO ["row"] f fd
 path_read:∃ f fd,Gn K mg "path_read" pP ["row"] f fd
 form_read:∃ f fd,Gn K mg "form_read" pQ ["row","sort","word"] f fd
 list_read:∃ f fd,Gn K mg "list_read" cU ["row","sort","closing"] f fd
 at_least_one:∃ f fd,Gn K mg "at_least_one" ko ["parts"] f fd
 law_cell_at:∃ f fd,Gn K mg "_law_cell_at" cZ ["script","k"] f fd
 law_mixed:∃ f fd,Gn K mg "_law_mixed" fc ["cell","k"] f fd
 law_own:∃ f fd,Gn K mg "_law_own" iG ["script","k","turn"] f fd
 law_digit:∃ f fd,Gn K mg "_law_digit" fe ["row","many"] f fd
 law_names:∃ f fd,Gn K mg "_law_names" cg ["row","many"] f fd
 law_number_kind:∃ f fd,Gn K mg "_law_number_kind" bP ["row"] f fd
 law_leaf_kind:∃ f fd,Gn K mg "_law_leaf_kind" cq ["row"] f fd
 law_record_kind:∃ f fd,Gn K mg "_law_record_kind" aS ["row","deep","room"] f fd
 law_rows_kind:∃ f fd,Gn K mg "_law_rows_kind" be ["row","deep","room"] f fd
 law_kind:∃ f fd,Gn K mg "_law_kind" bY ["row","deep","room"] f fd
 law_text:∃ f fd,Gn K mg "_law_text" dR ["row","most"] f fd
 law_keys:∃ f fd,Gn K mg "_law_keys" dS ["row","kind"] f fd
 law_row_values:∃ f fd,Gn K mg "_law_row_values" aN ["row","kind"] f fd
 law_value:∃ f fd,Gn K mg "_law_value" bt ["row","kind"] f fd
 law_value_words:∃ f fd,Gn K mg "_law_value_words" bn ["value"] f fd
 law_tight:∃ f fd,Gn K mg "_law_tight" ff ["words"] f fd
 law_loose:∃ f fd,Gn K mg "_law_loose" cV ["words","row"] f fd
 law_same:∃ f fd,Gn K mg "_law_same" cL ["one","other"] f fd
 law_by:∃ f fd,Gn K mg "_law_by" kq ["text","kind"] f fd
 law:∃ f fd,Gn K mg "law" sq ["script"] f fd
 o_WordRow:mg "WordRow" = some (.ref ad.WordRow)
 c_WordRow:Cls K ad.WordRow
 n_WordRow_all_words:NoAttr K ad.WordRow "all_words"
 n_WordRow_place:NoAttr K ad.WordRow "place"
 m_WordRow_init:∃ f fd,Mi K ad.WordRow "__init__" "WordRow.__init__" cM ["self","text"] f fd
 m_WordRow_coming:∃ f fd,Mn K ad.WordRow "coming" "WordRow.coming" bZ ["self","ahead"] f fd
 m_WordRow_comes:∃ f fd,Mn K ad.WordRow "comes" "WordRow.comes" cr ["self","mark"] f fd
 m_WordRow_take:∃ f fd,Mn K ad.WordRow "take" "WordRow.take" cN ["self","sort"] f fd
 m_WordRow_take_mark:∃ f fd,Mn K ad.WordRow "take_mark" "WordRow.take_mark" bC ["self","mark"] f fd
 x_HandError:ExC K mg "HandError" ad.HandError
 x_BadValue:ExC K mg "BadValue" ad.BadValue
 x_BadText:ExC K mg "BadText" ad.BadText
 LETTERS:∃ t,mg "LETTERS" = some (.str "abcdefghijklmnopqrstuvwxyz" t)
 LONGEST_NAME:∃ t,mg "LONGEST_NAME" = some (.int 8 t)
 PERCENT:∃ t,mg "PERCENT" = some (.int 37 t)
 FIGURES:∃ t,mg "FIGURES" = some (.str "0123456789" t)
 BLANK:∃ t,mg "BLANK" = some (.str " " t)
 QUOTE:∃ t,mg "QUOTE" = some (.str "\"" t)
 MINUS:∃ t,mg "MINUS" = some (.str "-" t)
 OPENING:∃ t,mg "OPENING" = some (.str "([{" t)
 CLOSING:∃ t,mg "CLOSING" = some (.str ")]}" t)
 MARKS:∃ t,mg "MARKS" = some (.str "()[]{},:;/" t)
 MOST_FIGURES:∃ t,mg "MOST_FIGURES" = some (.int 60 t)
 MOST_BRACKETS:∃ t,mg "MOST_BRACKETS" = some (.int 40 t)
 END:mg "END" = some (.ref 140)∧lA K [(140,["end",""])]
 KIND_PARTS:mg "KIND_PARTS" = some (.ref 223)∧mo K 223 [("number",224),("text",225),("list",226),("rows",227)]∧lA K [(224,["number","number"]),(225,["number"]),(226,["number","kind"]),(227,["word","number","kind"])]
 TURN_PARTS:mg "TURN_PARTS" = some (.ref 228)∧mo K 228 [("bounds",229),("scale",230),("shrink",231),("figures",232),("number",233),("cut",234),("first",235),("one",236),("out",237),("items",238)]∧lA K [(229,["number","number"]),(230,["number"]),(231,["number"]),(232,["number"]),(233,["number","number"]),(234,["number"]),(235,["number"]),(236,["number"]),(237,[]),(238,["turn"])]
 PIECE_PARTS:mg "PIECE_PARTS" = some (.ref 239)∧mo K 239 [("put",240),("drop",241),("name",242),("sink",243),("lift",244),("turn",245),("split",246),("join",247),("part",248),("whole",249)]∧lA K [(240,["word","kind","value"]),(241,["word","value"]),(242,["word","word"]),(243,["word","word"]),(244,["word","word"]),(245,["word","turn"]),(246,["word","text","word","word"]),(247,["word","word","text","word"]),(248,["word","number","word","word"]),(249,["word","word","number","word","number","number"])]
 PAIR_SORTS:∃ a,mg "PAIR_SORTS" = some (.ref a)∧mv K a [("field","kind"),("entry","value"),("way","word")]
 BRACKETED:mg "BRACKETED" = some (.ref 294)∧yd K 294 [291,292,293]∧lA K [(291,["[","list","value","]"]),(292,["{","record","entry","}"]),(293,["(","rows","value",")"])]
 z_ValueError:mg "ValueError" = none
 z_all:mg "all" = none
 z_any:mg "any" = none
 z_bool:mg "bool" = none
 z_dict:mg "dict" = none
 z_int:mg "int" = none
 z_isinstance:mg "isinstance" = none
 z_len:mg "len" = none
 z_max:mg "max" = none
 z_min:mg "min" = none
 z_ord:mg "ord" = none
 z_range:mg "range" = none
 z_sorted:mg "sorted" = none
 z_str:mg "str" = none
 z_sum:mg "sum" = none
 z_tuple:mg "tuple" = none
 z_zip:mg "zip" = none
 kits:(W.kitOne K (.ref ad.BadValue) (.ref ad.BadValue) == some true && W.kitOne K (.ref ad.BadValue) (.type "ValueError") == some true && W.kitOne K (.ref ad.BadValue) (.ref ad.BadText) == some false)=true
 exk:W.exmOne K (.ref ad.BadValue) (.ref ad.HandError)=some true
abbrev depth:Nat:=120
def Hw (K:W.Frag):Sp:=fun vs H Q _=>∃ (a:Addr) (ns:List Int),vs=[.ref a]∧SqL K H a (ns.map V.int)∧ns.length≤63∧∀ H',Q (.bl true) H'
section
variable {P:Program} {w:World} {K:W.Frag} {mg:Str→Option Value} {ad:Ads} {base:Heap}
theorem ay {K:W.Frag} {H:Hp} {z:Str} {v:V} (h:IsP K H (.str z) v):v=.str z:=by cases h;rfl
theorem aX {K:W.Frag} {H:Hp} {i:Int} {v:V} (h:IsP K H (.int i) v):v=.int i:=by cases h;rfl
theorem fW {A B:Prop} {x:V} (h:A):if decide (x=x)=true then A else B:=by rw [if_pos (decide_eq_true rfl)];exact h
theorem dh {A B:Prop} {x y:V} (n:x≠y) (h:B):if decide (x=y)=true then A else B:=by rw [if_neg (fun c=>n (of_decide_eq_true c))];exact h
theorem lC {A B:Prop} {x y:V} (n:x≠y) (h:A):if (!decide (x=y))=true then A else B:=by rw [if_pos (by rw [decide_eq_false n];rfl)];exact h
theorem ou {A B:Prop} {x:V} (h:B):if (!decide (x=x))=true then A else B:=by rw [if_neg (by rw [decide_eq_true rfl];decide)];exact h
theorem bS {a b:Str} (h:a≠b):V.str a≠V.str b:=fun e=>h (V.str.inj e)
theorem at0 {α:Type} (c:α) (r:List α):atI (c :: r) 0=some c:=by
 have e:atI (c :: r) ((0:Nat):Int)=some c:=ce (by rfl);exact e
theorem aq (z:Str):z.cps.toList.length=z.length:=aAQ
theorem eH {n:Nat} (h:n≤100000):n≤sizeLine:=aAA h (by decide)
theorem ow {α:Type} {l:List α} {n:Nat} {c:α} (h:l[n]?=some c):atI l (n:Int)=some c:=ce h
theorem ic {α β:Type} {xs:List α} {i:Nat} {x:α} (f:α→β) (h:xs[i]?=some x):(xs.take i).map f++[f x]=(xs.take (i+1)).map f:=by
 rw [aAD,h,aAo];rfl
theorem Hy {a b c:TS} {D:Ends} {σ:L2.St} {H:Hp} (R:L2.St→Hp→Prop) (h2:∀ σ' H',R σ' H'→c D σ' H') (h1:(∀ σ' H',R σ' H'→c D σ' H')→ue a (ue b c) D σ H):ue a (ue b c) D σ H:=h1 h2
theorem ae {G:Prop} (h:∀ g:Prop,(G→g)→g):G:=h G id
abbrev letters:Str:= "abcdefghijklmnopqrstuvwxyz"
def inB (c:Nat):Bool:=!(Builtin.Str.occurrences letters ⟨#[c]⟩ 0 letters.length 1).isEmpty
def cu (z:Str):Bool:=decide (1≤z.length) && decide (z.length≤8) && !decide (z= "each") && z.cps.toList.all inB
def ltS (a b:Str):Prop:=a.cps.toList < b.cps.toList
instance (a b:Str):Decidable (ltS a b):=inferInstanceAs (Decidable (a.cps.toList < b.cps.toList))
def eI (ws:List Str):Bool:=decide (1≤ws.length) && decide (ws.length≤8) && ws.all cu && decide ws.Nodup
abbrev G4:=Str×Dt×Nat×Nat
abbrev nk (g:G4):Str×Dt:=(g.1,g.2.1)
abbrev prG (g:G4):Dt:=.tup [.str g.1,g.2.1]
def eJ:List Nat→Nat
 | []=>0
 | n :: r=>n+eJ r
def ck:List Nat→Nat
 | []=>0
 | n :: r=>max n (ck r)
def BE (l:List Dt) (z:Str):Prop:=∃ w r,Dt.tup [.str z,.tup (.str w :: r)]∈l∧(w= "number" ∨w= "text")
abbrev ox (ws:List Str):Prop:=∀ z∈ws,z≠ "nonesuch" ∧∀ y∈ws,y≠z++ "x"
inductive FK:Nat→Nat→Dt→Prop
 | text (i:Int):0≤i→i≤60→FK 1 1 (.tup [.str "text",.int i])
 | choice (ws:List Str):eI ws=true→ox ws→FK 1 1 (.tup [.str "choice",.tup (ws.map Dt.str)])
 | number (i j:Int):-1000000000000000000000000000000≤i→i≤j→j≤1000000000000000000000000000000→FK 1 1 (.tup [.str "number",.int i,.int j])
 | list {a c:Nat} {k:Dt} {i:Int}:FK a c k→0≤i→i≤8→FK (a+1) (c+1) (.tup [.str "list",k,.int i])
 | rows {a c:Nat} {z:Str} {l:List Dt} {i:Int}:FK a c (.tup [.str "record",.tup l])→BE l z→0≤i→i≤8→FK (a+1) (c+1) (.tup [.str "rows",.str z,.tup [.str "record",.tup l],.int i])
 | rcd {gs:List G4}:(∀ g∈gs,FK g.2.2.1 g.2.2.2 g.2.1)→(gs.map (·.1)).Pairwise ltS→(∀ g∈gs,cu g.1=true∧g.1≠ "zzzzzzzz")→gs.length≤8→FK (ck (gs.map (·.2.2.1))+1) (eJ (gs.map (·.2.2.2))+1) (.tup [.str "record",.tup (gs.map prG)])
theorem FK.pos {a c:Nat} {d:Dt} (h:FK a c d):1≤a:=by cases h <;> lia
theorem eK {n:Nat}:∀ {l:List Nat},n∈l→n≤ck l
 | m :: l,h=>by
  show n≤max m (ck l);rcases aAp.mp h with rfl | h
  ·exact Nat.le_max_left _ _
  ·exact aAA (eK h) (Nat.le_max_right _ _)
theorem max_le {b:Nat}:∀ {l:List Nat},(∀ n∈l,n≤b)→ck l≤b
 | [],_=>aAx _
 | m :: l,h=>by
  show max m (ck l)≤b;exact Nat.max_le.mpr ⟨h m aAd,max_le fun n hn=>h n (aAi _ hn)⟩
theorem ye {n:Nat} (h:n≤1000):n≤sizeLine:=aAY (ak h)
theorem gF {l:List Str} (h:l.Pairwise ltS):l.Nodup:=List.Pairwise.imp (fun {a b} hab e=>by
 subst e;exact absurd hab (aCi _)) h
def aC (L:Str) (c:Nat):Bool:=decide (c∈L.cps.toList)
def bD (L:Str) (cs:List Nat):Nat:=(cs.takeWhile (aC L)).length
theorem mw (L:Str):∀ cs:List Nat,bD L cs≤cs.length
 | []=>aAl _
 | c :: cs=>by
  unfold bD;rw [aA0]
  split
  ·exact aB5 (mw L cs)
  ·exact aAx _
theorem u9 {L:Str}:∀ {cs:List Nat} {k:Nat},k < bD L cs→∃ c,cs[k]?=some c∧aC L c=true
 | [],k,h=>by simp [bD] at h
 | c :: cs,k,h=>by
  unfold bD at h;rw [aA0] at h
  split at h
  ·rename_i e
   cases k with
   | zero=>exact ⟨c,rfl,e⟩
   | succ k=>exact u9 (cs:=cs) (by unfold bD;simpa using h)
  ·simp at h
theorem run_end {L:Str}:∀ {cs:List Nat} {c:Nat},cs[bD L cs]?=some c→aC L c=false
 | [],c,h=>by simp at h
 | d :: cs,c,h=>by
  unfold bD at h;rw [aA0] at h
  split at h
  ·exact run_end (cs:=cs) (by unfold bD;simpa using h)
  ·rename_i e
   simp at h;subst h
   simpa using e
def qC (_:W.Frag) (_:Ads):Sp:=fun vs H Q _=>∃ (z L:Str) (n:Nat),vs=[.str z,.int n,.str L]∧n≤z.length∧z.length≤100000∧Q (.int (n+bD L (z.cps.toList.drop n):Nat)) H
theorem qD (T:Tx K mg ad) {f:Addr} {fd:FuncData} (F:Gn K mg "run_end" iE ["text","at","letters"] f fd):FnOk P w K mg base CX0 1 f fd ["text","at","letters"] (qC K ad):=by
 refine F.F.ok gr (fun vs H Q E h=>?_) (fun cdv A outer s H vs Q E hr h=>?_)
 ·obtain ⟨z,L,n,rfl,_⟩:=h
  rfl
 obtain ⟨z,L,n,rfl,hn,hz,q⟩:=h;refine ⟨_,(@pss_cons _ _ _ _ _ (@ps_set _ _ 3 _ _ _ _ gr.nd rfl (Or.inl rfl) (pv 1) (by rfl) (.inl rfl)) (@pss_cons _ _ _ _ _ (jn PassesOwn.never (PW.pt (@pw_and _ _ _ _ _ _ _ (pt_cmpR fM (pv 3) (pe_callB call_len_str rfl T.z_len boot_len (@pa1 _ _ _ (pv 0) (by rfl))) (nomark _)) (@pw_and1 _ _ _ _ (pt_cmpR op_in_str (@pe_ix _ _ _ _ _ _ _ ix_str (pv 0) (pv 3) (fun _ _=>rfl)) (pv 2) rfl))))
    (@pss_one _ _ _ (pU (i:=3) gr.nd rfl (Or.inl rfl) pe_int ip_add))) (@pss_one _ _ _ (@ps_ret _ _ _ _ (pv 3))))),?_⟩
 have rl:=mw L (z.cps.toList.drop n);rw [aAJ,aq] at rl;refine ⟨_,rfl,fun m σ H'=>H'=H∧∃ k:Nat,k≤bD L (z.cps.toList.drop n)∧m=bD L (z.cps.toList.drop n) - k∧σ=[some (.str z),some (.int n),some (.str L),some (.int (n+k:Nat))],⟨_,rfl,0,aAx _,rfl,rfl⟩,?_⟩;rintro m σ H' ⟨rfl,k,hk,rfl,rfl⟩;refine ⟨_,rfl,_,rfl,z,rfl,eH hz,_,_,rfl,rfl,_,rfl,aK (fun c=>?_) (fun c=>?_)⟩
 ·have hlt:n+k < z.length:=by have:=of_decide_eq_true c;lia
  obtain ⟨ch,hch⟩:∃ ch,z.cps.toList[n+k]?=some ch:=⟨_,aAm (by rw [aq];exact hlt)⟩;have hd:(z.cps.toList.drop n)[k]?=some ch:=by rw [List.getElem?_drop];exact hch
  refine ⟨_,rfl,_,rfl,z,_,ch,rfl,rfl,eH hz,ow hch,_,rfl,_,_,rfl,rfl,_,rfl,?_⟩;rw [StrLaws.found_one]
  by_cases hlt':k < bD L (z.cps.toList.drop n)
  ·obtain ⟨c',h1,h2⟩:=u9 hlt';rw [hd] at h1;obtain rfl:=Option.some.inj h1;rw [show decide (ch∈L.cps.toList)=true from h2];refine aL ⟨fun σ' H2=>H2=H'∧σ'=[some (.str z),some (.int n),some (.str L),some (.int (n+(k+1):Nat))],fun σ' H2 p=>⟨_,(by lia:bD L (z.cps.toList.drop n) - (k+1) < _),p.1,k+1,hlt',rfl,p.2⟩,_,rfl,_,_,rfl,rfl,rfl,?_⟩;simp only [List.set_cons_succ,List.set_cons_zero];rw [show ((n+k:Nat):Int)+1=((n+(k+1):Nat):Int) by lia]
  ·have e:k=bD L (z.cps.toList.drop n):=by lia
   subst e;rw [show decide (ch∈L.cps.toList)=false from run_end hd];exact aH ⟨_,rfl,q⟩
 ·have e:k=bD L (z.cps.toList.drop n):=by
   have c':¬ (((n+k:Nat):Int) < (z.length:Int)):=fun h=>c (decide_eq_true h);lia
  subst e;exact ⟨_,rfl,q⟩
abbrev letS:Str:= "abcdefghijklmnopqrstuvwxyz"
abbrev figS:Str:= "0123456789"
def cw:List Nat→Option Nat
 | []=>none
 | c :: r=>if c=34 then (r.findIdx? (· == 34)).map (· + 2) else if aC letS c=true then some (bD letS (c :: r)) else if c=45∨aC figS c=true then some (1+bD figS r) else some 1
theorem gG (c d:Nat):decide (V.str ⟨#[c]⟩=V.str ⟨#[d]⟩)=decide (c=d):=by
 rw [decide_eq_decide];exact ⟨fun h=>by injection h with h;injection h with h;simpa using h,fun h=>by rw [h]⟩
theorem va:(Str.ofString "\"")=⟨#[34]⟩:=by decide +kernel
theorem vb:(Str.ofString "-")=⟨#[45]⟩:=by decide +kernel
theorem yf:(Str.ofString " ")=⟨#[32]⟩:=by decide +kernel
def oy (_:W.Frag) (ad:Ads):Sp:=fun vs H Q E=>∃ (z:Str) (n:Nat),vs=[.str z,.int n]∧n < z.length∧z.length≤100000 ∧
 (∀ k,cw (z.cps.toList.drop n)=some k→Q (.int (n+k:Nat)) H)∧(cw (z.cps.toList.drop n)=none→∀ H',Same H H'→E (.ref ad.BadText) none H')
theorem BF (z:Str) (n:Nat):u5 z ⟨#[34]⟩ ((n:Int)+1)=match (z.cps.toList.drop (n+1)).findIdx? (· == 34) with | some i=>((n+1+i:Nat):Int) | none=>-1:=by
 unfold u5;have e:fromIndex z.length ((n:Int)+1)=n+1:=by
  unfold fromIndex;rw [if_neg (by lia)];lia
 rw [e,StrLaws.occ_one]
 cases (z.cps.toList.drop (n+1)).findIdx? (· == 34) <;> rfl
theorem oz (T:Tx K mg ad) {f:Addr} {fd:FuncData} (F:Gn K mg "word_end" gn ["text","at"] f fd):FnOk P w K mg base (CXE P w) 2 f fd ["text","at"] (oy K ad):=by
 obtain ⟨_,_,JW⟩:=T.run_end;have Kn:=qD (P:=P) (w:=w) (base:=base) T JW;obtain ⟨t_QUOTE,c_QUOTE⟩:=T.QUOTE;obtain ⟨t_LETTERS,c_LETTERS⟩:=T.LETTERS;obtain ⟨t_MINUS,c_MINUS⟩:=T.MINUS;obtain ⟨t_FIGURES,c_FIGURES⟩:=T.FIGURES;refine F.F.okW iR (fun vs H Q E h=>?_) (fun cdv A outer s H vs Q E hr h=>?_)
 ·obtain ⟨z,n,rfl,_⟩:=h
  rfl
 obtain ⟨z,n,rfl,hn,hz,q1,q2⟩:=h;refine ⟨_,(@pss_cons _ _ _ _ _ (@ps_if _ _ _ _ _ _ _ _ (pt_cmpR op_eq (@pe_ix _ _ _ _ _ _ _ ix_str (pv 0) (pv 1) (fun _ _=>rfl)) (aW rfl c_QUOTE) (nomark _)) (@pss_cons _ _ _ _ _ (@ps_set _ _ 2 _ _ _ _ iR.nd rfl (Or.inl rfl) (pe_bm PySem.F.plainAttrs_str PySem.F.slot_str_find PySem.F.type_str_find u6 (pv 0) (@pa2 _ _ _ _ _ (aW rfl c_QUOTE) (@pe_op _ _ _ _ _ _ _ _ aB (pv 1) pe_int) (by rfl) (by rfl))) (by rfl) (.inl rfl)) (@pss_cons _ _ _ _ _ (@ps_if _ _ _ _ _ _ _ _ (pt_cmpR fM (pv 2) pe_int (nomark _)) (@pss_one _ _ _ (ps_raiseW rfl rfl rfl rfl T.x_BadText rfl (@pa1 _ _ _ pe_str (by rfl)))) pss_nil) (@pss_one _ _ _ (@ps_ret _ _ _ _ (@pe_op _ _ _ _ _ _ _ _ aB (pv 2) pe_int))))) pss_nil) (@pss_cons _ _ _ _ _ (@ps_if _ _ _ _ _ _ _ _ (pt_cmpR op_in_str (@pe_ix _ _ _ _ _ _ _ ix_str (pv 0) (pv 1) (fun _ _=>rfl)) (aW rfl c_LETTERS) rfl) (@pss_one _ _ _ (@ps_ret _ _ _ _ (pcl JW Kn (hr.mono (by lia)) rfl (@pa3 _ _ _ _ _ _ _ (pv 0) (pv 1) (aW rfl c_LETTERS) (by rfl) (by rfl) (by rfl))))) pss_nil) (@pss_cons _ _ _ _ _ (@ps_if _ _ _ _ _ _ _ _ (PW.pt (@gu _ _ _ _ _ _ _ (pt_cmpR op_eq (@pe_ix _ _ _ _ _ _ _ ix_str (pv 0) (pv 1) (fun _ _=>rfl)) (aW rfl c_MINUS) (nomark _)) (@pw_or1 _ _ _ _ (pt_cmpR op_in_str (@pe_ix _ _ _ _ _ _ _ ix_str (pv 0) (pv 1) (fun _ _=>rfl)) (aW rfl c_FIGURES) rfl)))) (@pss_one _ _ _ (@ps_ret _ _ _ _ (pcl JW Kn (hr.mono (by lia)) rfl (@pa3 _ _ _ _ _ _ _ (pv 0) (@pe_op _ _ _ _ _ _ _ _ aB (pv 1) pe_int) (aW rfl c_FIGURES) (by rfl) (by rfl) (by rfl))))) pss_nil) (@pss_one _ _ _ (@ps_ret _ _ _ _ (@pe_op _ _ _ _ _ _ _ _ aB (pv 1) pe_int)))))),?_⟩;obtain ⟨ch,hch⟩:∃ ch,z.cps.toList[n]?=some ch:=⟨_,aAm (by rw [aq];exact hn)⟩;have hd:z.cps.toList.drop n=ch :: z.cps.toList.drop (n+1):=by
  obtain ⟨h1,h2⟩:=aAc.mp hch;rw [aA6 h1,h2]
 rw [hd] at q1 q2;simp only [cw] at q1 q2;refine ⟨_,rfl,_,rfl,z,_,ch,rfl,rfl,eH hz,ow hch,?_⟩;refine ⟨rfl,_,rfl,?_⟩;rw [va,gG];refine aK (fun c=>?_) (fun c=>?_)
 ·have c':=of_decide_eq_true c;rw [if_pos c'] at q1 q2;refine ⟨_,rfl,rfl,_,rfl,_,_,rfl,rfl,_,_,_,rfl,rfl,?_⟩;rw [BF]
  cases hf:(z.cps.toList.drop (n+1)).findIdx? (· == 34) with
  | none =>
   rw [hf] at q2;dsimp only;refine ⟨_,rfl,_,_,rfl,rfl,_,rfl,aK (fun _=>?_) (fun c=>absurd (show decide ((-1:Int) < 0)=true by decide) c)⟩;exact ⟨sz1,q2 rfl H (Same.refl H)⟩
  | some i =>
   rw [hf] at q1;dsimp only;refine ⟨_,rfl,_,_,rfl,rfl,_,rfl,aK (fun c=>absurd (of_decide_eq_true c) (Int.not_lt.mpr (Int.natCast_nonneg _))) (fun _=>?_)⟩;refine ⟨_,rfl,_,_,rfl,rfl,?_⟩;have:=q1 (i+2) rfl;rw [show ((n+1+i:Nat):Int)+1=((n+(i+2):Nat):Int) by lia];exact this
 have c':¬ ch=34:=fun h=>c (decide_eq_true h);rw [if_neg c'] at q1 q2;refine ⟨_,rfl,_,rfl,z,_,ch,rfl,rfl,eH hz,ow hch,_,_,rfl,rfl,_,rfl,?_⟩;rw [StrLaws.found_one];refine aK (fun c=>?_) (fun c=>?_)
 ·have c2:aC letS ch=true:=c;rw [if_pos c2] at q1;have:=q1 _ rfl;rw [← hd] at this;exact ⟨_,rfl,_,rfl,z,letS,n,rfl,by lia,hz,this⟩
 have c2:¬ aC letS ch=true:=c;rw [if_neg c2] at q1 q2;refine ⟨_,rfl,_,rfl,z,_,ch,rfl,rfl,eH hz,ow hch,rfl,_,rfl,?_⟩;rw [vb,gG];have run:(ch=45∨aC figS ch=true)→Q (.int (n+(1+bD figS (z.cps.toList.drop (n+1))):Nat)) H:=fun h=>by
  rw [if_pos h] at q1;exact q1 _ rfl
 have call:∀ {Q':Prop},((Q (.int (n+1+bD figS (z.cps.toList.drop (n+1)):Nat)) H)→Q')→(ch=45∨aC figS ch=true)→Q':=fun f h=>f (by
  rw [show n+1+bD figS (z.cps.toList.drop (n+1))=n+(1+bD figS (z.cps.toList.drop (n+1))) by lia];exact run h)
 refine aK (fun c3=>?_) (fun c3=>?_)
 ·refine aL ⟨_,rfl,_,rfl,_,_,rfl,rfl,z,figS,n+1,(by rw [aBI];rfl),by lia,hz,call id (.inl (of_decide_eq_true c3))⟩
 ·refine ⟨_,rfl,_,rfl,z,_,ch,rfl,rfl,eH hz,ow hch,_,_,rfl,rfl,_,rfl,?_⟩;rw [StrLaws.found_one];refine aK (fun c4=>?_) (fun c4=>?_)
  ·exact ⟨_,rfl,_,rfl,_,_,rfl,rfl,z,figS,n+1,(by rw [aBI];rfl),by lia,hz,call id (.inr c4)⟩
  ·rw [if_neg (fun h=>h.elim (fun h=>c3 (decide_eq_true h)) (fun h=>c4 h))] at q1;refine ⟨_,rfl,_,_,rfl,rfl,?_⟩;exact q1 1 rfl
abbrev figs:Str:= "0123456789"
def inF (c:Nat):Bool:=!(Builtin.Str.occurrences figs ⟨#[c]⟩ 0 figs.length 1).isEmpty
def eL (c:Nat):Bool:=decide (48≤c∧c≤57)
theorem rj (c:Nat):inF c=eL c:=by
 unfold inF eL;rw [StrLaws.found_one,show figs.cps.toList=[48,49,50,51,52,53,54,55,56,57] by decide +kernel,decide_eq_decide];refine ⟨fun h=>?_,fun h=>?_⟩
 ·revert c
  decide
 ·obtain ⟨k,rfl⟩:=Nat.exists_eq_add_of_le h.1;have h2:k < 10:=by lia
  clear h
  revert k
  decide
def aD (cs:List Nat):List Nat:=if cs.head?=some 45 then cs.drop 1 else cs
def cG (cs:List Nat):Option Int :=
 if aD cs=[] then none else if (aD cs).all eL=false then none
 else if (aD cs).head?=some 48∧cs≠[48] then none
 else some (if cs.head?=some 45 then -(NumText.digitsVal (aD cs):Int) else (NumText.digitsVal (aD cs):Int))
def IL:Option Int→V
 | none=>.non
 | some i=>.int i
def jF (m:Int):Str:=Str.ofString (toString m)
def my (_:W.Frag) (_:Ads):Sp:=fun vs H Q _=>∃ z:Str,vs=[.str z]∧z.length≤100∧∀ H',Same H H'→Q (IL (cG z.cps.toList)) H'
theorem qE {n:Nat} (h:n≤1000):n≤sizeLine:=aAY (ak h)
theorem vc:("-" : Str)=⟨#[45]⟩:=by decide +kernel
theorem lD:("0" : Str)=⟨#[48]⟩:=by decide +kernel
theorem BG:("" : Str)=⟨#[]⟩:=by decide +kernel
theorem vd (z:Str):decide (V.str z=V.str "")=decide (z.cps.toList=[]):=by
 rw [BG,decide_eq_decide];exact ⟨fun h=>by injection h with h;rw [h],fun h=>congrArg V.str (cv h)⟩
theorem lE (z:Str):decide (V.str z=V.str "0")=decide (z.cps.toList=[48]):=by
 rw [lD,decide_eq_decide];exact ⟨fun h=>by injection h with h;rw [h],fun h=>congrArg V.str (cv h)⟩
theorem mz (z:Str):Txt.startswith z "-" = decide (z.cps.toList.head?=some 45):=by rw [vc];exact jB z 45
theorem fP (z:Str):Txt.startswith z "0" = decide (z.cps.toList.head?=some 48):=by rw [lD];exact jB z 48
theorem ve {z:Str} {c:Nat} (h:z.cps.toList.head?=some c):1≤z.length:=by
 rw [← aq]
 cases e:z.cps.toList with
 | nil=>rw [e] at h;cases h
 | cons a l=>simp
theorem tz {z:Str} (h:z.cps.toList.head?=some 45):(Txt.slice z (some 1) none).cps.toList=aD z.cps.toList:=by
 rw [qv (ve h)];unfold aD;rw [if_pos h]
theorem oA (cs:List Nat):cs.all inF=cs.all eL:=by rw [show inF=eL from funext rj]
theorem rm (cs:List Nat):(aD cs).length≤cs.length:=by
 unfold aD
 split
 ·rw [aAJ];lia
 ·exact aAl _
theorem tF {cs:List Nat} (h:cs.all eL=true):NumText.AllDigits cs:=fun c hc=>of_decide_eq_true (aAC.mp h c hc)
theorem oB {z:Str} (hz:z.length≤100) (h1:aD z.cps.toList≠[]) (h2:(aD z.cps.toList).all eL=true) (h3:¬ ((aD z.cps.toList).head?=some 48∧z.cps.toList≠[48])):∃ n,intText? z=some n∧cG z.cps.toList=some n:=by
 unfold cG;rw [if_neg h1,if_neg (by rw [h2];exact Bool.noConfusion),if_neg h3];have hd:=tF h2
 by_cases hm:z.cps.toList.head?=some 45
 ·rw [if_pos hm];have ef:aD z.cps.toList=z.cps.toList.drop 1:=by unfold aD;rw [if_pos hm]
  have e:z.cps.toList=45 :: aD z.cps.toList:=by
   rw [ef]
   cases e:z.cps.toList with
   | nil=>rw [e] at hm;cases hm
   | cons a l=>rw [e] at hm;injection hm with hm;subst hm;rfl
  exact ⟨_,intText_neg e hd h1 (by lia),rfl⟩
 ·rw [if_neg hm];have ef:aD z.cps.toList=z.cps.toList:=by unfold aD;rw [if_neg hm]
  rw [ef] at hd h1 ⊢;exact ⟨_,intText_digits hd h1 (by lia),rfl⟩
theorem gH (m:Int):(jF m).cps.toList=dG m:=str_int m
theorem xA (m:Int):cG (dG m)=some m:=by
 have hd:(dg m.natAbs).all eL=true:=aAC.mpr fun c hc=>decide_eq_true (c8 _ c hc)
 by_cases h:m < 0
 ·have e:dG m=45 :: dg m.natAbs:=by unfold dG;rw [if_pos h]
  have ef:aD (dG m)=dg m.natAbs:=by rw [e];rfl
  obtain ⟨c,r,eh,hc⟩:=rf m.natAbs (by lia);unfold cG;rw [ef,if_neg (uR _),if_neg (by rw [hd];exact Bool.noConfusion),if_neg (by
   rintro ⟨a,_⟩;rw [eh] at a;injection a with a
   lia),uS,e]
  show some (if (45 :: dg m.natAbs).head?=some 45 then -(m.natAbs:Int) else (m.natAbs:Int))=some m;rw [if_pos (show (45 :: dg m.natAbs).head?=some 45 from rfl)]
  congr 1
  lia
 ·have e:dG m=dg m.natAbs:=by unfold dG;rw [if_neg h]
  have hh:(dg m.natAbs).head?≠some 45:=by
   intro z;have:45∈dg m.natAbs:=List.mem_of_head? z;have:=c8 _ _ this;lia
  have ef:aD (dG m)=dg m.natAbs:=by rw [e];unfold aD;rw [if_neg hh]
  unfold cG;rw [ef,if_neg (uR _),if_neg (by rw [hd];exact Bool.noConfusion),if_neg (by
   rintro ⟨a,b⟩
   by_cases h0:m.natAbs=0
   ·rw [e,h0] at b;exact b (eC (by decide))
   ·obtain ⟨c,r,eh,hc⟩:=rf m.natAbs (by lia);rw [eh] at a;injection a with a
    lia),uS,e,if_neg hh]
  congr 1
  lia
theorem rn {K:W.Frag} {H:Hp} {l:Addr} {z:Str} {R:Hp→Prop} {nm:L2.St} (hl:H l=none) (hz:z.length≤sizeLine) (q:∀ H',Same H H'→SqL K H' l (bls (z.cps.toList.map inF))→R H')
  (hn:nm=[none]):∃ W:Nat→Nat→List V→L2.St→Hp→Prop,(∃ m,W 0 m [] nm (upd H l (.lst [])))∧∀ i m ys σ' H',W i m ys σ' H'→((Its z).stop i H'∧R H') ∨
   ((Its z).go i H'∧∀ x H'',(Its z).yld i H' x H''→jm 0 x σ' H'' fun σ2 H2=>cEl (tOp (fun x y H Q=>∃ i j,x=.str i∧y=.str j∧Q (.bl (!(Builtin.Str.occurrences j i 0 j.length 1).isEmpty)) H) (sw 0) (tC (.str figs))) ys l σ2 H2 fun ys' σ3 H3=>∃ m',m' < m∧W (i+1) m' ys' σ3 H3):=by
 subst hn;refine nQ (Q:=fun _ H'=>R H') (fun i ys σ H'=>ys=bls ((z.cps.toList.take i).map inF)∧H'=upd H l (.lst ys)∧σ.length=1) ⟨rfl,rfl,rfl⟩ ?_ ?_
 ·rintro i c ys σ H1 N hc ⟨rfl,rfl,hσ⟩ next;have hc':z.cps.toList[i]?=some c:=by rw [aBE];exact hc
  have hi:i < z.cps.toList.length:=(aAc.mp hc').1;have hlen:(bls ((z.cps.toList.take i).map inF)).length < sizeLine:=by
   have:z.length=z.cps.toList.length:=by simp [Str.length]
   simp only [bls,aAa,aAz];lia
  match σ,hσ with
  | [_],_ =>
   refine ⟨.str ⟨#[c]⟩,rfl,_,_,rfl,rfl,ac,hlen,next _ _ _ ⟨?_,wn,rfl⟩⟩;show bls ((z.cps.toList.take i).map inF)++[V.bl (inF c)]=bls ((z.cps.toList.take (i+1)).map inF);unfold bls;rw [aAL,aAL];exact ic (V.bl ∘ inF) hc'
 ·rintro ys σ H1 ⟨rfl,rfl,hσ⟩;refine q _ (aj hl _) (SqL.of ?_);rw [ac];have:z.cps.toList.take z.cps.size=z.cps.toList:=aAM (by simp);rw [this]
theorem jG {c:Prop} [Decidable c] (h:(!decide c)=true):¬ c:=by simpa using h
theorem jH {c:Prop} [Decidable c] (h:¬ (!decide c)=true):c:=by simpa using h
theorem mB (T:Tx K mg ad) {f:Addr} {fd:FuncData} (F:Gn K mg "number_of" eW ["text"] f fd):FnOk P w K mg base CX0 1 f fd ["text"] (my K ad):=by
 obtain ⟨t_FIGURES,c_FIGURES⟩:=T.FIGURES;refine F.F.ok gO (fun vs H Q E h=>?_) (fun cdv A outer s H vs Q E hr h=>?_)
 ·obtain ⟨z,rfl,_⟩:=h
  rfl
 obtain ⟨z,rfl,hz,q⟩:=h;refine ⟨_,(@pss_cons _ _ _ _ _ (@ps_set _ _ 1 _ _ _ _ gO.nd rfl (Or.inl rfl) (jl (@pt_val _ _ _ (pe_bm PySem.F.plainAttrs_str PySem.F.slot_str_startswith PySem.F.type_str_startswith mt_starts (pv 0) (@pa1 _ _ _ pe_str (by rfl))) (by intro _;rfl)) (pe_slice sl_str (pv 0) (po_some pe_int) dB) (pv 0)) (by rfl) (.inl rfl)) (@pss_cons _ _ _ _ _ (@ps_if _ _ _ _ _ _ _ _ (PW.pt (@gu _ _ _ _ _ _ _ (pt_cmpR op_eq (pv 1) pe_str (nomark _)) (@pw_or1 _ _ _ _ (@pt_not _ _ _ _ (@pt_val _ _ _ (pe_callB (call_allN (K:=K) rfl rfl) rfl T.z_all boot_all (@pa1 _ _ _ (pe_comp rfl (cs0 (NL:=["figure"]) rfl (by decide +kernel) (by decide +kernel)) (qm (pv 1)) (fun _ _ _ _=>(ao (i:=0) (show List.Nodup (α:=Str) ["figure"] by decide +kernel) rfl (Or.inl rfl))) (fun _ _ _ _=>(pe_cmpR op_in_str (pv 0) (aW rfl c_FIGURES) rfl))) (by rfl))) (by intro _;rfl)))))) (@pss_one _ _ _ (@ps_ret _ _ _ _ pe_non)) pss_nil) (@pss_cons _ _ _ _ _ (@ps_if _ _ _ _ _ _ _ _ (PW.pt (@pw_and _ _ _ _ _ _ _ (@pt_val _ _ _ (pe_bm PySem.F.plainAttrs_str PySem.F.slot_str_startswith PySem.F.type_str_startswith mt_starts (pv 1) (@pa1 _ _ _ pe_str (by rfl))) (by intro _;rfl)) (@pw_and1 _ _ _ _ (pt_cmpR op_ne (pv 0) pe_str (nomark _))))) (@pss_one _ _ _ (@ps_ret _ _ _ _ pe_non)) pss_nil) (@pss_one _ _ _ (@ps_ret _ _ _ _ (pe_callTy call_int_text rfl T.z_int boot_int (@pa1 _ _ _ (pv 0) (by rfl)))))))),?_⟩;refine ⟨_,rfl,rfl,_,_,rfl,rfl,_,rfl,?_⟩;rw [mz];refine aK (fun c1=>?_) (fun c1=>?_)
 ·have eF:=tz (of_decide_eq_true c1);refine ⟨_,rfl,_,rfl,z,rfl,qE (by lia),?_⟩;have lF:=aq (Txt.slice z (some 1) none);rw [eF] at lF;refine ⟨_,rfl,rfl,_,rfl,?_⟩;rw [vd];have fl:=rm z.cps.toList;rw [aq] at fl;refine aK (fun c2=>?_) (fun c2=>?_)
  ·have e:cG z.cps.toList=none:=by unfold cG;rw [if_pos (eF.symm.trans (of_decide_eq_true c2))]
   refine aL ?_;rw [e] at q;exact q H (Same.refl H)
  have n2:aD z.cps.toList≠[]:=fun y=>c2 (decide_eq_true (eF.trans y));refine ⟨_,rfl,_,rfl,fun l hl=>rn (K:=K) hl (qE (by lia)) (fun H1 g1 s1=>⟨l,_,rfl,rfl,s1,_,rfl,?_⟩) rfl⟩;rw [aBl,show (id ∘ inF)=inF from rfl,eF,oA]
  cases hall:(aD z.cps.toList).all eL with
  | false =>
   have e:cG z.cps.toList=none:=by unfold cG;rw [if_neg n2,if_pos hall]
   refine aL ?_;rw [e] at q;exact q H1 g1
  | true =>
  refine aH ?_;refine ⟨_,rfl,rfl,_,_,rfl,rfl,_,rfl,?_⟩;rw [fP];have due:¬ ((aD z.cps.toList).head?=some 48∧z.cps.toList≠[48])→∃ n,intText? z=some n∧cG z.cps.toList=some n:=oB hz n2 hall;refine aK (fun c3=>?_) (fun c3=>?_)
  ·have c3':=(congrArg List.head? eF).symm.trans (of_decide_eq_true c3);refine ⟨_,rfl,rfl,_,rfl,?_⟩;rw [lE];refine aK (fun c4=>?_) (fun c4=>?_)
   ·have e:cG z.cps.toList=none:=by unfold cG;rw [if_neg n2,if_neg (by rw [hall];exact Bool.noConfusion),if_pos ⟨c3',jG c4⟩]
    rw [e] at q;exact q H1 g1
   ·obtain ⟨n,e1,e2⟩:=due (fun y=>y.2 (jH c4));rw [e2] at q;exact ⟨_,rfl,z,n,rfl,e1,by lia,q H1 g1⟩
  ·obtain ⟨n,e1,e2⟩:=due (fun y=>c3 (decide_eq_true ((congrArg List.head? eF).trans y.1)));rw [e2] at q;exact ⟨_,rfl,z,n,rfl,e1,by lia,q H1 g1⟩
 ·have eF:z.cps.toList=aD z.cps.toList:=by
   unfold aD;rw [if_neg (fun y=>c1 (decide_eq_true y))]
  have lF:=aq z;have lF:(aD z.cps.toList).length=z.length:=eF ▸ lF;refine ⟨_,rfl,?_⟩;refine ⟨_,rfl,rfl,_,rfl,?_⟩;rw [vd];have fl:=rm z.cps.toList;rw [aq] at fl;refine aK (fun c2=>?_) (fun c2=>?_)
  ·have e:cG z.cps.toList=none:=by unfold cG;rw [if_pos (eF.symm.trans (of_decide_eq_true c2))]
   refine aL ?_;rw [e] at q;exact q H (Same.refl H)
  have n2:aD z.cps.toList≠[]:=fun y=>c2 (decide_eq_true (eF.trans y));refine ⟨_,rfl,_,rfl,fun l hl=>rn (K:=K) hl (qE (by lia)) (fun H1 g1 s1=>⟨l,_,rfl,rfl,s1,_,rfl,?_⟩) rfl⟩;rw [aBl,show (id ∘ inF)=inF from rfl,eF,oA]
  cases hall:(aD z.cps.toList).all eL with
  | false =>
   have e:cG z.cps.toList=none:=by unfold cG;rw [if_neg n2,if_pos hall]
   refine aL ?_;rw [e] at q;exact q H1 g1
  | true =>
  refine aH ?_;refine ⟨_,rfl,rfl,_,_,rfl,rfl,_,rfl,?_⟩;rw [fP];have due:¬ ((aD z.cps.toList).head?=some 48∧z.cps.toList≠[48])→∃ n,intText? z=some n∧cG z.cps.toList=some n:=oB hz n2 hall;refine aK (fun c3=>?_) (fun c3=>?_)
  ·have c3':=(congrArg List.head? eF).symm.trans (of_decide_eq_true c3);refine ⟨_,rfl,rfl,_,rfl,?_⟩;rw [lE];refine aK (fun c4=>?_) (fun c4=>?_)
   ·have e:cG z.cps.toList=none:=by unfold cG;rw [if_neg n2,if_neg (by rw [hall];exact Bool.noConfusion),if_pos ⟨c3',jG c4⟩]
    rw [e] at q;exact q H1 g1
   ·obtain ⟨n,e1,e2⟩:=due (fun y=>y.2 (jH c4));rw [e2] at q;exact ⟨_,rfl,z,n,rfl,e1,by lia,q H1 g1⟩
  ·obtain ⟨n,e1,e2⟩:=due (fun y=>c3 (decide_eq_true ((congrArg List.head? eF).trans y.1)));rw [e2] at q;exact ⟨_,rfl,z,n,rfl,e1,by lia,q H1 g1⟩
def okC (c:Nat):Bool:=decide (32≤c) && decide (c≤126) && !decide (c=34) && !decide (c=37)
def qF (_:W.Frag) (_:Ads):Sp:=fun vs H Q _=>∃ c:Nat,vs=[.str ⟨#[c]⟩]∧Q (.bl (okC c)) H
theorem vf (a b:Nat):decide (([a]:List Nat) < [b])=decide (a < b):=by
 rw [decide_eq_decide,List.cons_lt_cons_iff];exact ⟨fun h=>h.elim id (fun h=>absurd h.2 (aCi _)),.inl⟩
theorem Hz:(Str.ofString "~")=⟨#[126]⟩:=by decide +kernel
theorem jI (T:Tx K mg ad) {f:Addr} {fd:FuncData} (F:Gn K mg "is_sign" iD ["letter"] f fd):FnOk P w K mg base CX0 1 f fd ["letter"] (qF K ad):=by
 obtain ⟨t_PERCENT,c_PERCENT⟩:=T.PERCENT;refine F.F.ok qT (fun vs H Q E h=>?_) (fun cdv A outer s H vs Q E hr h=>?_)
 ·obtain ⟨c,rfl,_⟩:=h
  rfl
 obtain ⟨c,rfl,q⟩:=h;refine ⟨_,(@pss_one _ _ _ (@ps_ret _ _ _ _ (pe_and (nu lq lq pe_str (pv 0) pe_str) (pe_and (pe_cmpR op_ne (pv 0) pe_str (nomark _)) (dr (pe_cmpR op_ne (pe_callB um rfl T.z_ord boot_ord (@pa1 _ _ _ (pv 0) (by rfl))) (ja rfl c_PERCENT) (nomark _))))))),?_⟩;refine ⟨_,rfl,_,_,rfl,rfl,_,rfl,?_⟩;rw [yf,show (!decide ((⟨#[c]⟩:Str).cps.toList < (⟨#[32]⟩:Str).cps.toList))=decide (32≤c) from by
  rw [show decide ((⟨#[c]⟩:Str).cps.toList < (⟨#[32]⟩:Str).cps.toList)=decide (c < 32) from vf c 32]
  by_cases h:c < 32 <;> simp [h] <;> lia]
 unfold okC at q;refine aK (fun c1=>?_) (fun c1=>?_)
 ·rw [c1] at q;refine ⟨_,_,rfl,rfl,?_⟩;rw [Hz,show (!decide ((⟨#[126]⟩:Str).cps.toList < (⟨#[c]⟩:Str).cps.toList))=decide (c≤126) from by
   rw [show decide ((⟨#[126]⟩:Str).cps.toList < (⟨#[c]⟩:Str).cps.toList)=decide (126 < c) from vf 126 c]
   by_cases h:c≤126 <;> simp [h] <;> lia]
  refine ⟨_,rfl,aK (fun c2=>?_) (fun c2=>?_)⟩
  ·rw [c2] at q;refine ⟨_,rfl,rfl,_,rfl,?_⟩;rw [va,gG];refine aK (fun c3=>?_) (fun c3=>?_)
   ·rw [c3] at q;refine ⟨_,rfl,_,rfl,rfl,rfl,?_⟩;rw [show decide (V.int ((⟨#[c]⟩:Str).cps.getD 0 0:Nat)=V.int 37)=decide (c=37) from by
     rw [decide_eq_decide];exact ⟨fun h=>by injection h with h;exact Int.ofNat.inj h,fun h=>by rw [h];rfl⟩]
    exact q
   ·rw [show (!decide (c=34))=false from by simpa using c3] at q;exact q
  ·rw [show decide (c≤126)=false from by simpa using c2] at q;exact q
 ·rw [show decide (32≤c)=false from by simpa using c1] at q;exact ⟨_,rfl,aH q⟩
abbrev marksS:Str:= "()[]{},:;/"
def mk2 (w:Str) (d:Dt):Dt:=.tup [.str w,d]
def bW (cs:List Nat):Str:=⟨cs.toArray⟩
theorem fu (z:Str):bW z.cps.toList=z:=by
 unfold bW;rw [aBJ]
def mkW (cs:List Nat):Option Dt :=
 if (!(Builtin.Str.occurrences marksS (bW cs) 0 marksS.length 1).isEmpty)=true then some (mk2 "mark" (.str (bW cs)))
 else if cs.head?=some 34∧((cs.drop 1).dropLast).all okC=true then some (mk2 "text" (.str (bW ((cs.drop 1).dropLast))))
 else if (∃ c,cs.head?=some c∧aC letS c=true)∧cs.length≤8 then some (mk2 "word" (.str (bW cs)))
 else if (cs.dropWhile (· == 45)).length≤60 then (cG cs).map fun n=>mk2 "number" (.int n) else none
open PySem.Builtin.Str in
theorem oC (z:Str) (h:1≤z.length):(Txt.slice z (some 1) (some (-1))).cps.toList=(z.cps.toList.drop 1).dropLast:=by
 have hl:=aq z
 by_cases h2:z.length=1
 ·obtain ⟨⟨l⟩⟩:=z
  match l,hl,h2 with
  | [c],_,_=>rfl
  | [],a,b=>cases b
  | c :: d :: l,a,b=>simp [Str.length] at b
 ·have e:Txt.slice z (some 1) (some (-1))=Txt.slice z (some 1) (some ((z.length:Int) - 1)):=by
   have e0:strSliceIndices (some 1) (some (-1)) 1 z.length=strSliceIndices (some 1) (some ((z.length:Int) - 1)) 1 z.length:=by
    simp only [strSliceIndices];rw [if_neg (show ¬ ((z.length:Int) - 1 < 0) by lia),if_pos (show (-1:Int) < 0 by decide),show (-1:Int)+(z.length:Int)=(z.length:Int) - 1 by lia]
   unfold Txt.slice;rw [e0]
  rw [e,eq_of_beq (slice_closesL (x:=z) (i:=1) (j:=(z.length:Int) - 1) (by decide) (by lia) (by lia))];show List.take _ _=_;rw [List.dropLast_eq_take,aAJ,hl]
  congr 1
  lia
theorem jJ (z:Str):(Txt.lstripChars z ⟨#[45]⟩).length=(z.cps.toList.dropWhile (· == 45)).length:=by
 unfold Txt.lstripChars;rw [PyProof.Rows.stripBy_eq];have e:(#[45]:Array Nat).contains=(fun c:Nat=>c == 45):=by
  funext c
  rw [aAX];simp
 have h:=congrArg List.length (List.takeWhile_append_dropWhile (p:=fun c:Nat=>c == 45) (l:=z.cps.toList));rw [aAk,aq] at h;show (z.cps.extract _ _).size=_;rw [Array.size_extract];unfold PySem.stripHi PySem.stripLo;simp only [if_true,aAH,if_false];have hs:z.cps.size=z.length:=rfl;show min (z.length) z.cps.size - (List.takeWhile (#[45]:Array Nat).contains z.cps.toList).length=_;rw [e,hs,aBH];lia
def mC (K:W.Frag) (ad:Ads):Sp:=fun vs H Q E=>∃ z:Str,vs=[.str z]∧1≤z.length∧z.length≤100000∧z.length≤(z.cps.toList.dropWhile (· == 45)).length+1 ∧
 (∀ d,mkW z.cps.toList=some d→∀ v H',Same H H'→IsP K H' d v→Q v H')∧(mkW z.cps.toList=none→∀ H',Same H H'→E (.ref ad.BadText) none H')
theorem mD (z:Str) (h:1≤z.length):(Txt.slice z (some 1) (some (-1))).length≤z.length:=by
 rw [← aq,oC z h,List.length_dropLast,aAJ,aq];lia
theorem mE (T:Tx K mg ad) {f:Addr} {fd:FuncData} (F:Gn K mg "made_word" eX ["text"] f fd):FnOk P w K mg base (CXE P w) 2 f fd ["text"] (mC K ad):=by
 obtain ⟨_,_,JE⟩:=T.is_sign;have JV:=jI (P:=P) (w:=w) (base:=base) T JE;obtain ⟨_,_,J5⟩:=T.number_of;have KB:=mB (P:=P) (w:=w) (base:=base) T J5;obtain ⟨t_MARKS,c_MARKS⟩:=T.MARKS;obtain ⟨t_QUOTE,c_QUOTE⟩:=T.QUOTE;obtain ⟨t_LETTERS,c_LETTERS⟩:=T.LETTERS;obtain ⟨t_LONGEST_NAME,c_LONGEST_NAME⟩:=T.LONGEST_NAME;obtain ⟨t_MOST_FIGURES,c_MOST_FIGURES⟩:=T.MOST_FIGURES;obtain ⟨t_MINUS,c_MINUS⟩:=T.MINUS;refine F.F.okW gP (fun vs H Q E h=>?_) (fun cdv A outer s H vs Q E hr h=>?_)
 ·obtain ⟨z,rfl,_⟩:=h
  rfl
 obtain ⟨z,rfl,h1,hz,hs,q1,q2⟩:=h;refine ⟨_,(@pss_cons _ _ _ _ _ (@ps_if _ _ _ _ _ _ _ _ (pt_cmpR op_in_str (pv 0) (aW rfl c_MARKS) rfl) (@pss_one _ _ _ (@ps_ret _ _ _ _ (@pe_tupPK _ K _ _ _ _ rfl (@pa2 _ _ _ _ _ pe_str (pv 0) (by rfl) (by rfl))))) pss_nil) (@pss_cons _ _ _ _ _ (@ps_if _ _ _ _ _ _ _ _ (PW.pt (@pw_and _ _ _ _ _ _ _ (pt_cmpR op_eq (@pe_ix _ _ _ _ _ _ _ ix_str (pv 0) pe_int (fun _ _=>rfl)) (aW rfl c_QUOTE) (nomark _)) (@pw_and1 _ _ _ _ (@pt_val _ _ _ (pe_callB (call_allN (K:=K) rfl rfl) rfl T.z_all boot_all (@pa1 _ _ _ (pe_comp rfl (cs0 (NL:=["letter"]) rfl (by decide +kernel) (by decide +kernel)) (qm (pe_slice sl_str (pv 0) (po_some pe_int) (po_some (@pe_un _ _ _ _ _ _ un_neg pe_int)))) (fun _ _ _ _=>(ao (i:=0) (show List.Nodup (α:=Str) ["letter"] by decide +kernel) rfl (Or.inl rfl))) (fun _ _ _ _=>(pcl JE JV (hr.mono (by lia)) rfl (@pa1 _ _ _ (pv 0) (by rfl))))) (by rfl))) (by intro _;rfl))))) (@pss_one _ _ _ (@ps_ret _ _ _ _ (@pe_tupPK _ K _ _ _ _ rfl (@pa2 _ _ _ _ _ pe_str (pe_slice sl_str (pv 0) (po_some pe_int) (po_some (@pe_un _ _ _ _ _ _ un_neg pe_int))) (by rfl) (by rfl))))) pss_nil) (@pss_cons _ _ _ _ _ (@ps_if _ _ _ _ _ _ _ _ (PW.pt (@pw_and _ _ _ _ _ _ _ (pt_cmpR op_in_str (@pe_ix _ _ _ _ _ _ _ ix_str (pv 0) pe_int (fun _ _=>rfl)) (aW rfl c_LETTERS) rfl) (@pw_and1 _ _ _ _ (pt_cmpR nn (pe_callB call_len_str rfl T.z_len boot_len (@pa1 _ _ _ (pv 0) (by rfl))) (ja rfl c_LONGEST_NAME) (nomark _))))) (@pss_one _ _ _ (@ps_ret _ _ _ _ (@pe_tupPK _ K _ _ _ _ rfl (@pa2 _ _ _ _ _ pe_str (pv 0) (by rfl) (by rfl))))) pss_nil) (@pss_cons _ _ _ _ _ (@ps_set _ _ 1 _ _ _ _ gP.nd rfl (Or.inl rfl) (jl (pt_cmpR nn (pe_callB call_len_str rfl T.z_len boot_len (@pa1 _ _ _ (pe_bm PySem.F.plainAttrs_str PySem.F.slot_str_lstrip PySem.F.type_str_lstrip qB (pv 0) (@pa1 _ _ _ (aW rfl c_MINUS) (by rfl))) (by rfl))) (ja rfl c_MOST_FIGURES) (nomark _)) (pcl J5 KB (hr.mono (by lia)) rfl (@pa1 _ _ _ (pv 0) (by rfl))) pe_non) (by rfl) (.inl rfl)) (@pss_cons _ _ _ _ _ (@ps_if _ _ _ _ _ _ _ _ (pt_cmpR Be (pv 1) pe_non (nomark _)) (@pss_one _ _ _ (ps_raiseW rfl rfl rfl rfl T.x_BadText rfl (@pa1 _ _ _ pe_str (by rfl)))) pss_nil) (@pss_one _ _ _ (@ps_ret _ _ _ _ (@pe_tupPK _ K _ _ _ _ rfl (@pa2 _ _ _ _ _ pe_str (pv 1) (by rfl) (by rfl)))))))))),?_⟩;obtain ⟨ch,hch⟩:∃ ch,z.cps.toList[0]?=some ch:=⟨_,aAm (by rw [aq];exact h1)⟩;have hh:z.cps.toList.head?=some ch:=by rw [List.head?_eq_getElem?];exact hch
 have tup:∀ {w:Str} {d:Dt} {x:V} {H1:Hp},mkW z.cps.toList=some (mk2 w d)→Same H H1→IsP K H1 d x→∃ l,IsPs K H1 l [.str w,x]∧([.str w,x]:List V).length≤sizeLine∧∀ v H',Same H1 H'→IsP K H' (.tup l) v→Q v H':=fun {w d x H1} e g hx=>⟨[.str w,d],.cons .str (.cons hx .nil),sz2,fun v H' g' hv=>q1 _ e v H' (g.trans g') hv⟩;refine ⟨_,rfl,_,_,rfl,rfl,_,rfl,aK (fun c=>?_) (fun c=>?_)⟩
 ·have e:mkW z.cps.toList=some (mk2 "mark" (.str z)):=by
   unfold mkW;rw [fu,if_pos c]
  obtain ⟨l,a1,a2,a3⟩:=tup e (Same.refl H) .str;exact ⟨_,rfl,l,a1,a2,a3⟩
 have m0:mkW z.cps.toList=(if z.cps.toList.head?=some 34∧((z.cps.toList.drop 1).dropLast).all okC=true then some (mk2 "text" (.str (bW ((z.cps.toList.drop 1).dropLast))))
   else if (∃ c,z.cps.toList.head?=some c∧aC letS c=true)∧z.cps.toList.length≤8 then some (mk2 "word" (.str (bW z.cps.toList)))
   else if (z.cps.toList.dropWhile (· == 45)).length≤60 then (cG z.cps.toList).map fun n=>mk2 "number" (.int n) else none):=by
  show (if _ then _ else _)=_;rw [fu,if_neg c]
 refine ⟨_,rfl,z,_,ch,rfl,rfl,eH hz,ow hch,rfl,_,rfl,?_⟩;rw [va,gG];have sl:=oC z h1;have sll:=mD z h1;refine aK (fun c3=>?A) (fun c3=>?B)
 case' A =>
  refine ⟨_,rfl,_,rfl,_,rfl,_,rfl,z,rfl,eH hz,_,rfl,fun l hl=>?_⟩;refine lm (z:=Txt.slice z (some 1) (some (-1))) (fun i ys σ H'=>ys=bls (((Txt.slice z (some 1) (some (-1))).cps.toList.take i).map okC)∧Same H H'∧H' l=some (.lst ys)∧σ.length=1) ⟨rfl,aj hl _,ac,rfl⟩ ?_ ?_
  ·rintro i c ys σ H1 N hc ⟨rfl,g1,f1,hσ⟩ next;have hc':(Txt.slice z (some 1) (some (-1))).cps.toList[i]?=some c:=by rw [aBE];exact hc
   have hi:=(aAc.mp hc').1
   match σ,hσ with
   | [_],_ =>
    refine ⟨_,rfl,c,rfl,f1,?_,next _ _ _ ⟨?_,a8 hl g1,ac,rfl⟩⟩
    ·simp only [bls,aAa,aAz];rw [aq] at hi ⊢;have:=eH hz;lia
    ·show bls _++[V.bl (okC c)]=bls _;unfold bls;rw [aAL,aAL];exact ic (V.bl ∘ okC) hc'
  rintro ys σ H1 ⟨rfl,g1,f1,hσ⟩;rw [aAM (by simp)] at f1;refine ⟨l,_,rfl,rfl,SqL.of f1,_,rfl,?_⟩;rw [aBl,show (id ∘ okC)=okC from rfl,sl];refine aK (fun c4=>?_) (fun c4=>?_)
  ·have e:mkW z.cps.toList=some (mk2 "text" (.str (Txt.slice z (some 1) (some (-1))))):=by
    rw [m0,if_pos ⟨by rw [hh,of_decide_eq_true c3],c4⟩,← sl,fu]
   obtain ⟨l,a1,a2,a3⟩:=tup e g1 .str;exact ⟨_,rfl,_,rfl,_,rfl,_,rfl,z,rfl,eH hz,l,a1,a2,a3⟩
  have nq:¬ (z.cps.toList.head?=some 34∧((z.cps.toList.drop 1).dropLast).all okC=true):=fun h=>c4 h.2
 case' B =>
  have g1:=Same.refl H;have nq:¬ (z.cps.toList.head?=some 34∧((z.cps.toList.drop 1).dropLast).all okC=true):=fun h=>c3 (decide_eq_true (Option.some.inj (hh.symm.trans h.1)))
 all_goals
  rw [if_neg nq] at m0;refine ⟨_,rfl,z,_,ch,rfl,rfl,eH hz,ow hch,_,_,rfl,rfl,_,rfl,?_⟩;rw [StrLaws.found_one];have lw:(∃ c,z.cps.toList.head?=some c∧aC letS c=true)↔aC letS ch=true:=⟨fun ⟨c,e1,e2⟩=>by rw [hh] at e1;cases e1;exact e2,fun e=>⟨ch,hh,e⟩⟩;refine aK (fun c5=>?_) (fun c5=>?_);refine ⟨_,rfl,z,rfl,eH hz,_,_,rfl,rfl,_,rfl,aK (fun c6=>?_) (fun c6=>?_)⟩
  ·have e:mkW z.cps.toList=some (mk2 "word" (.str z)):=by
    rw [m0,if_pos ⟨lw.mpr c5,by rw [aq];have:=of_decide_eq_true c6;lia⟩,fu]
   obtain ⟨l,a1,a2,a3⟩:=tup e g1 .str;exact ⟨_,rfl,l,a1,a2,a3⟩
  have nw:¬ ((∃ c,z.cps.toList.head?=some c∧aC letS c=true)∧z.cps.toList.length≤8):=fun h=>c6 (decide_eq_true (by have:=h.2;rw [aq] at this;lia))
  rotate_left
  have nw:¬ ((∃ c,z.cps.toList.head?=some c∧aC letS c=true)∧z.cps.toList.length≤8):=fun h=>c5 (lw.mp h.1)
  all_goals
   rw [if_neg nw] at m0;refine ⟨_,rfl,rfl,z,_,rfl,rfl,eH hz,_,rfl,?_,_,_,rfl,rfl,_,rfl,?_⟩
   ·rw [vb,jJ];have:=(List.dropWhile_sublist (l:=z.cps.toList) (fun c:Nat=>c == 45)).length_le;rw [aq] at this;exact eH (by lia)
   rw [vb,jJ];refine aK (fun c7=>?_) (fun c7=>?_)
   ·have c7':(z.cps.toList.dropWhile (· == 45)).length≤60:=by have:=of_decide_eq_true c7;lia
    rw [if_pos c7'] at m0;refine ⟨_,rfl,z,rfl,by lia,fun H2 g2=>?_⟩
    cases hn:cG z.cps.toList with
    | none =>
     rw [hn] at m0;exact ⟨_,rfl,rfl,_,rfl,fW ⟨sz1,q2 m0 H2 (g1.trans g2)⟩⟩
    | some n =>
     rw [hn] at m0;obtain ⟨l,a1,a2,a3⟩:=tup m0 (g1.trans g2) .int;exact ⟨_,rfl,rfl,_,rfl,dh (fun c=>by cases c) ⟨_,rfl,l,a1,a2,a3⟩⟩
   ·rw [if_neg (fun h=>c7 (decide_eq_true (by lia)))] at m0;exact ⟨_,rfl,rfl,_,rfl,fW ⟨sz1,q2 m0 _ g1⟩⟩
def upB (L:Str):Dt→Bool
 | .tup [.str w,.str s]=>decide (w= "mark") && !(Builtin.Str.occurrences L s 0 L.length 1).isEmpty
 | _=>false
def eM (p:Int×Int) (d:Dt):Int×Int :=
 (if p.2+(if upB "([{" d=true then 1 else 0) - (if upB ")]}" d=true then 1 else 0) > p.1 then p.2+(if upB "([{" d=true then 1 else 0) - (if upB ")]}" d=true then 1 else 0) else p.1,
  p.2+(if upB "([{" d=true then 1 else 0) - (if upB ")]}" d=true then 1 else 0))
def fQ (toks:List Dt):Int:=(toks.foldl eM (0,0)).1
def tG (d:Dt):Prop:=∃ w x,d=mk2 w x∧((∃ s,x=.str s)∨(w≠ "mark" ∧∃ n,x=.int n))
theorem rq {cs:List Nat} {d:Dt} (h:mkW cs=some d):tG d:=by
 unfold mkW at h
 split at h
 ·cases h;exact ⟨_,_,rfl,.inl ⟨_,rfl⟩⟩
 split at h
 ·cases h;exact ⟨_,_,rfl,.inl ⟨_,rfl⟩⟩
 split at h
 ·cases h;exact ⟨_,_,rfl,.inl ⟨_,rfl⟩⟩
 split at h
 ·obtain ⟨n,_,rfl⟩:=aAh.mp h;exact ⟨_,_,rfl,.inr ⟨by decide,n,rfl⟩⟩
 ·cases h
theorem fX {K:W.Frag} {H:Hp} {a b:Dt} {v:V} (h:IsP K H (.tup [a,b]) v):∃ p x y,v=.ref p∧SqT K H p [x,y]∧IsP K H a x∧IsP K H b y:=by
 obtain ⟨p,xs,rfl,hp,_,r⟩:=h.unref
 cases r with
 | cons h1 r =>
  cases r with
  | cons h2 r =>
   cases r
   exact ⟨p,_,_,rfl,hp,h1,h2⟩
def fH (K:W.Frag) (_:Ads):Sp:=fun vs H Q _=>∃ (l:Addr) (ws:List V) (toks:List Dt),vs=[.ref l]∧H l=some (.lst ws)∧IsPs K H toks ws∧(∀ d∈toks,tG d)∧Q (.int (fQ toks)) H
theorem fI (T:Tx K mg ad) {f:Addr} {fd:FuncData} (F:Gn K mg "deepest_brackets" bI ["words"] f fd):FnOk P w K mg base CX0 1 f fd ["words"] (fH K ad):=by
 obtain ⟨t_OPENING,c_OPENING⟩:=T.OPENING;obtain ⟨t_CLOSING,c_CLOSING⟩:=T.CLOSING;refine F.F.ok aw (fun vs H Q E h=>?_) (fun cdv A outer s H vs Q E hr h=>?_)
 ·obtain ⟨l,ws,toks,rfl,_⟩:=h
  rfl
 obtain ⟨l,ws,toks,rfl,hl,hp,ht,q⟩:=h;refine ⟨_,(@pss_cons _ _ _ _ _ (@ps_set _ _ 1 _ _ _ _ aw.nd rfl (Or.inl rfl) pe_int (by rfl) (.inl rfl)) (@pss_cons _ _ _ _ _ (@ps_set _ _ 2 _ _ _ _ aw.nd rfl (Or.inl rfl) pe_int (by rfl) (.inl rfl)) (@pss_cons _ _ _ _ _ (ps_for PassesOwn.never rfl (pi_listN (K:=K) rfl (pv 0)) (lW rfl (aJ (ao (i:=3) aw.nd rfl (Or.inl rfl)) (aJ (ao (i:=4) aw.nd rfl (Or.inl rfl)) du)))
    (@pss_cons _ _ _ _ _ (@ps_if _ _ _ _ _ _ _ _ (PW.pt (@pw_and _ _ _ _ _ _ _ (pt_cmpR op_eq (pv 3) pe_str (nomark _)) (@pw_and1 _ _ _ _ (pt_cmpR op_in_str (pv 4) (aW rfl c_OPENING) rfl)))) (@pss_one _ _ _ (pU (i:=2) aw.nd rfl (Or.inl rfl) pe_int ip_add)) pss_nil) (@pss_cons _ _ _ _ _ (@ps_if _ _ _ _ _ _ _ _ (PW.pt (@pw_and _ _ _ _ _ _ _ (pt_cmpR op_eq (pv 3) pe_str (nomark _)) (@pw_and1 _ _ _ _ (pt_cmpR op_in_str (pv 4) (aW rfl c_CLOSING) rfl)))) (@pss_one _ _ _ (pU (i:=2) aw.nd rfl (Or.inl rfl) pe_int Ba)) pss_nil) (@pss_one _ _ _ (@ps_set _ _ 1 _ _ _ _ aw.nd rfl (Or.inl rfl) (pe_callB (kX rfl) rfl T.z_max boot_max (@pa2 _ _ _ _ _ (pv 1) (pv 2) (by rfl) (by rfl))) (by rfl) (.inl rfl)))))) (@pss_one _ _ _ (@ps_ret _ _ _ _ (pv 1)))))),?_⟩
 refine ⟨_,rfl,l,rfl,⟨_,SqL.of hl⟩,ei (K:=K) (xs:=ws) (fun i σ H'=>H'=H∧∃ v3 v4,σ=[some (.ref l),some (.int ((toks.take i).foldl eM (0,0)).1),some (.int ((toks.take i).foldl eM (0,0)).2),v3,v4]) ⟨rfl,_,_,rfl⟩ (fun i σ H' _ p=>p.1 ▸ SqL.of hl) ?_ ?_⟩
 ·rintro i x σ H' hx ⟨rfl,v3,v4,rfl⟩;obtain ⟨d,hd,hdx⟩:=hp.get' hx;obtain ⟨w,y,rfl,hy⟩:=ht d (aAn hd);obtain ⟨b,x1,y2,rfl,hb,h1,h2⟩:=fX hdx;obtain rfl:=ay h1;have tk:toks.take (i+1)=toks.take i++[mk2 w y]:=by rw [aAD,hd];rfl
  rw [tk,aBA]
  generalize (toks.take i).foldl eM (0,0)=p
  refine ⟨b,_,rfl,hb,rfl,_,_,rfl,_,_,rfl,rfl,?_⟩
  by_cases hw:w= "mark"
  ·subst hw;obtain ⟨s0,rfl⟩:∃ s0,y=.str s0:=by
    rcases hy with h | ⟨h,_⟩
    ·exact h
    ·exact absurd rfl h
   obtain rfl:=ay h2;have u1:upB "([{" (mk2 "mark" (.str s0))=!(Builtin.Str.occurrences "([{" s0 0 (Str.ofString "([{").length 1).isEmpty:=by simp [upB,mk2]
   have u2:upB ")]}" (mk2 "mark" (.str s0))=!(Builtin.Str.occurrences ")]}" s0 0 (Str.ofString ")]}").length 1).isEmpty:=by simp [upB,mk2]
   refine ⟨_,rfl,rfl,_,rfl,fW ⟨_,rfl,_,_,rfl,rfl,_,rfl,?_⟩⟩;rw [← u1]
   cases e1:upB "([{" (mk2 "mark" (.str s0)) with
   | true =>
    refine aL ⟨_,rfl,_,_,rfl,rfl,_,rfl,rfl,_,rfl,fW ⟨_,rfl,_,_,rfl,rfl,_,rfl,?_⟩⟩;rw [← u2]
    cases e2:upB ")]}" (mk2 "mark" (.str s0)) with
    | true=>exact aL ⟨_,rfl,_,_,rfl,rfl,_,rfl,_,rfl,_,_,rfl,rfl,some (.str "mark"),some (.str s0),by simp [eM,e1,e2]⟩
    | false=>exact aH ⟨_,rfl,_,rfl,_,_,rfl,rfl,some (.str "mark"),some (.str s0),by simp [eM,e1,e2]⟩
   | false =>
    refine aH ⟨_,rfl,rfl,_,rfl,fW ⟨_,rfl,_,_,rfl,rfl,_,rfl,?_⟩⟩;rw [← u2]
    cases e2:upB ")]}" (mk2 "mark" (.str s0)) with
    | true=>exact aL ⟨_,rfl,_,_,rfl,rfl,_,rfl,_,rfl,_,_,rfl,rfl,some (.str "mark"),some (.str s0),by simp [eM,e1,e2]⟩
    | false=>exact aH ⟨_,rfl,_,rfl,_,_,rfl,rfl,some (.str "mark"),some (.str s0),by simp [eM,e1,e2]⟩
  ·have u:∀ L,upB L (mk2 w y)=false:=fun L=>by
    cases y <;> simp [upB,mk2,hw]
   refine ⟨_,rfl,rfl,_,rfl,dh (bS hw) (aH ⟨_,rfl,rfl,_,rfl,dh (bS hw) (aH ⟨_,rfl,_,rfl,_,_,rfl,rfl,some (.str w),some y2,by simp [eM,u]⟩)⟩)⟩
 ·rintro σ H' ⟨rfl,v3,v4,rfl⟩;rw [aAM (by rw [hp.length];exact aAl _)];exact ⟨_,rfl,q⟩
def iY:Nat→List Nat→Option (List Dt)
 | 0,_=>some []
 | _+1,[]=>some []
 | n+1,c :: r=>match cw (c :: r) with
  | none=>none
  | some k=>if c=32 then iY n ((c :: r).drop k) else match mkW ((c :: r).take k) with
   | none=>none
   | some w=>(iY n ((c :: r).drop k)).map (w :: ·)
theorem eO {cs:List Nat} {k:Nat} (h:cw cs=some k):1≤k∧k≤cs.length:=by
 cases cs with
 | nil=>cases h
 | cons c r =>
  simp only [cw] at h
  split at h
  ·obtain ⟨i,hi,rfl⟩:=aAh.mp h;have:=(List.findIdx?_eq_some_iff_getElem.mp hi).1;simp only [aAe];lia
  split at h
  ·rename_i hc
   cases h
   refine ⟨?_,mw _ _⟩;unfold bD;rw [aA0,if_pos hc];simp
  split at h
  ·cases h
   have:=mw figS r;simp only [aAe];lia
  ·cases h
   simp
theorem tH:∀ (n m:Nat) (cs:List Nat),cs.length≤n→cs.length≤m→iY n cs=iY m cs:=by
 intro n
 induction n with
 | zero =>
  intro m cs h _;obtain rfl:=aCb.mp (Nat.le_zero.mp h)
  cases m <;> rfl
 | succ n ih =>
  intro m cs h1 h2
  cases cs with
  | nil=>cases m <;> rfl
  | cons c r =>
   cases m with
   | zero=>simp at h2
   | succ m =>
    simp only [iY]
    cases hk:cw (c :: r) with
    | none=>rfl
    | some k =>
     obtain ⟨k1,k2⟩:=eO hk;have l1:((c :: r).drop k).length≤n:=by rw [aAJ];lia
     have l2:((c :: r).drop k).length≤m:=by rw [aAJ];lia
     have e:=ih m ((c :: r).drop k) l1 l2;simp only [e]
def dI (cs:List Nat):Option (List Dt):=iY cs.length cs
theorem jK {c:Nat} {r:List Nat}:dI (c :: r)=match cw (c :: r) with
  | none=>none
  | some k=>if c=32 then dI ((c :: r).drop k) else match mkW ((c :: r).take k) with
   | none=>none
   | some w=>(dI ((c :: r).drop k)).map (w :: ·):=by
 unfold dI;show iY (r.length+1) (c :: r)=_;simp only [iY]
 cases hk:cw (c :: r) with
 | none=>rfl
 | some k =>
  obtain ⟨k1,k2⟩:=eO hk;have e:=tH r.length ((c :: r).drop k).length ((c :: r).drop k) (by rw [aAJ];simp only [aAe];lia) (aAl _);simp only [e]
theorem BH {c:Nat} (h:aC figS c=true):c≠45:=by
 intro e;subst e
 revert h
 decide +kernel
theorem oE {L:Str}:∀ (cs:List Nat),cs.take (bD L cs)=cs.takeWhile (aC L)
 | []=>rfl
 | c :: cs=>by
  unfold bD;rw [aA0]
  split
  ·have:=oE (L:=L) cs;unfold bD at this;rw [aAe,List.take_succ_cons,this]
  ·rfl
theorem vg {p:Nat→Bool}:∀ {l:List Nat} {x:Nat},x∈l.takeWhile p→p x=true
 | [],x,h=>by simp at h
 | c :: l,x,h=>by
  rw [aA0] at h
  split at h
  ·rename_i hc
   rcases aAp.mp h with rfl | h
   ·exact hc
   ·exact vg h
  ·simp at h
theorem qG {cs:List Nat} {k:Nat} (h:cw cs=some k):(cs.take k).length≤((cs.take k).dropWhile (· == 45)).length+1:=by
 obtain ⟨k1,k2⟩:=eO h
 cases cs with
 | nil=>cases h
 | cons c r =>
  obtain ⟨k,rfl⟩:∃ j,k=j+1:=⟨k - 1,by lia⟩;rw [List.take_succ_cons]
  by_cases hc:c=45
  ·subst hc;have e:r.take k=(r.takeWhile (aC figS))∨k=0:=by
    simp only [cw] at h;rw [if_neg (by decide),if_neg (by decide +kernel),if_pos (.inl trivial)] at h;have:k=bD figS r:=by injection h;lia
    rw [this,oE];exact .inl rfl
   rw [aBm,if_pos (by rfl)];rcases e with e | e
   ·rw [e];have e2:(r.takeWhile (aC figS)).dropWhile (· == 45)=r.takeWhile (aC figS):=by
     cases hr:r.takeWhile (aC figS) with
     | nil=>rfl
     | cons d t =>
      have hd:aC figS d=true:=vg (l:=r) (by rw [hr];exact aAd);rw [aBm,if_neg (by simpa using BH hd)]
    rw [e2,aAe];exact aAl _
   ·subst e;simp
  ·rw [aBm,if_neg (by simpa using hc)];lia
theorem tI {z:Str} {a k:Nat} (h:a+k≤z.length):Txt.slice z (some (a:Int)) (some ((a+k:Nat):Int))=bW ((z.cps.toList.drop a).take k):=by
 rw [eq_of_beq (slice_closesL (x:=z) (i:=(a:Int)) (j:=((a+k:Nat):Int)) (by lia) (by lia) (by lia))];unfold bW;rw [aA8,show (((a+k:Nat):Int) - (a:Int)).toNat=k by lia]
def oF (K:W.Frag) (ad:Ads):Sp:=fun vs H Q E=>∃ z:Str,vs=[.str z]∧z.length≤100000 ∧
 (∀ toks,dI z.cps.toList=some toks→fQ toks≤40→∀ l ws H',H l=none→Same H H'→H' l=some (.lst ws)→IsPs K H' toks ws→Q (.ref l) H') ∧
 ((∀ toks,dI z.cps.toList=some toks→¬ fQ toks≤40)→∀ H',Same H H'→E (.ref ad.BadText) none H')
theorem oG (T:Tx K mg ad) {f:Addr} {fd:FuncData} (F:Gn K mg "words_of" gm ["text"] f fd):FnOk P w K mg base (CXE P w) 3 f fd ["text"] (oF K ad):=by
 obtain ⟨_,_,JL⟩:=T.word_end;have KL:=oz (P:=P) (w:=w) (base:=base) T JL;obtain ⟨_,_,JC⟩:=T.made_word;have KF:=mE (P:=P) (w:=w) (base:=base) T JC;obtain ⟨_,_,JD⟩:=T.deepest_brackets;have JZ:=fI (P:=P) (w:=w) (base:=base) T JD;obtain ⟨t_BLANK,c_BLANK⟩:=T.BLANK;obtain ⟨t_MOST_BRACKETS,c_MOST_BRACKETS⟩:=T.MOST_BRACKETS;refine F.F.okW cj (fun vs H Q E h=>?_) (fun cdv A outer s H vs Q E hr h=>?_)
 ·obtain ⟨z,rfl,_⟩:=h
  rfl
 obtain ⟨z,rfl,hz,q1,q2⟩:=h;refine ⟨_,(@pss_cons _ _ _ _ _ (@ps_set _ _ 1 _ _ _ _ cj.nd rfl (Or.inl rfl) (@pe_lst _ _ _ _ pa_nil) (by rfl) (.inl rfl)) (@pss_cons _ _ _ _ _ (@ps_set _ _ 2 _ _ _ _ cj.nd rfl (Or.inl rfl) pe_int (by rfl) (.inl rfl)) (@pss_cons _ _ _ _ _ (uP fun ok=>jn (jx ok.frames rfl ok.frf) (pt_cmpR fM (pv 2) (pe_callB call_len_str rfl T.z_len boot_len (@pa1 _ _ _ (pv 0) (by rfl))) (nomark _))
    (@pss_cons _ _ _ _ _ (@ps_set _ _ 3 _ _ _ _ cj.nd rfl (Or.inl rfl) (pe_call KL (hr.mono (by first | decide | lia)) rfl JL.m JL.F.kp JL.b .nil (wing_on rfl rfl rfl) (@pa2 _ _ _ _ _ (pv 0) (pv 2) (by rfl) (by rfl))) (by rfl) (.inl rfl)) (@pss_cons _ _ _ _ _ (@ps_if _ _ _ _ _ _ _ _ (pt_cmpR op_ne (@pe_ix _ _ _ _ _ _ _ ix_str (pv 0) (pv 2) (fun _ _=>rfl)) (aW rfl c_BLANK) (nomark _)) (@pss_one _ _ _ (@ps_expr _ _ _ _ (pe_bm PySem.F.plainAttrs_list PySem.F.slot_list_append PySem.F.type_list_append bU (pv 1) (@pa1 _ _ _ (pe_call KF (hr.mono (by first | decide | lia)) rfl JC.m JC.F.kp JC.b .nil (wing_on rfl rfl rfl) (@pa1 _ _ _ (pe_slice sl_str (pv 0) (po_some (pv 2)) (po_some (pv 3))) (by rfl))) (by rfl))) (by rfl))) pss_nil) (@pss_one _ _ _ (@ps_set _ _ 2 _ _ _ _ cj.nd rfl (Or.inl rfl) (pv 3) (by rfl) (.inl rfl)))))) (@pss_cons _ _ _ _ _ (@ps_if _ _ _ _ _ _ _ _ (pt_cmpR op_gt (pcl JD JZ (hr.mono (by lia)) rfl (@pa1 _ _ _ (pv 1) (by rfl))) (ja rfl c_MOST_BRACKETS) (nomark _)) (@pss_one _ _ _ (ps_raiseW rfl rfl rfl rfl T.x_BadText rfl (@pa1 _ _ _ pe_str (by rfl)))) pss_nil) (@pss_one _ _ _ (@ps_ret _ _ _ _ (pv 1))))))),?_⟩
 refine ⟨(by show 0≤sizeLine;decide),fun l hl=>?_⟩;refine ⟨fun m σ H'=>∃ (a:Nat) (toks:List Dt) (ws:List V) (v3:Option V),a≤z.length∧m=z.length - a∧Same H H'∧H' l=some (.lst ws)∧IsPs K H' toks ws∧toks.length≤a∧(∀ d∈toks,tG d)∧(dI (z.cps.toList.drop a)).map (toks++·)=dI z.cps.toList∧σ=[some (.str z),some (.ref l),some (.int a),v3],
  ⟨_,0,[],[],none,aAx _,rfl,aj hl _,ac,.nil,aAl _,(fun d hd=>nomatch hd),(by simp),rfl⟩,?_⟩
 rintro m σ H1 ⟨a,toks,ws,v3,ha,rfl,g1,f1,hp,ht,hT,hL,rfl⟩;refine ⟨_,rfl,_,rfl,z,rfl,eH hz,_,_,rfl,rfl,_,rfl,aK (fun c=>?_) (fun c=>?_)⟩
 ·have hlt:a < z.length:=by have:=of_decide_eq_true c;lia
  obtain ⟨ch,hch⟩:∃ ch,z.cps.toList[a]?=some ch:=⟨_,aAm (by rw [aq];exact hlt)⟩;have hd:z.cps.toList.drop a=ch :: z.cps.toList.drop (a+1):=by
   obtain ⟨h1,h2⟩:=aAc.mp hch;rw [aA6 h1,h2]
  have hs:=jK (c:=ch) (r:=z.cps.toList.drop (a+1));rw [← hd] at hs;refine ⟨fun σ' H'=>∃ (a':Nat) (toks:List Dt) (ws:List V) (v3:Option V),a < a'∧a'≤z.length∧Same H H'∧H' l=some (.lst ws)∧IsPs K H' toks ws∧toks.length≤a'∧(∀ d∈toks,tG d)∧(dI (z.cps.toList.drop a')).map (toks++·)=dI z.cps.toList∧σ'=[some (.str z),some (.ref l),some (.int a'),v3],
   fun σ' H' ⟨a',toks',ws',v',h1,h2,r⟩=>⟨z.length - a',by lia,a',toks',ws',v',h2,rfl,r⟩,?_⟩
  cases hk:cw (z.cps.toList.drop a) with
  | none =>
   rw [hk] at hs;refine ⟨_,rfl,_,rfl,z,a,rfl,hlt,hz,(fun k e=>by rw [hk] at e;cases e),fun _ H2 g2=>q2 (fun t h=>?_) H2 (g1.trans g2)⟩;rw [← hL,hs] at h
   cases h
  | some k =>
   rw [hk] at hs;obtain ⟨k1,k2⟩:=eO hk;rw [aAJ,aq] at k2;refine ⟨_,rfl,_,rfl,z,a,rfl,hlt,hz,(fun k' e=>?_),fun e=>by rw [hk] at e;cases e⟩;rw [hk] at e
   cases e
   refine ⟨_,rfl,_,rfl,z,_,ch,rfl,rfl,eH hz,ow hch,rfl,_,rfl,?_⟩;rw [yf,gG];dsimp only at hs;rw [List.drop_drop] at hs
   by_cases h32:ch=32
   ·rw [if_pos h32] at hs;rw [decide_eq_true h32];refine aH ⟨_,rfl,a+k,toks,ws,_,by lia,by lia,g1,f1,hp,by lia,hT,?_,rfl⟩;rw [← hs];exact hL
   ·rw [if_neg h32] at hs;rw [decide_eq_false h32];have es:=tI (z:=z) (a:=a) (k:=k) (by lia);have ec:(bW ((z.cps.toList.drop a).take k)).cps.toList=(z.cps.toList.drop a).take k:=rfl;have el:(bW ((z.cps.toList.drop a).take k)).length=k:=by
     rw [← aq,ec,aAz,aAJ,aq];lia
    refine aL ⟨_,rfl,.inl ⟨rfl,_,SqL.of f1⟩,_,rfl,_,rfl,_,rfl,_,rfl,_,rfl,z,rfl,eH hz,?_⟩;rw [es];refine ⟨_,rfl,by lia,by lia,(by
     have:=qG hk;rw [← ec] at this;rw [aq] at this;exact this),fun d e v H2 g2 hv=>?_,fun e H2 g2=>q2 (fun t h=>?_) H2 (g1.trans g2)⟩
    ·rw [ec] at e;rw [e] at hs;dsimp only at hs;have lw:=hp.length;refine ⟨l,ws,_,rfl,rfl,g2 _ _ f1,aAj (show ws.length < 100000 by lia) (by decide),?_⟩;refine ⟨_,rfl,a+k,toks++[d],ws++[v],_,by lia,by lia,?_,ac,?_,by rw [aAk];simp only [aAe,aAI];lia,fun d' hd'=>?_,?_,rfl⟩
     ·intro b o eb;rw [ag (ah eb hl)];exact g2 _ _ (g1 _ _ eb)
     ·exact ((hp.same g2).but (g2 _ _ f1) But.put).append (.cons (hv.but (g2 _ _ f1) But.put) .nil)
     ·rcases aAK.mp hd' with h | h
      ·exact hT d' h
      ·obtain rfl:=aAE.mp h;exact rq e
     ·rw [← hL,hs,Option.map_map]
      congr 1
      funext x
      simp
    ·rw [ec] at e;rw [← hL,hs,e] at h
     cases h
 ·have e:a=z.length:=by
   have c':¬ ((a:Int) < (z.length:Int)):=fun h=>c (decide_eq_true h);lia
  have hN:dI z.cps.toList=some toks:=by
   rw [← hL,aA3 (by rw [aq];lia)];show some (toks++[])=_;rw [aA2]
  refine ⟨_,rfl,l,ws,toks,rfl,f1,hp,hT,_,_,rfl,rfl,_,rfl,aK (fun c2=>?_) (fun c2=>?_)⟩
  ·refine ⟨sz1,q2 (fun t h=>?_) _ g1⟩;rw [hN] at h
   cases h
   have:=of_decide_eq_true c2;lia
  ·refine ⟨_,rfl,q1 toks hN ?_ l ws _ hl g1 f1 hp⟩;have c':¬ (40 < fQ toks):=fun h=>c2 (decide_eq_true h);lia
abbrev Tk:=Str×Key
def tkD (t:Tk):Dt:=mk2 t.1 (kDt t.2)
def toTk:Dt→Tk
 | .tup [.str w,.str s]=>(w,.inr s)
 | .tup [.str w,.int n]=>(w,.inl n)
 | _=>("",.inl 0)
theorem oH:∀ {toks:List Dt},(∀ d∈toks,tG d)→(toks.map toTk).map tkD=toks
 | [],_=>rfl
 | d :: toks,h=>by
  have:=oH (toks:=toks) fun d hd=>h d (aAi _ hd);rw [aAt,aAt,this];obtain ⟨w,x,rfl,hx⟩:=h d aAd;rcases hx with ⟨s,rfl⟩ | ⟨_,n,rfl⟩ <;> rfl
abbrev kC:Tk:=(("end" : Str),.inr "")
abbrev aG (m:Str):Tk:=(("mark" : Str),.inr m)
def am (ts:List Tk) (p:Nat):Tk:=ts[p]?.getD kC
abbrev kE (l:Addr) (p:Nat):List (Str×V):=[("all_words",.ref l),("place",.int p)]
theorem yg:¬ (("all_words" : Str)= "place"):=by decide +kernel
theorem oI (l:Addr) (p:Nat) (y:Int):dA "place" (.int y) (kE l p)=([("all_words",V.ref l),("place",V.int y)]:List (Str×V)):=by
 show (if ("all_words" : Str)= "place" then _ else (("all_words" : Str),V.ref l) :: (if ("place" : Str)= "place" then [(("place" : Str),V.int y)] else _))=_;rw [if_neg yg,if_pos rfl]
theorem jL (l:Addr) (p:Nat):(kE l p).lookup ("all_words" : Str)=some (.ref l):=by
 rw [aAR];simp
theorem fY (l:Addr) (p:Nat):(kE l p).lookup ("place" : Str)=some (.int p):=by
 have:(("place" : Str) == "all_words")=false:=by decide +kernel
 rw [aAR,this,aAR];simp
theorem aT (l:Addr) (p:Nat) {m:Str} (h1:(m == "all_words")=false) (h2:(m == "place")=false):(kE l p).lookup m=none:=by
 rw [aAR,h1,aAR,h2]
 rfl
def RowAt (K:W.Frag) (C:Addr) (H:Hp) (x l:Addr) (ts:List Tk) (p:Nat):Prop:=∃ dx ws,H x=some (.ins C dx (kE l p))∧H l=some (.lst ws)∧IsPs K H (ts.map tkD) ws∧l≠x∧ts.length≤100000∧∀ t∈ts,t.1= "word" →∃ s,t.2=Sum.inr s
theorem RowAt.same {K:W.Frag} {C:Addr} {H H':Hp} {x l:Addr} {ts:List Tk} {p:Nat} (h:RowAt K C H x l ts p) (g:Same H H'):RowAt K C H' x l ts p:=by
 obtain ⟨dx,ws,h1,h2,h3,h4⟩:=h;exact ⟨dx,ws,g _ _ h1,g _ _ h2,h3.same g,h4⟩
def iZ (K:W.Frag) (ad:Ads):Sp:=fun vs H Q E=>∃ (x dx:Addr) (z:Str),vs=[.ref x,.str z]∧H x=some (.ins ad.WordRow dx [])∧z.length≤100000 ∧
 (∀ toks,dI z.cps.toList=some toks→fQ toks≤40→∀ l H',H l=none→But x H H'→RowAt K ad.WordRow H' x l (toks.map toTk) 0→Q .non H') ∧
 ((∀ toks,dI z.cps.toList=some toks→¬ fQ toks≤40)→∀ H',Same H H'→E (.ref ad.BadText) none H')
theorem rA:∀ (n:Nat) (cs:List Nat) (toks:List Dt),iY n cs=some toks→(∀ d∈toks,tG d)∧toks.length≤cs.length:=by
 intro n
 induction n with
 | zero=>intro cs toks h;cases h;exact ⟨fun d hd=>(by simp at hd),aAx _⟩
 | succ n ih =>
  intro cs toks h
  cases cs with
  | nil=>cases h;exact ⟨fun d hd=>(by simp at hd),aAx _⟩
  | cons c r =>
   simp only [iY] at h
   cases hk:cw (c :: r) with
   | none=>rw [hk] at h;cases h
   | some k =>
    rw [hk] at h;obtain ⟨k1,k2⟩:=eO hk;have ld:((c :: r).drop k).length=(c :: r).length - k:=aAJ;dsimp only at h
    split at h
    ·obtain ⟨a,b⟩:=ih _ _ h;exact ⟨a,by lia⟩
    ·cases hm:mkW ((c :: r).take k) with
     | none=>rw [hm] at h;cases h
     | some w =>
      rw [hm] at h;obtain ⟨t,ht,rfl⟩:=aAh.mp h;obtain ⟨a,b⟩:=ih _ _ ht;refine ⟨fun d hd=>?_,by rw [aAe];lia⟩;rcases aAp.mp hd with rfl | hd
      ·exact rq hm
      ·exact a d hd
theorem vh {cs:List Nat} {d:Dt} (h:mkW cs=some d) (hw:(toTk d).1= "word"):∃ s,(toTk d).2=Sum.inr s:=by
 unfold mkW at h
 split at h
 ·cases h;exact ⟨_,rfl⟩
 split at h
 ·cases h;exact ⟨_,rfl⟩
 split at h
 ·cases h;exact ⟨_,rfl⟩
 split at h
 ·obtain ⟨n,_,rfl⟩:=aAh.mp h;exact absurd (show (Str.ofString "number")=Str.ofString "word" from hw) (by decide +kernel)
 ·cases h
theorem tK:∀ (n:Nat) (cs:List Nat) (toks:List Dt),iY n cs=some toks→∀ d∈toks,(toTk d).1= "word" →∃ s,(toTk d).2=Sum.inr s:=by
 intro n
 induction n with
 | zero=>intro cs toks h;cases h;exact fun d hd=>(by simp at hd)
 | succ n ih =>
  intro cs toks h
  cases cs with
  | nil=>cases h;exact fun d hd=>(by simp at hd)
  | cons c r =>
   simp only [iY] at h
   cases hk:cw (c :: r) with
   | none=>rw [hk] at h;cases h
   | some k =>
    rw [hk] at h;dsimp only at h
    split at h
    ·exact ih _ _ h
    ·cases hm:mkW ((c :: r).take k) with
     | none=>rw [hm] at h;cases h
     | some w =>
      rw [hm] at h;obtain ⟨t,ht,rfl⟩:=aAh.mp h;intro d hd hw;rcases aAp.mp hd with rfl | hd
      ·exact vh hm hw
      ·exact ih _ _ ht d hd hw
theorem i3 (T:Tx K mg ad) {f:Addr} {fd:FuncData} (F:Mi K ad.WordRow "__init__" "WordRow.__init__" cM ["self","text"] f fd):FnOk P w K mg base (CXE P w) 4 f fd ["self","text"] (iZ K ad):=by
 obtain ⟨_,_,JK⟩:=T.words_of;have KP:=oG (P:=P) (w:=w) (base:=base) T JK;refine F.F.okW i6 (fun vs H Q E h=>?_) (fun cdv A outer s H vs Q E hr h=>?_)
 ·obtain ⟨x,dx,z,rfl,_⟩:=h
  rfl
 obtain ⟨x,dx,z,rfl,hx,hz,q1,q2⟩:=h;refine ⟨_,(@pss_cons _ _ _ _ _ (ur (pv 0) (pe_call KP (hr.mono (by first | decide | lia)) rfl JK.m JK.F.kp JK.b .nil (wing_on rfl rfl rfl) (@pa1 _ _ _ (pv 1) (by rfl))) rfl) (@pss_one _ _ _ (ur (pv 0) pe_int rfl))),?_⟩;refine ⟨_,rfl,z,rfl,hz,fun toks hL hB l ws H1 hl g1 f1 hp=>?_,fun h H1 g1=>q2 h H1 g1⟩;have hlx:l≠x:=fun c=>by subst c;rw [hx] at hl;cases hl
 refine ⟨_,rfl,x,ad.WordRow,dx,[],rfl,g1 _ _ hx,T.c_WordRow,T.n_WordRow_all_words,(by show 0 < 1000;decide),_,rfl,x,ad.WordRow,dx,_,rfl,ac,T.c_WordRow,T.n_WordRow_place,(by show 1 < 1000;decide),?_⟩;obtain ⟨t1,t2⟩:=rA _ _ _ hL;refine q1 toks hL hB l _ hl (fun b o nb eb=>by rw [ag nb,ag nb];exact g1 _ _ eb) ⟨dx,ws,?_,?_,?_,hlx,by rw [aAa];rw [aq] at t2;lia,fun t ht hw=>?_⟩
 ·rw [ac];show some (HO.ins _ _ (if ("all_words" : Str)= "place" then _ else (("all_words" : Str),V.ref l) :: dA "place" (V.int 0) []))=_;rw [if_neg yg]
  rfl
 ·rw [ag hlx,ag hlx];exact f1
 ·rw [oH t1];exact cf (p:=x) (by rw [g1 _ _ hx];exact True.intro) (fun b o nb eb=>by rw [ag nb,ag nb];exact eb) hp
 ·obtain ⟨d,hd,rfl⟩:=aAr.mp ht;exact tK _ _ _ hL d hd hw
def gI (K:W.Frag) (ad:Ads):Sp:=fun vs H Q _=>∃ (x l:Addr) (ts:List Tk) (p k:Nat),vs=[.ref x,.int k]∧RowAt K ad.WordRow H x l ts p∧∀ v,IsD K H (tkD (am ts (p+k))) v→Q v H
theorem bj (T:Tx K mg ad) {f:Addr} {fd:FuncData} (F:Mn K ad.WordRow "coming" "WordRow.coming" bZ ["self","ahead"] f fd):FnOk P w K mg base CX0 1 f fd ["self","ahead"] (gI K ad):=by
 obtain ⟨c_END,s_END⟩:=T.END;refine F.F.ok cW (fun vs H Q E h=>?_) (fun cdv A outer s H vs Q E hr h=>?_)
 ·obtain ⟨x,l,ts,p,k,rfl,_⟩:=h
  rfl
 obtain ⟨x,l,ts,p,k,rfl,⟨dx,ws,hx,hl,hp,hlx,h5⟩,q⟩:=h;refine ⟨_,(@pss_cons _ _ _ _ _ (@ps_set _ _ 2 _ _ _ _ cW.nd rfl (Or.inl rfl) (@pe_op _ _ _ _ _ _ _ _ aB (pY (pv 0) rfl) (pv 1)) (by rfl) (.inl rfl)) (@pss_one _ _ _ (@ps_ret _ _ _ _ (jl (pt_cmpR fM (pv 2) (pe_callB (bg (K:=K) rfl) rfl T.z_len boot_len (@pa1 _ _ _ (pY (pv 0) rfl) (by rfl))) (nomark _)) (@pe_ix _ _ _ _ _ _ _ (aP (K:=K) rfl) (pY (pv 0) rfl) (pv 2) (fun _ _=>rfl)) (dD rfl c_END))))),?_⟩;have lw:=hp.length;rw [aAa] at lw;refine ⟨_,rfl,x,ad.WordRow,dx,_,_,rfl,hx,T.c_WordRow,T.n_WordRow_place,fY l p,_,rfl,_,_,rfl,rfl,?_⟩;refine ⟨_,rfl,_,rfl,x,ad.WordRow,dx,_,_,rfl,hx,T.c_WordRow,T.n_WordRow_all_words,jL l p,l,_,rfl,.inl (SqL.of hl),_,_,rfl,rfl,_,rfl,aK (fun c=>?_) (fun c=>?_)⟩
 ·have hlt:p+k < ts.length:=by have:=of_decide_eq_true c;lia
  obtain ⟨v,hv,hd⟩:=hp.get (i:=p+k) (d:=tkD ts[p+k]) (by rw [aAg,aAm hlt];rfl);refine ⟨_,rfl,x,ad.WordRow,dx,_,_,rfl,hx,T.c_WordRow,T.n_WordRow_all_words,jL l p,_,rfl,l,_,_,_,rfl,rfl,SqL.of hl,(by rw [← aBI];exact ce hv),?_⟩;refine q v ?_;unfold am;rw [aAm hlt];exact hd.d
 ·have hge:ts.length≤p+k:=by
   have c':¬ ((p:Int)+(k:Int) < (ws.length:Int)):=fun h=>c (decide_eq_true h);lia
  refine q _ ?_;unfold am;rw [aBs hge];exact .tup (s_END _ aAd H) (.cons .str (.cons .str .nil))
def ie (K:W.Frag) (ad:Ads):Sp:=fun vs H Q _=>∃ (x l:Addr) (ts:List Tk) (p:Nat) (m:Str),vs=[.ref x,.str m]∧RowAt K ad.WordRow H x l ts p∧∀ H',Same H H'→Q (.bl (decide (am ts p=aG m))) H'
theorem vi (t:Tk) (w:Str) (k:Key):eqD (tkD t) (mk2 w (kDt k))=decide (t=(w,k)):=by
 obtain ⟨w',k'⟩:=t;rw [aAX]
 cases k <;> cases k' <;> simp [tkD,mk2,kDt,eqD,dX]
theorem vj (t:Tk):(tkD t).dep≤60:=by
 obtain ⟨w,k⟩:=t
 cases k <;> simp [tkD,mk2,kDt,Dt.dep,dE]
theorem bX (T:Tx K mg ad) {f:Addr} {fd:FuncData} (F:Mn K ad.WordRow "comes" "WordRow.comes" cr ["self","mark"] f fd):FnOk P w K mg base CX0 2 f fd ["self","mark"] (ie K ad):=by
 obtain ⟨_,_,IU⟩:=T.m_WordRow_coming;have Jb:=bj (P:=P) (w:=w) (base:=base) T IU;refine F.F.ok iH (fun vs H Q E h=>?_) (fun cdv A outer s H vs Q E hr h=>?_)
 ·obtain ⟨x,l,ts,p,m,rfl,_⟩:=h
  rfl
 obtain ⟨x,l,ts,p,m,rfl,hR,q⟩:=h;refine ⟨_,(@pss_one _ _ _ (@ps_ret _ _ _ _ (pe_cmpR (je (K:=K) rfl hr.units) (pe_meth (pv 0) T.c_WordRow IU.meth Jb (hr.mono (by first | decide | lia)) IU.b .nil iL (@pa1 _ _ _ pe_int (by rfl))) (@pe_tupPK _ K _ _ _ _ rfl (@pa2 _ _ _ _ _ pe_str (pv 1) (by rfl) (by rfl))) (nomark _)))),?_⟩;obtain ⟨dx,ws,hx,_⟩:=id hR;refine ⟨_,rfl,x,dx,_,rfl,hx,aT l p (by decide +kernel) (by decide +kernel),x,l,ts,p,0,rfl,hR,fun v hv=>?_⟩;refine ⟨_,rfl,[.str "mark",.str m],.cons .str (.cons .str .nil),sz2,fun v2 H1 g1 hv2=>?_⟩;refine ⟨_,_,hv.same g1,hv2.d,vj _,?_⟩;have:=q H1 g1;rw [← vi] at this;exact this
def i4 (K:W.Frag) (ad:Ads):Sp:=fun vs H Q E=>∃ (x l:Addr) (ts:List Tk) (p:Nat) (s:Str),vs=[.ref x,.str s]∧RowAt K ad.WordRow H x l ts p ∧
 ((am ts p).1=s→∀ H',But x H H'→RowAt K ad.WordRow H' x l ts (p+1)→Q (kV (am ts p).2) H')∧(¬ (am ts p).1=s→E (.ref ad.BadText) none H)
theorem RowAt.next {K:W.Frag} {C:Addr} {H:Hp} {x dx l:Addr} {ws:List V} {ts:List Tk} {p q:Nat} (hx:H x=some (.ins C dx (kE l p))) (hl:H l=some (.lst ws)) (hp:IsPs K H (ts.map tkD) ws) (hlx:l≠x) (h5:ts.length≤100000∧∀ t∈ts,t.1= "word" →∃ s,t.2=Sum.inr s) :
  RowAt K C (upd H x (.ins C dx (kE l q))) x l ts q :=
 ⟨dx,ws,ac,by rw [ag hlx];exact hl,cf (p:=x) (by rw [hx];exact True.intro) But.put hp,hlx,h5⟩
theorem BI {K:W.Frag} {H:Hp} {t:Tk} {v:V} (h:IsD K H (tkD t) v):∃ a,v=.ref a∧SqT K H a [.str t.1,kV t.2]:=by
 obtain ⟨a,xs,rfl,ha,r⟩:=IsD.unref h
 cases r with
 | cons h1 r =>
  cases r with
  | cons h2 r =>
   cases r
   cases h1
   refine ⟨a,rfl,?_⟩;obtain ⟨w,k⟩:=t
   cases k <;> (cases h2;exact ha)
theorem cm (T:Tx K mg ad) {f:Addr} {fd:FuncData} (F:Mn K ad.WordRow "take" "WordRow.take" cN ["self","sort"] f fd):FnOk P w K mg base (CXE P w) 2 f fd ["self","sort"] (i4 K ad):=by
 obtain ⟨_,_,IU⟩:=T.m_WordRow_coming;have Jb:=bj (P:=P) (w:=w) (base:=base) T IU;refine F.F.okW dW (fun vs H Q E h=>?_) (fun cdv A outer s H vs Q E hr h=>?_)
 ·obtain ⟨x,l,ts,p,s,rfl,_⟩:=h
  rfl
 obtain ⟨x,l,ts,p,s,rfl,hR,q1,q2⟩:=h;refine ⟨_,(@pss_cons _ _ _ _ _ (@ps_set _ _ 2 _ _ _ _ dW.nd rfl (Or.inl rfl) (pe_meth (pv 0) T.c_WordRow IU.meth Jb (hr.mono (by first | decide | lia)) IU.b .nil iL (@pa1 _ _ _ pe_int (by rfl))) (by rfl) (.inl rfl)) (@pss_cons _ _ _ _ _ (@ps_if _ _ _ _ _ _ _ _ (pt_cmpR op_ne (@pe_ix _ _ _ _ _ _ _ (ix_tupDN (K:=K) rfl) (pv 2) pe_int (fun _ _=>rfl)) (pv 1) (nomark _)) (@pss_one _ _ _ (ps_raiseW rfl rfl rfl rfl T.x_BadText rfl (@pa1 _ _ _ pe_str (by rfl)))) pss_nil) (@pss_cons _ _ _ _ _ (ps_fldaug (pv 0) pe_int ip_add) (@pss_one _ _ _ (@ps_ret _ _ _ _ (@pe_ix _ _ _ _ _ _ _ (ix_tupDN (K:=K) rfl) (pv 2) pe_int (fun _ _=>rfl))))))),?_⟩;obtain ⟨dx,ws,hx,hl,hp,hlx,h5⟩:=id hR;refine ⟨_,rfl,x,dx,_,rfl,hx,aT l p (by decide +kernel) (by decide +kernel),x,l,ts,p,0,rfl,hR,fun v hv=>?_⟩;rw [aCm] at hv;have hv':IsD K H (.tup [.str (am ts p).1,kDt (am ts p).2]) v:=hv;refine ⟨_,rfl,_,_,_,hv',rfl,at0 _ _,fun v1 hv1=>?_⟩;obtain rfl:v1=.str (am ts p).1:=by cases hv1;rfl
 refine ⟨_,rfl,rfl,_,rfl,?_⟩
 by_cases hs:(am ts p).1=s
 ·rw [hs];refine ou ⟨_,rfl,x,ad.WordRow,dx,_,_,rfl,hx,T.c_WordRow,T.n_WordRow_place,fY l p,_,_,rfl,rfl,dx,_,hx,(by show 2 < 1000;decide),?_⟩;rw [oI,show (fun i j:Int=>i+j) (p:Int) 1=((p+1:Nat):Int) from (by show (p:Int)+1=_;lia)];have hn:RowAt K ad.WordRow (upd H x (.ins ad.WordRow dx (kE l (p+1)))) x l ts (p+1):=.next hx hl hp hlx h5;obtain ⟨a,rfl,ha⟩:=BI hv;have ha':SqT K (upd H x (.ins ad.WordRow dx (kE l (p+1)))) a [.str (am ts p).1,kV (am ts p).2]:=by
   rcases ha with (ha | ⟨o,ha⟩) | ha
   ·exact .inl (.inl (by rw [ag (fK ha hx (by intro z;cases z))];exact ha))
   ·exact .inl (.inr ⟨o,by rw [ag (fK ha hx (by intro z;cases z))];exact ha⟩)
   ·exact .inr ha
  have hk:IsD K (upd H x (.ins ad.WordRow dx (kE l (p+1)))) (.tup [.str (am ts p).1,kDt (am ts p).2]) (.ref a):=.tup ha' (.cons .str (.cons (by cases (am ts p).2 <;> constructor) .nil));refine ⟨_,rfl,_,_,_,hk,rfl,rfl,fun v2 hv2=>?_⟩;have e2:v2=kV (am ts p).2:=by
   revert hv2
   generalize (am ts p).2=k
   intro hv2
   cases k <;> (cases hv2;rfl)
  rw [e2];exact q1 hs _ But.put hn
 ·exact lC (bS hs) ⟨sz1,q2 hs⟩
def eQ (K:W.Frag) (ad:Ads):Sp:=fun vs H Q E=>∃ (x l:Addr) (ts:List Tk) (p:Nat) (m:Str),vs=[.ref x,.str m]∧RowAt K ad.WordRow H x l ts p ∧
 (am ts p=aG m→∀ H',But x H H'→RowAt K ad.WordRow H' x l ts (p+1)→Q .non H')∧(¬ am ts p=aG m→∀ H',Same H H'→E (.ref ad.BadText) none H')
theorem bo (T:Tx K mg ad) {f:Addr} {fd:FuncData} (F:Mn K ad.WordRow "take_mark" "WordRow.take_mark" bC ["self","mark"] f fd):FnOk P w K mg base (CXE P w) 3 f fd ["self","mark"] (eQ K ad):=by
 obtain ⟨_,_,IY⟩:=T.m_WordRow_comes;have Jk:=bX (P:=P) (w:=w) (base:=base) T IY;refine F.F.okW fh (fun vs H Q E h=>?_) (fun cdv A outer s H vs Q E hr h=>?_)
 ·obtain ⟨x,l,ts,p,m,rfl,_⟩:=h
  rfl
 obtain ⟨x,l,ts,p,m,rfl,hR,q1,q2⟩:=h;refine ⟨_,(@pss_cons _ _ _ _ _ (@ps_if _ _ _ _ _ _ _ _ (@pt_not _ _ _ _ (@pt_val _ _ _ (pe_meth (pv 0) T.c_WordRow IY.meth Jk (hr.mono (by first | decide | lia)) IY.b .nil iL (@pa1 _ _ _ (pv 1) (by rfl))) (by intro _;rfl))) (@pss_one _ _ _ (ps_raiseW rfl rfl rfl rfl T.x_BadText rfl (@pa1 _ _ _ pe_str (by rfl)))) pss_nil) (@pss_one _ _ _ (ps_fldaug (pv 0) pe_int ip_add))),?_⟩;obtain ⟨dx,ws,hx,hl,hp,hlx,h5⟩:=id hR;refine ⟨_,rfl,x,dx,_,rfl,hx,aT l p (by decide +kernel) (by decide +kernel),_,rfl,x,l,ts,p,m,rfl,hR,fun H1 g1=>?_⟩
 by_cases hs:am ts p=aG m
 ·rw [decide_eq_true hs];refine ⟨_,rfl,aH ⟨_,rfl,x,ad.WordRow,dx,_,_,rfl,g1 _ _ hx,T.c_WordRow,T.n_WordRow_place,fY l p,_,_,rfl,rfl,dx,_,g1 _ _ hx,(by show 2 < 1000;decide),?_⟩⟩;rw [oI,show (fun i j:Int=>i+j) (p:Int) 1=((p+1:Nat):Int) from (by show (p:Int)+1=_;lia)];exact q1 hs _ (fun b o nb eb=>by rw [ag nb];exact g1 _ _ eb) (.next (g1 _ _ hx) (g1 _ _ hl) (hp.same g1) hlx h5)
 ·rw [decide_eq_false hs];exact ⟨_,rfl,aL ⟨sz1,q2 hs H1 g1⟩⟩
inductive PR where
 | ok (v:Dt) (p:Nat)
 | err
 | out
def PR.bind (r:PR) (f:Dt→Nat→PR):PR:=match r with
 | .ok v p=>f v p
 | .err=>.err
 | .out=>.out
section
variable (ts:List Tk)
def eR (s:Str) (p:Nat):PR:=if (am ts p).1=s then .ok (kDt (am ts p).2) (p+1) else .err
def rB (m:Str) (p:Nat) (f:Nat→PR):PR:=if am ts p=aG m then f (p+1) else .err
def cR (rd:Nat→PR) (cl:Str):Nat→Nat→List Dt→PR
 | 0,_,_=>.out
 | n+1,p,fs=>if am ts p=aG cl then .ok (.tup fs) (p+1) else if 0 < fs.length then rB ts "," p fun p1=>(rd p1).bind fun v q=>cR rd cl n q (fs++[v]) else (rd p).bind fun v q=>cR rd cl n q (fs++[v])
def jM (rd:Nat→PR) (cl:Str) (p:Nat):PR:=cR ts rd cl (ts.length+1) p []
end
def Rdd (K:W.Frag) (ad:Ads) (x l:Addr) (ts:List Tk) (H:Hp) (Q:VK) (E:XK) (r:PR):Prop:=match r with
 | .ok v q=>∀ y H',But x H H'→RowAt K ad.WordRow H' x l ts q→IsP K H' v y→Q y H'
 | .err=>∀ H',But x H H'→E (.ref ad.BadText) none H'
 | .out=>False
theorem Rdd.but {K:W.Frag} {ad:Ads} {x l:Addr} {ts:List Tk} {H H1:Hp} {Q:VK} {E:XK} {r:PR} (h:Rdd K ad x l ts H Q E r) (g:But x H H1):Rdd K ad x l ts H1 Q E r:=by
 cases r with
 | ok v q=>exact fun y H' g'=>h y H' (g.trans g')
 | err=>exact fun H' g'=>h H' (g.trans g')
 | out=>exact h
def mF (_:W.Frag) (_:Ads):Sp:=fun vs H Q _=>∃ i k:Int,vs=[.int i,.int k]∧∀ c:Int,0≤c→c < 2147483647→Q (.int c) H
def mG (_:W.Frag) (_:Ads):Sp:=fun vs H Q _=>∃ (r:Addr) (n m:Int),vs=[.ref r,.int m]∧H r=some (.lst [.int n])∧0 < m∧m < 10000000000000000000000000000000000000000000000000000000000000∧Q (.int (n % m)) (upd H r (.lst [.int (n / m)]))
def jN (K:W.Frag) (_:Ads):Sp:=fun vs H Q _=>∃ (a:Addr) (ns:List Int) (k:Nat),vs=[.ref a,.int k]∧SqL K H a (ns.map V.int)∧ns.length≤63∧∀ c,Q (.int c) H
def qH (K:W.Frag) (_:Ads):Sp:=fun vs H Q _=>∃ (a:Addr) (ns:List Int) (k t:Nat),vs=[.ref a,.int k,.int t]∧SqL K H a (ns.map V.int)∧ns.length≤63∧k < 1000∧t < 5 ∧
 ∀ r n H',H r=none→Same H H'→H' r=some (.lst [.int n])→Q (.ref r) H'
theorem mH (T:Tx K mg ad) {f:Addr} {fd:FuncData} (F:Gn K mg "_law_mixed" fc ["cell","k"] f fd):FnOk P w K mg base CX0 1 f fd ["cell","k"] (mF K ad):=by
 refine F.F.ok gU (fun vs H Q E h=>?_) (fun cdv A outer s H vs Q E hr h=>?_)
 ·obtain ⟨i,k,rfl,_⟩:=h
  rfl
 obtain ⟨i,k,rfl,q⟩:=h;refine ⟨_,(@pss_cons _ _ _ _ _ (@ps_set _ _ 2 _ _ _ _ gU.nd rfl (Or.inl rfl) (@pe_op _ _ _ _ _ _ _ _ dz (@pe_op _ _ _ _ _ _ _ _ em (@pe_op _ _ _ _ _ _ _ _ aB (@pe_op _ _ _ _ _ _ _ _ aB (@pe_op _ _ _ _ _ _ _ _ dz (pv 0) pe_int) (@pe_op _ _ _ _ _ _ _ _ em pe_int (pv 1))) pe_int) pe_int) pe_int) (by rfl) (.inl rfl)) (@pss_one _ _ _ (@ps_ret _ _ _ _ (@pe_op _ _ _ _ _ _ _ _ dz (@pe_op _ _ _ _ _ _ _ _ em (@pe_op _ _ _ _ _ _ _ _ dz (@pe_op _ _ _ _ _ _ _ _ em (pv 2) (pv 2)) pe_int) pe_int) pe_int)))),?_⟩;refine ⟨_,rfl,_,_,rfl,rfl,(by show (0:Int) < 1000000007;decide),_,rfl,_,_,rfl,rfl,.inl ⟨by decide,by decide⟩,_,_,rfl,rfl,_,_,rfl,rfl,_,_,rfl,rfl,.inr ⟨by decide,by decide⟩,_,_,rfl,rfl,(by show (0:Int) < 2147483647;decide),?_⟩;have b0:(0:Int)≤(i % 1000000007+7919*k+1)*48271 % 2147483647:=aCd _ (by decide);have b1:(i % 1000000007+7919*k+1)*48271 % 2147483647 < 2147483647:=aBT _ (by decide);exact ⟨_,rfl,_,rfl,_,_,rfl,rfl,.inl ⟨by lia,by lia⟩,_,_,rfl,rfl,(by show (0:Int) < 2147483629;decide),_,_,rfl,rfl,.inr ⟨by decide,by decide⟩,_,_,rfl,rfl,(by show (0:Int) < 2147483647;decide),q _ (aCd _ (by decide)) (aBT _ (by decide))⟩
theorem aE (T:Tx K mg ad) {f:Addr} {fd:FuncData} (F:Gn K mg "_law_digit" fe ["row","many"] f fd):FnOk P w K mg base CX0 1 f fd ["row","many"] (mG K ad):=by
 refine F.F.ok gW (fun vs H Q E h=>?_) (fun cdv A outer s H vs Q E hr h=>?_)
 ·obtain ⟨r,n,m,rfl,_⟩:=h
  rfl
 obtain ⟨r,n,m,rfl,hr0,h0,h1,q⟩:=h;refine ⟨_,(@pss_cons _ _ _ _ _ (@ps_set _ _ 2 _ _ _ _ gW.nd rfl (Or.inl rfl) (@pe_op _ _ _ _ _ _ _ _ dz (@pe_ix _ _ _ _ _ _ _ (aP (K:=K) rfl) (pv 0) pe_int (fun _ _=>rfl)) (pv 1)) (by rfl) (.inl rfl)) (@pss_cons _ _ _ _ _ (ug (@pe_op _ _ _ _ _ _ _ _ jA (@pe_ix _ _ _ _ _ _ _ (aP (K:=K) rfl) (pv 0) pe_int (fun _ _=>rfl)) (pv 1)) (uf (pv 0) pe_int nD)) (@pss_one _ _ _ (@ps_ret _ _ _ _ (pv 2))))),?_⟩;have e0:atI [V.int n] 0=some (.int n):=rfl;exact ⟨_,rfl,r,_,_,_,rfl,rfl,SqL.of hr0,e0,_,rfl,_,_,rfl,rfl,h0,_,rfl,r,_,_,_,rfl,rfl,SqL.of hr0,e0,_,rfl,_,_,rfl,rfl,⟨h0,h1⟩,_,rfl,r,_,_,_,rfl,rfl,hr0,rfl,_,rfl,q⟩
theorem vm {α:Type} {xs:List α} {d:Int} (h0:0≤d) (h1:d < (xs.length:Int)):∃ v,v∈xs∧atI xs d=some v:=by
 have hk:d.toNat < xs.length:=by lia
 have ek:((d.toNat:Nat):Int)=d:=by lia
 have e:atI xs ((d.toNat:Nat):Int)=some xs[d.toNat]:=ce (by simp [hk]);rw [ek] at e;exact ⟨xs[d.toNat],aBt hk,e⟩
theorem mod_lt (n:Int) {m:Int} (h:0 < m):0≤n % m∧n % m < m:=⟨aCd _ (by lia),aBT _ h⟩
theorem jO (T:Tx K mg ad) {f:Addr} {fd:FuncData} (F:Gn K mg "_law_cell_at" cZ ["script","k"] f fd):FnOk P w K mg base CX0 1 f fd ["script","k"] (jN K ad):=by
 refine F.F.ok kx (fun vs H Q E h=>?_) (fun cdv A outer s H vs Q E hr h=>?_)
 ·obtain ⟨a,ns,k,rfl,_⟩:=h
  rfl
 obtain ⟨a,ns,k,rfl,hS,h63,q⟩:=h;refine ⟨_,(@pss_cons _ _ _ _ _ (@ps_if _ _ _ _ _ _ _ _ (pt_cmpR fM (pv 1) (pe_callB (bg (K:=K) rfl) rfl T.z_len boot_len (@pa1 _ _ _ (pv 0) (by rfl))) (nomark _)) (@pss_one _ _ _ (@ps_ret _ _ _ _ (@pe_ix _ _ _ _ _ _ _ (aP (K:=K) rfl) (pv 0) (pv 1) (fun _ _=>rfl)))) pss_nil) (@pss_one _ _ _ (@ps_ret _ _ _ _ pe_int))),?_⟩;refine ⟨_,rfl,_,rfl,a,_,rfl,.inl hS,_,_,rfl,rfl,_,rfl,?_⟩;rw [aAa];refine aK (fun c=>?_) (fun c=>?_)
 ·have c':(k:Int) < ns.length:=of_decide_eq_true c;obtain ⟨v,hv,e⟩:=vm (xs:=ns.map V.int) (d:=(k:Int)) (by lia) (by rw [aAa];exact c');obtain ⟨i,_,rfl⟩:=aAr.mp hv;exact ⟨_,rfl,_,rfl,a,_,_,_,rfl,rfl,hS,e,q i⟩
 ·exact q 0
theorem BJ {y:Int} (h0:0≤y) (h1:y < 2147483647 ^ 40):IntMulOk (y / 8) (10 ^ Int.toNat 60):=by
 refine IntMulOk.of_le (m:=1240) (n:=200) (intBits_le_iff.mpr ?_) (by decide +kernel) (by decide);have h2:(2147483647:Int) ^ 40≤((2 ^ 1240:Nat):Int):=by decide +kernel
 have h3:y / 8≤y:=Int.ediv_le_self _ h0;have h4:0≤y / 8:=by lia
 lia
theorem vn {y c:Int} {i:Nat} (h0:0≤y) (h1:y < 2147483647 ^ i) (c0:0≤c) (c1:c < 2147483647):0≤y*2147483647+c∧y*2147483647+c < 2147483647 ^ (i+1):=by
 have e:(2147483647:Int) ^ (i+1)=2147483647 ^ i*2147483647:=Int.pow_succ _ _;rw [e]
 generalize (2147483647:Int) ^ i=b at *
 lia
theorem qI (T:Tx K mg ad) {f:Addr} {fd:FuncData} (F:Gn K mg "_law_own" iG ["script","k","turn"] f fd):FnOk P w K mg base CX0 2 f fd ["script","k","turn"] (qH K ad):=by
 obtain ⟨_,_,JS⟩:=T.law_cell_at;have Kp:=jO (P:=P) (w:=w) (base:=base) T JS;obtain ⟨_,_,J6⟩:=T.law_mixed;have KG:=mH (P:=P) (w:=w) (base:=base) T J6;refine F.F.ok cO (fun vs H Q E h=>?_) (fun cdv A outer s H vs Q E hr h=>?_)
 ·obtain ⟨a,ns,k,t,rfl,_⟩:=h
  rfl
 obtain ⟨a,ns,k,t,rfl,hS,h63,hk,ht,q⟩:=h;refine ⟨_,(@pss_cons _ _ _ _ _ (@ps_set _ _ 3 _ _ _ _ cO.nd rfl (Or.inl rfl) (pcl JS Kp (hr.mono (by lia)) rfl (@pa2 _ _ _ _ _ (pv 0) (pv 1) (by rfl) (by rfl))) (by rfl) (.inl rfl)) (@pss_cons _ _ _ _ _ (@ps_set _ _ 4 _ _ _ _ cO.nd rfl (Or.inl rfl) pe_int (by rfl) (.inl rfl)) (@pss_cons _ _ _ _ _ (ps_for PassesOwn.never rfl (bf rfl T.z_range (@pa1 _ _ _ pe_int (by rfl))) (ao (i:=5) cO.nd rfl (Or.inl rfl))
    (@pss_one _ _ _ (@ps_set _ _ 4 _ _ _ _ cO.nd rfl (Or.inl rfl) (@pe_op _ _ _ _ _ _ _ _ aB (@pe_op _ _ _ _ _ _ _ _ em (pv 4) pe_int) (pcl J6 KG (hr.mono (by lia)) rfl (@pa2 _ _ _ _ _ (@pe_op _ _ _ _ _ _ _ _ aB (@pe_op _ _ _ _ _ _ _ _ aB (@pe_op _ _ _ _ _ _ _ _ dz (pe_callB uF rfl T.z_sum boot_sum (@pa1 _ _ _ (pv 0) (by rfl))) (@pe_op _ _ _ _ _ _ _ _ er pe_int pe_int)) (pv 3)) (pv 1)) (@pe_op _ _ _ _ _ _ _ _ aB (@pe_op _ _ _ _ _ _ _ _ aB (@pe_op _ _ _ _ _ _ _ _ em pe_int (pv 1)) (@pe_op _ _ _ _ _ _ _ _ em pe_int (pv 2))) (pv 5)) (by rfl) (by rfl)))) (by rfl) (.inl rfl)))) (@pss_cons _ _ _ _ _ (@ps_if _ _ _ _ _ _ _ _ (PW.pt (@pw_and _ _ _ _ _ _ _ (pt_cmpR GX (pv 3) (@pe_op _ _ _ _ _ _ _ _ er pe_int pe_int) (nomark _)) (@pw_and1 _ _ _ _ (pt_cmpR op_eq (pv 2) pe_int (nomark _))))) (@pss_one _ _ _ (@ps_ret _ _ _ _ (@pe_lst _ _ _ _ (@pa1 _ _ _ (@pe_op _ _ _ _ _ _ _ _ aB (@pe_op _ _ _ _ _ _ _ _ dz (pv 3) (@pe_op _ _ _ _ _ _ _ _ er pe_int pe_int)) (@pe_op _ _ _ _ _ _ _ _ q9 (@pe_op _ _ _ _ _ _ _ _ jA (pv 4) pe_int) (@pe_op _ _ _ _ _ _ _ _ er pe_int pe_int))) (by rfl))))) pss_nil) (@pss_one _ _ _ (@ps_ret _ _ _ _ (@pe_lst _ _ _ _ (@pa1 _ _ _ (@pe_op _ _ _ _ _ _ _ _ jA (pv 4) pe_int) (by rfl))))))))),?_⟩
 refine ⟨_,rfl,_,rfl,a,ns,k,rfl,hS,h63,fun x=>?_⟩;refine ⟨40,rfl,by decide,by decide,gY (lo:=0) (n:=(40:Int).toNat) (fun i σ H1=>H1=H∧∃ y v,(0≤y∧y < 2147483647 ^ i)∧σ=[some (.ref a),some (.int k),some (.int t),some (.int x),some (.int y),v]) ⟨rfl,0,_,⟨aBD _,by decide⟩,rfl⟩ ?_ ?_⟩
 ·rintro i σ H1 hi ⟨rfl,y,v,⟨y0,y1⟩,rfl⟩;refine ⟨_,rfl,_,_,rfl,rfl,.inr ⟨by decide,by decide⟩,?_⟩;refine ⟨_,rfl,a,ns,rfl,rfl,hS,_,_,rfl,rfl,⟨by decide,by decide,by decide⟩,_,_,rfl,rfl,(by show (0:Int) < 10 ^ (60:Int).toNat;decide +kernel),?_⟩;refine ⟨_,rfl,_,_,rfl,rfl,_,rfl,_,_,rfl,rfl,?_⟩;refine ⟨_,rfl,_,_,rfl,rfl,.inl ⟨by decide,by decide⟩,_,rfl,_,_,rfl,rfl,.inl ⟨by decide,by decide⟩,?_⟩;refine ⟨_,_,rfl,rfl,_,rfl,_,_,rfl,rfl,_,_,rfl,fun m m0 m1=>?_⟩;exact ⟨_,_,rfl,rfl,rfl,_,_,vn y0 y1 m0 m1,rfl⟩
 ·rintro σ H1 ⟨rfl,y,v,⟨y0,y1⟩,rfl⟩;refine ⟨_,rfl,_,_,rfl,rfl,⟨by decide,by decide,by decide⟩,_,_,rfl,rfl,_,rfl,?_⟩;refine aK (fun c1=>?_) (fun c1=>?_)
  ·refine ⟨_,rfl,rfl,_,rfl,aK (fun c2=>?_) (fun c2=>?_)⟩
   ·refine ⟨_,rfl,_,_,rfl,rfl,⟨by decide,by decide,by decide⟩,_,_,rfl,rfl,(by show (0:Int) < 10 ^ (60:Int).toNat;decide +kernel),?_⟩;refine ⟨_,rfl,_,_,rfl,rfl,⟨by decide,by decide⟩,_,_,rfl,rfl,⟨by decide,by decide,by decide⟩,?_⟩;refine ⟨_,_,rfl,rfl,BJ y0 y1,_,_,rfl,rfl,sz1,fun r hr'=>q r _ _ hr' (aj hr' _) ac⟩
   ·exact ⟨_,rfl,_,_,rfl,rfl,⟨by decide,by decide⟩,sz1,fun r hr'=>q r _ _ hr' (aj hr' _) ac⟩
  ·exact ⟨_,rfl,_,_,rfl,rfl,⟨by decide,by decide⟩,sz1,fun r hr'=>q r _ _ hr' (aj hr' _) ac⟩
structure Nam (m:Nat) (ss:List Str):Prop where
 len:ss.length=m
 asc:ss.Pairwise ltS
 ok:∀ z∈ss,cu z=true∧z≠ "zzzzzzzz"
 odd:ox ss
theorem vo {a b:Str} (h:¬ ltS b a) (n:a≠b):ltS a b:=by
 by_cases c:ltS a b
 ·exact c
 ·refine absurd ?_ n;have e:a.cps.toList=b.cps.toList:=List.le_antisymm (List.not_lt.mp h) (List.not_lt.mp c)
  cases a
  cases b
  simp only at e;rw [Array.toList_inj.mp e]
theorem lG:∀ (l:List Str) (p:Str),risingS p l=true→(p :: l).Nodup→(p :: l).Pairwise ltS
 | [],p,_,_=>aBz _ _
 | x :: l,p,h,nd=>by
  simp only [risingS,ltCps_eq,aAs,aBY,decide_eq_false_iff_not] at h;have nd':=aBo.mp nd;have ih:=lG l x h.2 nd'.2;have px:ltS p x:=vo h.1 fun e=>nd'.1 (e ▸ aAd);refine aBx.mpr ⟨fun y hy=>?_,ih⟩;rcases aAp.mp hy with rfl | hy
  ·exact px
  ·exact List.lt_trans px ((aBx.mp ih).1 y hy)
theorem lI {l:List Str} (h:sortedS l=true) (nd:l.Nodup):l.Pairwise ltS:=by
 cases l with
 | nil=>exact .nil
 | cons x l=>exact lG l x h nd
theorem jP {ss l:List Str} (hp:ss.Perm l) (hs:sortedS ss=true) (nd:l.Nodup) (ok:∀ z∈l,cu z=true∧z≠ "zzzzzzzz") (od:ox l):Nam l.length ss :=
 ⟨hp.length_eq,lI hs (hp.nodup_iff.mpr nd),fun z hz=>ok z (hp.mem_iff.mp hz),fun z hz=>⟨(od z (hp.mem_iff.mp hz)).1,fun y hy=>(od z (hp.mem_iff.mp hz)).2 y (hp.mem_iff.mp hy)⟩⟩
def f1 (k:Nat):Str:=Txt.slice "abcdefgh" none (some (0+(k:Int)+1))
theorem HA:∀ m,m < 9→((List.range m).map f1).Pairwise ltS∧∀ z∈(List.range m).map f1,cu z=true∧z≠ "zzzzzzzz" :=by decide +kernel
def words8:List Str:=["eac","eachx","list","lists","number","rows","text","words"]
def f2 (b k:Nat):Str:=words8.getD ((b+k) % 8) ""
theorem HB:∀ b,b < 26→((List.range 8).map (f2 b)).Nodup∧∀ z∈(List.range 8).map (f2 b),cu z=true∧z≠ "zzzzzzzz" :=by decide +kernel
def tails:List Str:=["","a","zz","eachone"]
def f3 (b:Nat) (t:Str) (k:Nat):Str:=⟨#[letters.cps.toList.getD ((b+7*k) % 26) 0]⟩++t
theorem HD:∀ b,b < 26→∀ t∈tails,((List.range 8).map (f3 b t)).Nodup∧∀ z∈(List.range 8).map (f3 b t),cu z=true∧z≠ "zzzzzzzz" :=by decide +kernel
theorem BK:∀ m,m < 9→ox ((List.range m).map f1):=by decide +kernel
theorem BM:∀ b,b < 26→ox ((List.range 8).map (f2 b)):=by decide +kernel
theorem BN:∀ b,b < 26→∀ t∈tails,ox ((List.range 8).map (f3 b t)):=by decide +kernel
theorem HE {f:Nat→Str} {m:Nat} (hm:m≤8) (h:ox ((List.range 8).map f)):ox ((List.range m).map f):=by
 have s:((List.range m).map f).Sublist ((List.range 8).map f):=(List.range_sublist.mpr hm).map f;exact fun z hz=>⟨(h z (s.subset hz)).1,fun y hy=>(h z (s.subset hz)).2 y (s.subset hy)⟩
theorem yh {f:Nat→Str} {m:Nat} (hm:m≤8) (h:((List.range 8).map f).Nodup∧∀ z∈(List.range 8).map f,cu z=true∧z≠ "zzzzzzzz"):((List.range m).map f).Nodup∧∀ z∈(List.range m).map f,cu z=true∧z≠ "zzzzzzzz" :=by
 have s:((List.range m).map f).Sublist ((List.range 8).map f):=(List.range_sublist.mpr hm).map f;exact ⟨s.nodup h.1,fun z hz=>h.2 z (s.subset hz)⟩
inductive I_sp_law_names (K:W.Frag)   (vs:List V) (H:Hp) (Q:VK):Prop
 | mk (r:Addr) (c:Int) (m:Nat):(vs=[.ref r,.int m])→(H r=some (.lst [.int c]))→(m≤8)→(∀ p ss c' H',But r H H'→H p=none→H' r=some (.lst [.int c'])→H' p=some (.lst (ss.map V.str))→Nam m ss→Q (.ref p) H')→I_sp_law_names K vs H Q
def mI (K:W.Frag) (_:Ads)  : Sp:=fun vs H Q _=>I_sp_law_names K vs H Q
theorem mJ {α:Type} {l:List α} {n:Nat} {e:α} (h:n < l.length):l.getD n e=l[n]:=by simp [List.getD,h]
theorem rC {α:Type} (f:α→V) (ws:List α) (d:Int) (e:α) (h0:0≤d) (h1:d < (ws.length:Int)):atI (ws.map f) d=some (f (ws.getD d.toNat e)):=by
 have hk:d.toNat < ws.length:=by lia
 have ek:((d.toNat:Nat):Int)=d:=by lia
 have e':atI (ws.map f) ((d.toNat:Nat):Int)=some (f ws[d.toNat]):=ce (by simp [hk]);rw [ek] at e';rw [e',mJ hk]
theorem fZ (f:Nat→Str) (i:Nat):((List.range i).map f).map V.str++[V.str (f i)]=((List.range (i+1)).map f).map V.str:=by simp [List.range_succ]
theorem ig (f:Nat→Str) {i:Nat} (h:i≤8):(((List.range i).map f).map V.str).length < sizeLine:=by rw [aAa,aAa,aBh];exact ak (by lia)
theorem fz {r l:Addr} {o:HO} {H H':Hp} (b:But r H H') (hl:H l=none):But r H (upd H' l o):=fun x u n e=>by rw [ag (ah e hl)];exact b x u n e
theorem HG {b k:Nat}:atI (words8.map V.str) (((b:Int)+(0+(k:Int))) % 8)=some (.str (f2 b k)):=by
 obtain ⟨h0,h1⟩:=mod_lt ((b:Int)+(0+(k:Int))) (m:=8) (by decide);rw [rC V.str words8 _ "" h0 h1,show (((b:Int)+(0+(k:Int))) % 8).toNat=(b+k) % 8 by lia]
 rfl
theorem HH {b k:Nat}:atI letters.cps.toList (((b:Int)+7*(0+(k:Int))) % 26)=some (letters.cps.toList.getD ((b+7*k) % 26) 0):=by
 obtain ⟨h0,h1⟩:=mod_lt ((b:Int)+7*(0+(k:Int))) (m:=26) (by decide);have hk:(b+7*k) % 26 < letters.cps.toList.length:=by
  rw [show letters.cps.toList.length=26 by decide +kernel];lia
 have ek:(((b+7*k) % 26:Nat):Int)=((b:Int)+7*(0+(k:Int))) % 26:=by lia
 have e':atI letters.cps.toList ((((b+7*k) % 26:Nat)):Int)=some letters.cps.toList[(b+7*k) % 26]:=ce (by simp [hk]);rw [ek] at e';rw [e',mJ hk]
theorem dJ (T:Tx K mg ad) {f:Addr} {fd:FuncData} (F:Gn K mg "_law_names" cg ["row","many"] f fd):FnOk P w K mg base CX0 2 f fd ["row","many"] (mI K ad):=by
 obtain ⟨_,_,IR⟩:=T.law_digit;have IS:=aE (P:=P) (w:=w) (base:=base) T IR;refine F.F.ok bQ (fun vs H Q E h=>?_) (fun cdv A outer s H vs Q E hr h=>?_)
 ·obtain ⟨r,c,m,rfl,_⟩:=h
  rfl
 obtain ⟨r,c,m,rfl,hr0,hm,q⟩:=h;refine ⟨_,(@pss_cons _ _ _ _ _ (@ps_set _ _ 2 _ _ _ _ bQ.nd rfl (Or.inr rfl) (pcl IR IS (hr.mono (by lia)) rfl (@pa2 _ _ _ _ _ (pv 0) pe_int (by rfl) (by rfl))) (by rfl) (.inl rfl)) (@pss_cons _ _ _ _ _ (@ps_set _ _ 3 _ _ _ _ bQ.nd rfl (Or.inr rfl) (@pe_ix _ _ _ _ _ _ _ (aP (K:=K) rfl) (@pe_lst _ _ _ _ (@aI _ _ _ _ _ pe_str (@pa3 _ _ _ _ _ _ _ pe_str pe_str pe_str (by rfl) (by rfl) (by rfl)) (by rfl))) (pcl IR IS (hr.mono (by lia)) rfl (@pa2 _ _ _ _ _ (pv 0) pe_int (by rfl) (by rfl))) (fun _ _=>rfl)) (by rfl) (.inl rfl)) (@pss_cons _ _ _ _ _ (@ps_set _ _ 4 _ _ _ _ bQ.nd rfl (Or.inl rfl) (pcl IR IS (hr.mono (by lia)) rfl (@pa2 _ _ _ _ _ (pv 0) pe_int (by rfl) (by rfl))) (by rfl) (.inl rfl)) (@pss_cons _ _ _ _ _ (@ps_if _ _ _ _ _ _ _ _ (pt_cmpR op_eq (pv 4) pe_int (nomark _)) (@pss_one _ _ _ (@ps_ret _ _ _ _ (pe_comp rfl (cs0 (NL:=["k"]) rfl (by decide +kernel) (by decide +kernel)) (bf rfl T.z_range (@pa1 _ _ _ (pv 1) (by rfl))) (fun _ _ _ _=>(ao (i:=0) (show List.Nodup (α:=Str) ["k"] by decide +kernel) rfl (Or.inl rfl))) (fun _ _ _ _=>(pe_slice sl_str pe_str dB (po_some (@pe_op _ _ _ _ _ _ _ _ aB (pv 0) pe_int))))))) pss_nil) (@pss_cons _ _ _ _ _ (@ps_if _ _ _ _ _ _ _ _ (pt_cmpR op_eq (pv 4) pe_int (nomark _)) (@pss_cons _ _ _ _ _ (@ps_set _ _ 5 _ _ _ _ bQ.nd rfl (Or.inr rfl) (@pe_lst _ _ _ _ (@aI _ _ _ _ _ pe_str (@aI _ _ _ _ _ pe_str (@aI _ _ _ _ _ pe_str (@aI _ _ _ _ _ pe_str (@aI _ _ _ _ _ pe_str (@pa3 _ _ _ _ _ _ _ pe_str pe_str pe_str (by rfl) (by rfl) (by rfl)) (by rfl)) (by rfl)) (by rfl)) (by rfl)) (by rfl))) (by rfl) (.inl rfl)) (@pss_one _ _ _ (@ps_ret _ _ _ _ (pe_callB (iO (K:=K) rfl) rfl T.z_sorted boot_sorted (@pa1 _ _ _ (pe_comp rfl (csR (sc:=ai cg) (NL:=["k"]) (N:=["row","many","base","tail","way","words"]) (ρ:=[2,5]) (N':=["k","base","words"]) rfl rfl rfl (by decide +kernel) (by decide +kernel) (by decide +kernel) rfl (by decide +kernel)) (bf rfl T.z_range (@pa1 _ _ _ (pv 1) (by rfl))) (fun _ _ _ _=>(ao (i:=0) (show List.Nodup (α:=Str) ["k","base","words"] by decide +kernel) rfl (Or.inl rfl))) (fun _ _ _ _=>(@pe_ix _ _ _ _ _ _ _ (aP (K:=K) rfl) (pv 2) (@pe_op _ _ _ _ _ _ _ _ dz (@pe_op _ _ _ _ _ _ _ _ aB (pv 1) (pv 0)) pe_int) (fun _ _=>rfl)))) (by rfl)))))) pss_nil) (@pss_one _ _ _ (@ps_ret _ _ _ _ (pe_callB (iO (K:=K) rfl) rfl T.z_sorted boot_sorted (@pa1 _ _ _ (pe_comp rfl (csR (sc:=ai cg) (NL:=["k"]) (N:=["row","many","base","tail","way","words"]) (ρ:=[2,3]) (N':=["k","base","tail"]) rfl rfl rfl (by decide +kernel) (by decide +kernel) (by decide +kernel) rfl (by decide +kernel)) (bf rfl T.z_range (@pa1 _ _ _ (pv 1) (by rfl))) (fun _ _ _ _=>(ao (i:=0) (show List.Nodup (α:=Str) ["k","base","tail"] by decide +kernel) rfl (Or.inl rfl))) (fun _ _ _ _=>(@pe_op _ _ _ _ _ _ _ _ op_add_str (@pe_ix _ _ _ _ _ _ _ ix_str pe_str (@pe_op _ _ _ _ _ _ _ _ dz (@pe_op _ _ _ _ _ _ _ _ aB (pv 1) (@pe_op _ _ _ _ _ _ _ _ em pe_int (pv 0))) pe_int) (fun _ _=>rfl)) (pv 2)))) (by rfl)))))))))),?_⟩;refine ⟨_,rfl,r,c,26,rfl,hr0,by decide,by decide,?_⟩;obtain ⟨b0,b1⟩:=mod_lt c (m:=26) (by decide);obtain ⟨b,hb⟩:∃ b:Nat,((b:Nat):Int)=c % 26:=⟨(c % 26).toNat,by lia⟩;have b26:b < 26:=by lia
 rw [← hb];refine ⟨(by show 4≤sizeLine;decide),fun pl hpl=>?_⟩;have hrp:r≠pl:=fun e=>by rw [← e,ac] at hpl;cases hpl
 have hplH:H pl=none:=by rw [ag hrp.symm] at hpl;exact hpl
 refine ⟨_,rfl,r,c / 26,4,rfl,by rw [ag hrp];exact ac,by decide,by decide,?_⟩;obtain ⟨t0,t1⟩:=mod_lt (c / 26) (m:=4) (by decide);refine ⟨pl,_,_,_,rfl,rfl,SqL.of (by rw [ag hrp.symm];exact ac),rC V.str tails _ "" t0 t1,?_⟩;have ht:tails.getD (c / 26 % 4).toNat "" ∈tails:=by
  rw [mJ (show (c / 26 % 4).toNat < tails.length by show _ < 4;lia)];exact aBt _
 generalize tails.getD (c / 26 % 4).toNat "" = t at ht
 refine ⟨_,rfl,r,c / 26 / 4,5,rfl,ac,by decide,by decide,?_⟩;have B1:=(((But.put (H:=H) (r:=r) (o:=.lst [.int (c / 26)])).trans (But.same (aj hpl (.lst [.str "",.str "a",.str "zz",.str "eachone"])))).trans (But.put (o:=.lst [.int (c / 26 / 4)]))).trans (But.put (o:=.lst [.int (c / 26 / 4 / 5)]));have r1:(upd (upd (upd (upd H r (.lst [.int (c / 26)])) pl (.lst [.str "",.str "a",.str "zz",.str "eachone"])) r (.lst [.int (c / 26 / 4)])) r (.lst [.int (c / 26 / 4 / 5)])) r=some (.lst [.int (c / 26 / 4 / 5)]):=ac;have mN:((m:Nat):Int).toNat=m:=aA8 m;have free:∀ {l:Addr} {Hx:Hp},But r H Hx→r≠l→Hx l=none→H l=none:=fun {l Hx} B n e=>by
  cases e':H l with
  | none=>rfl
  | some o=>rw [B l o n.symm e'] at e;cases e
 refine ⟨_,rfl,rfl,_,rfl,aK (fun c1=>?_) (fun c1=>?_)⟩
 ·refine ⟨_,rfl,(m:Int),rfl,by lia,by lia,fun l hln=>?_⟩;rw [mN];have lr:r≠l:=ah r1 hln;have lH:H l=none:=free B1 lr hln;refine aU (fun i ys σ H'=>i≤8∧ys=((List.range i).map f1).map V.str∧But r H H'∧H' r=some (.lst [.int (c / 26 / 4 / 5)])∧H' l=some (.lst ys)∧σ.length=1) ⟨aAx _,rfl,B1.trans (But.same (aj hln _)),(by rw [ag lr];exact r1),ac,rfl⟩ ?_ ?_
  ·rintro i ys σ H' N hi ⟨h8,rfl,B2,r2,l2,hσ⟩ next
   match σ,hσ with
   | [_],_ =>
    exact ⟨_,rfl,_,_,rfl,rfl,_,rfl,_,rfl,(by decide),l2,ig f1 (by lia),next _ _ _ ⟨by lia,fZ f1 i,fz B2 lH,(by rw [ag lr];exact r2),ac,rfl⟩⟩
  ·intro ys σ H' hI9;obtain ⟨h8,rfl,B2,r2,l2,hσ⟩:=hI9
   obtain ⟨u1,u2⟩:=HA m (by lia);exact q l _ _ _ B2 lH r2 l2 ⟨by rw [aAa,aBh],u1,u2,BK m (by lia)⟩
 refine ⟨_,rfl,rfl,_,rfl,aK (fun c2=>?_) (fun c2=>?_)⟩
 ·refine ⟨(by show 8≤sizeLine;decide),fun pw hpw=>?_⟩;have wr:r≠pw:=ah r1 hpw;have wH:H pw=none:=free B1 wr hpw;refine ⟨_,rfl,(m:Int),rfl,by lia,by lia,fun l hln=>?_⟩;rw [mN];have r2:=(aj hpw (.lst (words8.map V.str))) _ _ r1;have lr:r≠l:=ah r2 hln;have lw:pw≠l:=ah (ac (o:=.lst (words8.map V.str))) hln;have lH:H l=none:=free (B1.trans (But.same (aj hpw _))) lr hln;refine aU (fun i ys σ H'=>i≤8∧ys=((List.range i).map (f2 b)).map V.str∧But r H H'∧H' r=some (.lst [.int (c / 26 / 4 / 5)])∧H' l=some (.lst ys)∧H' pw=some (.lst (words8.map V.str))∧∃ v,σ=[v,some (.int b),some (.ref pw)]) ⟨aAx _,rfl,(B1.trans (But.same (aj hpw _))).trans (But.same (aj hln _)),(by rw [ag lr];exact r2),ac,(by rw [ag lw];exact ac),_,rfl⟩ ?_ ?_
  ·rintro i ys σ H' N hi ⟨h8,rfl,B2,r2,l2,w2,v,rfl⟩ next;exact ⟨_,rfl,_,rfl,_,rfl,_,_,rfl,rfl,_,_,rfl,rfl,(show (0:Int) < 8 by decide),pw,_,_,_,rfl,rfl,SqL.of w2,HG,l2,ig (f2 b) (by lia),next _ _ _ ⟨by lia,fZ (f2 b) i,fz B2 lH,(by rw [ag lr];exact r2),ac,(by rw [ag lw];exact w2),_,rfl⟩⟩
  ·intro ys σ H' hI9;obtain ⟨h8,rfl,B2,r2,l2,w2,v,rfl⟩:=hI9
   obtain ⟨u1,u2⟩:=yh hm (HB b b26);refine ⟨l,_,rfl,SqL.of l2,by rw [aAa,aBh];lia,fun a ss' ha hp hs=>?_⟩;have ar:r≠a:=ah r2 ha;have n:=jP hp hs u1 u2 (HE hm (BM b b26));rw [aAa,aBh] at n;exact q a ss' _ _ (B2.trans (But.same (aj ha _))) (free B2 ar ha) (by rw [ag ar];exact r2) ac n
 ·refine ⟨_,rfl,(m:Int),rfl,by lia,by lia,fun l hln=>?_⟩;rw [mN];have lr:r≠l:=ah r1 hln;have lH:H l=none:=free B1 lr hln;refine aU (fun i ys σ H'=>i≤8∧ys=((List.range i).map (f3 b t)).map V.str∧But r H H'∧H' r=some (.lst [.int (c / 26 / 4 / 5)])∧H' l=some (.lst ys)∧∃ v,σ=[v,some (.int b),some (.str t)]) ⟨aAx _,rfl,B1.trans (But.same (aj hln _)),(by rw [ag lr];exact r1),ac,_,rfl⟩ ?_ ?_
  ·rintro i ys σ H' N hi ⟨h8,rfl,B2,r2,l2,v,rfl⟩ next;have tl:t.length≤10:=(show ∀ t∈tails,t.length≤10 by decide +kernel) t ht;exact ⟨_,rfl,_,rfl,_,_,rfl,rfl,.inl ⟨by decide,by decide⟩,_,_,rfl,rfl,_,_,rfl,rfl,(show (0:Int) < 26 by decide),_,_,_,rfl,rfl,(by decide),HH,_,rfl,_,_,rfl,rfl,ye (by show 1+t.length≤1000;lia),l2,ig (f3 b t) (by lia),next _ _ _ ⟨by lia,fZ (f3 b t) i,fz B2 lH,(by rw [ag lr];exact r2),ac,_,rfl⟩⟩
  ·intro ys σ H' hI9;obtain ⟨h8,rfl,B2,r2,l2,v,rfl⟩:=hI9
   obtain ⟨u1,u2⟩:=yh hm (HD b b26 t ht);refine ⟨l,_,rfl,SqL.of l2,by rw [aAa,aBh];lia,fun a ss' ha hp hs=>?_⟩;have ar:r≠a:=ah r2 ha;have n:=jP hp hs u1 u2 (HE hm (BN b b26 t ht));rw [aAa,aBh] at n;exact q a ss' _ _ (B2.trans (But.same (aj ha _))) (free B2 ar ha) (by rw [ag ar];exact r2) ac n
def IM (K:W.Frag) (r:Addr) (H:Hp) (Q:VK):Prop:=∀ v (i j n':Int) H',But r H H'→H' r=some (.lst [.int n'])→IsP K H' (.tup [.str "number",.int i,.int j]) v→FK 1 1 (.tup [.str "number",.int i,.int j])→Q v H'
inductive I_sp_law_number_kind (K:W.Frag)   (vs:List V) (H:Hp) (Q:VK):Prop
 | mk (r:Addr) (c:Int):(vs=[.ref r])→(H r=some (.lst [.int c]))→(IM K r H Q)→I_sp_law_number_kind K vs H Q
def gc (K:W.Frag) (_:Ads)  : Sp:=fun vs H Q _=>I_sp_law_number_kind K vs H Q
theorem p30:(10:Int) ^ (30:Int).toNat=1000000000000000000000000000000:=by decide +kernel
theorem p29:(10:Int) ^ (29:Int).toNat=100000000000000000000000000000:=by decide +kernel
theorem yi {ns:List Int} {d:Int} (h0:0≤d) (h1:d < (ns.length:Int)):∃ i:Int,i∈ns∧atI (ns.map V.int) d=some (.int i):=by
 obtain ⟨v,hv,e⟩:=vm (xs:=ns.map V.int) h0 (by rw [aAa];exact h1);obtain ⟨i,hi,rfl⟩:=aAr.mp hv;exact ⟨i,hi,e⟩
theorem HI (a b:Int) (k:Bool):∃ i:Int,(i=a∨i=b)∧atI [V.int a,V.int b] (if k=true then 1 else 0)=some (.int i):=by
 cases k with
 | true=>exact ⟨b,.inr rfl,rfl⟩
 | false=>exact ⟨a,.inl rfl,rfl⟩
theorem cH (T:Tx K mg ad) {f:Addr} {fd:FuncData} (F:Gn K mg "_law_number_kind" bP ["row"] f fd):FnOk P w K mg base CX0 2 f fd ["row"] (gc K ad):=by
 obtain ⟨_,_,IR⟩:=T.law_digit;have IS:=aE (P:=P) (w:=w) (base:=base) T IR;refine F.F.ok bJ (fun vs H Q E h=>?_) (fun cdv A outer s H vs Q E hr h=>?_)
 ·obtain ⟨r,c,rfl,_⟩:=h
  rfl
 obtain ⟨r,c,rfl,hr0,q⟩:=h;refine ⟨_,(@pss_cons _ _ _ _ _ (@ps_set _ _ 1 _ _ _ _ bJ.nd rfl (Or.inl rfl) (@pe_ix _ _ _ _ _ _ _ (aP (K:=K) rfl) (@pe_lst _ _ _ _ (@pa2 _ _ _ _ _ (@pe_op _ _ _ _ _ _ _ _ dv (pcl IR IS (hr.mono (by lia)) rfl (@pa2 _ _ _ _ _ (pv 0) pe_int (by rfl) (by rfl))) pe_int) (@pe_op _ _ _ _ _ _ _ _ dv (pcl IR IS (hr.mono (by lia)) rfl (@pa2 _ _ _ _ _ (pv 0) (@pe_op _ _ _ _ _ _ _ _ aB (@pe_op _ _ _ _ _ _ _ _ q9 pe_int (@pe_op _ _ _ _ _ _ _ _ er pe_int pe_int)) pe_int) (by rfl) (by rfl))) (@pe_op _ _ _ _ _ _ _ _ er pe_int pe_int)) (by rfl) (by rfl))) (pe_callTy kY rfl T.z_int boot_int (@pa1 _ _ _ (pe_cmpR op_eq (pcl IR IS (hr.mono (by lia)) rfl (@pa2 _ _ _ _ _ (pv 0) pe_int (by rfl) (by rfl))) pe_int (nomark _)) (by rfl))) (fun _ _=>rfl)) (by rfl) (.inl rfl)) (@pss_cons _ _ _ _ _ (@ps_set _ _ 2 _ _ _ _ bJ.nd rfl (Or.inl rfl) (pe_callB (call_min2 rfl) rfl T.z_min boot_min (@pa2 _ _ _ _ _ (@pe_op _ _ _ _ _ _ _ _ er pe_int pe_int) (@pe_op _ _ _ _ _ _ _ _ aB (pv 1) (@pe_ix _ _ _ _ _ _ _ (aP (K:=K) rfl) (@pe_lst _ _ _ _ (@pa3 _ _ _ _ _ _ _ (pcl IR IS (hr.mono (by lia)) rfl (@pa2 _ _ _ _ _ (pv 0) pe_int (by rfl) (by rfl))) (@pe_op _ _ _ _ _ _ _ _ er pe_int pe_int) (pcl IR IS (hr.mono (by lia)) rfl (@pa2 _ _ _ _ _ (pv 0) pe_int (by rfl) (by rfl))) (by rfl) (by rfl) (by rfl))) (pcl IR IS (hr.mono (by lia)) rfl (@pa2 _ _ _ _ _ (pv 0) pe_int (by rfl) (by rfl))) (fun _ _=>rfl))) (by rfl) (by rfl))) (by rfl) (.inl rfl)) (@pss_one _ _ _ (@ps_ret _ _ _ _ (@pe_tupPK _ K _ _ _ _ rfl (@pa3 _ _ _ _ _ _ _ pe_str (pv 1) (pv 2) (by rfl) (by rfl) (by rfl))))))),?_⟩;refine ⟨_,rfl,r,c,12,rfl,hr0,by decide,by decide,_,_,rfl,rfl,?_⟩;obtain ⟨a0,a1⟩:=mod_lt c (m:=12) (by decide);refine ⟨_,rfl,_,_,rfl,rfl,⟨by decide,by decide,by decide⟩,?_⟩;have m30:(0:Int) < 2*10 ^ (30:Int).toNat+1:=by rw [p30];decide
 refine ⟨_,_,rfl,rfl,mulOk_of_bits (m:=2) (n:=100) (by decide +kernel) (by decide +kernel) (by decide),_,_,rfl,rfl,r,c / 12,2*10 ^ (30:Int).toNat+1,rfl,ac,m30,by rw [p30];decide,?_⟩;obtain ⟨d0,d1⟩:=mod_lt (c / 12) m30;refine ⟨_,_,rfl,rfl,⟨by decide,by decide,by decide⟩,_,_,rfl,rfl,sz2,fun p hp=>?_⟩;have hrp:r≠p:=fun e=>by rw [← e,ac] at hp;cases hp
 obtain ⟨low,hlow,elow⟩:=HI (c % 12 - 6) (c / 12 % (2*10 ^ (30:Int).toNat+1) - 10 ^ (30:Int).toNat) (decide (V.int (c / 12 / (2*10 ^ (30:Int).toNat+1) % 4)=V.int 1))
 have l0:-1000000000000000000000000000000≤low:=by
  rw [p30] at hlow d0 d1;rcases hlow with h | h <;> lia
 have l1:low≤1000000000000000000000000000000:=by
  rw [p30] at hlow d0 d1;rcases hlow with h | h <;> lia
 refine ⟨_,rfl,r,c / 12 / (2*10 ^ (30:Int).toNat+1),4,rfl,(by rw [ag hrp];exact ac),by decide,by decide,rfl,.inr ⟨_,rfl,p,_,_,_,rfl,rfl,SqL.of (by rw [ag hrp.symm];exact ac),elow,?_⟩⟩;have B1:=(((But.put (H:=H) (r:=r) (o:=.lst [.int (c / 12)])).trans (But.put (o:=.lst [.int (c / 12 / (2*10 ^ (30:Int).toNat+1))]))).trans (But.same (aj hp (.lst [.int (c % 12 - 6),.int (c / 12 % (2*10 ^ (30:Int).toNat+1) - 10 ^ (30:Int).toNat)])))).trans (But.put (o:=.lst [.int (c / 12 / (2*10 ^ (30:Int).toNat+1) / 4)]))
 generalize hc2:c / 12 / (2*10 ^ (30:Int).toNat+1) / 4=c2 at B1
 refine ⟨_,_,rfl,rfl,⟨by decide,by decide,by decide⟩,_,rfl,_,rfl,r,c2,9,rfl,hc2 ▸ ac,by decide,by decide,_,_,rfl,rfl,⟨by decide,by decide,by decide⟩,_,rfl,r,c2 / 9,2,rfl,ac,by decide,by decide,sz3,fun p2 hp2=>?_⟩;have hrp2:r≠p2:=fun e=>by rw [← e,ac] at hp2;cases hp2
 obtain ⟨e0,e1⟩:=mod_lt (c2 / 9 / 2) (m:=3) (by decide);obtain ⟨x,hx,ex⟩:=yi (ns:=[c2 % 9,10 ^ (29:Int).toNat,c2 / 9 % 2]) e0 e1
 have x0:0≤x:=by
  have h1:=(mod_lt c2 (m:=9) (by decide)).1;have h2:=(mod_lt (c2 / 9) (m:=2) (by decide)).1;simp only [p29,aAp,aAF,or_false] at hx;lia
 refine ⟨_,rfl,r,c2 / 9 / 2,3,rfl,(by rw [ag hrp2];exact ac),by decide,by decide,p2,_,_,_,rfl,rfl,SqL.of (by rw [ag hrp2.symm];exact ac),ex,_,_,rfl,rfl,_,_,rfl,?_⟩;refine ⟨_,rfl,_,rfl,[.str "number",.int low,.int _],.cons .str (.cons .int (.cons .int .nil)),sz3,fun v H4 g4 hv=>?_⟩;refine q v low _ (c2 / 9 / 2 / 3) H4 ?_ (g4 _ _ ac) hv (.number _ _ l0 ?_ ?_)
 ·exact ((((B1.trans But.put).trans But.put).trans (But.same (aj hp2 _))).trans But.put).trans (But.same g4)
 ·rw [p30]
  split <;> lia
 ·rw [p30]
  split <;> lia
def IN (K:W.Frag) (r:Addr) (H:Hp) (Q:VK):Prop:=∀ v d (n':Int) H',But r H H'→H' r=some (.lst [.int n'])→IsP K H' d v→FK 1 1 d→Q v H'
inductive I_sp_law_leaf_kind (K:W.Frag)   (vs:List V) (H:Hp) (Q:VK):Prop
 | mk (r:Addr) (c:Int):(vs=[.ref r])→(H r=some (.lst [.int c]))→(IN K r H Q)→I_sp_law_leaf_kind K vs H Q
def ii (K:W.Frag) (_:Ads)  : Sp:=fun vs H Q _=>I_sp_law_leaf_kind K vs H Q
theorem Nam.words {m:Nat} {ss:List Str} (h:Nam m ss) (h1:1≤m) (h8:m≤8):eI ss=true∧eI ss.reverse=true:=by
 have l:=h.len;have nd:=gF h.asc;have al:ss.all cu=true:=aAC.mpr fun z hz=>(h.ok z hz).1
 constructor
 ·simp only [eI,aAs,decide_eq_true_eq];exact ⟨⟨⟨by lia,by lia⟩,al⟩,nd⟩
 ·simp only [eI,aAs,decide_eq_true_eq,List.length_reverse,List.all_reverse];exact ⟨⟨⟨by lia,by lia⟩,al⟩,List.pairwise_reverse.mpr (nd.imp fun n e=>n e.symm)⟩
theorem mK {K:W.Frag} {H:Hp}:∀ ss:List Str,IsPs K H (ss.map Dt.str) (ss.map V.str)
 | []=>.nil
 | z :: ss=>.cons .str (mK ss)
theorem ik (T:Tx K mg ad) {f:Addr} {fd:FuncData} (F:Gn K mg "_law_leaf_kind" cq ["row"] f fd):FnOk P w K mg base CX0 3 f fd ["row"] (ii K ad):=by
 obtain ⟨_,_,IR⟩:=T.law_digit;have IS:=aE (P:=P) (w:=w) (base:=base) T IR;obtain ⟨_,_,Jf⟩:=T.law_number_kind;have Ju:=cH (P:=P) (w:=w) (base:=base) T Jf;obtain ⟨_,_,Jg⟩:=T.law_names;have Jv:=dJ (P:=P) (w:=w) (base:=base) T Jg;refine F.F.ok cc (fun vs H Q E h=>?_) (fun cdv A outer s H vs Q E hr h=>?_)
 ·obtain ⟨r,c,rfl,_⟩:=h
  rfl
 obtain ⟨r,c,rfl,hr0,q⟩:=h;refine ⟨_,(@pss_cons _ _ _ _ _ (@ps_set _ _ 1 _ _ _ _ cc.nd rfl (Or.inl rfl) (pcl IR IS (hr.mono (by lia)) rfl (@pa2 _ _ _ _ _ (pv 0) pe_int (by rfl) (by rfl))) (by rfl) (.inl rfl)) (@pss_cons _ _ _ _ _ (@ps_if _ _ _ _ _ _ _ _ (pt_cmpR op_eq (pv 1) pe_int (nomark _)) (@pss_one _ _ _ (@ps_ret _ _ _ _ (pcl Jf Ju (hr.mono (by lia)) rfl (@pa1 _ _ _ (pv 0) (by rfl))))) pss_nil) (@pss_cons _ _ _ _ _ (@ps_if _ _ _ _ _ _ _ _ (pt_cmpR op_eq (pv 1) pe_int (nomark _)) (@pss_one _ _ _ (@ps_ret _ _ _ _ (@pe_tupPK _ K _ _ _ _ rfl (@pa2 _ _ _ _ _ pe_str (@pe_ix _ _ _ _ _ _ _ (aP (K:=K) rfl) (@pe_lst _ _ _ _ (@pa2 _ _ _ _ _ (pcl IR IS (hr.mono (by lia)) rfl (@pa2 _ _ _ _ _ (pv 0) pe_int (by rfl) (by rfl))) (pcl IR IS (hr.mono (by lia)) rfl (@pa2 _ _ _ _ _ (pv 0) pe_int (by rfl) (by rfl))) (by rfl) (by rfl))) (pcl IR IS (hr.mono (by lia)) rfl (@pa2 _ _ _ _ _ (pv 0) pe_int (by rfl) (by rfl))) (fun _ _=>rfl)) (by rfl) (by rfl))))) pss_nil) (@pss_cons _ _ _ _ _ (@ps_set _ _ 2 _ _ _ _ cc.nd rfl (Or.inl rfl) (pcl Jg Jv (hr.mono (by lia)) rfl (@pa2 _ _ _ _ _ (pv 0) (@pe_op _ _ _ _ _ _ _ _ aB pe_int (pcl IR IS (hr.mono (by lia)) rfl (@pa2 _ _ _ _ _ (pv 0) pe_int (by rfl) (by rfl)))) (by rfl) (by rfl))) (by rfl) (.inl rfl)) (@pss_cons _ _ _ _ _ (@ps_if _ _ _ _ _ _ _ _ (pt_cmpR op_eq (pcl IR IS (hr.mono (by lia)) rfl (@pa2 _ _ _ _ _ (pv 0) pe_int (by rfl) (by rfl))) pe_int (nomark _)) (@pss_one _ _ _ (@ps_expr _ _ _ _ (Bh PySem.F.plainAttrs_list PySem.F.slot_list_reverse PySem.F.type_list_reverse qc (pv 2)) (by rfl))) pss_nil) (@pss_one _ _ _ (@ps_ret _ _ _ _ (@pe_tupPK _ K _ _ _ _ rfl (@pa2 _ _ _ _ _ pe_str (pe_callTy (aQ (K:=K) rfl) rfl T.z_tuple boot_tuple (@pa1 _ _ _ (pv 2) (by rfl))) (by rfl) (by rfl)))))))))),?_⟩;refine ⟨_,rfl,r,c,3,rfl,hr0,by decide,by decide,?_⟩;have B1:=But.put (H:=H) (r:=r) (o:=.lst [.int (c / 3)]);refine ⟨_,rfl,rfl,_,rfl,aK (fun c1=>?_) (fun c1=>?_)⟩
 ·exact ⟨_,rfl,r,c / 3,rfl,ac,fun v i j n' H' b e hv fk=>q v _ n' H' (B1.trans b) e hv fk⟩
 refine ⟨_,rfl,rfl,_,rfl,aK (fun c2=>?_) (fun c2=>?_)⟩
 ·refine ⟨_,rfl,r,c / 3,4,rfl,ac,by decide,by decide,_,rfl,r,c / 3 / 4,61,rfl,ac,by decide,by decide,sz2,fun p hp=>?_⟩;have hrp:r≠p:=fun e=>by rw [← e,ac] at hp;cases hp
  obtain ⟨e0,e1⟩:=mod_lt (c / 3 / 4 / 61) (m:=2) (by decide);obtain ⟨x,hx,ex⟩:=yi (ns:=[c / 3 % 4,c / 3 / 4 % 61]) e0 e1
  have xb:0≤x∧x≤60:=by
   have h1:=mod_lt (c / 3) (m:=4) (by decide);have h2:=mod_lt (c / 3 / 4) (m:=61) (by decide);simp only [aAp,aAF,or_false] at hx;lia
  refine ⟨_,rfl,r,c / 3 / 4 / 61,2,rfl,(by rw [ag hrp];exact ac),by decide,by decide,p,_,_,_,rfl,rfl,SqL.of (by rw [ag hrp.symm];exact ac),ex,?_⟩;refine ⟨[.str "text",.int x],.cons .str (.cons .int .nil),sz2,fun v H4 g4 hv=>?_⟩;exact q v _ (c / 3 / 4 / 61 / 2) H4 (((((B1.trans But.put).trans But.put).trans (But.same (aj hp _))).trans But.put).trans (But.same g4)) (g4 _ _ ac) hv (.text x xb.1 xb.2)
 ·obtain ⟨m0,m1⟩:=mod_lt (c / 3) (m:=8) (by decide);obtain ⟨m,hm⟩:∃ m:Nat,((m:Nat):Int)=1+c / 3 % 8:=⟨(1+c / 3 % 8).toNat,by lia⟩;refine ⟨_,rfl,_,rfl,r,c / 3,8,rfl,ac,by decide,by decide,_,_,rfl,rfl,?_⟩;refine ⟨r,c / 3 / 8,m,(by show [V.ref r,V.int (1+c / 3 % 8)]=_;rw [hm]),ac,by lia,fun p ss c' H2 b2 hp r2 p2 nam=>?_⟩;have B2:=(B1.trans But.put).trans b2;have hpH:H p=none:=by
   cases e:H p with
   | none=>rfl
   | some o =>
    have:r≠p:=fun h=>by rw [← h,ac] at hp;cases hp
    rw [ag this.symm,ag this.symm,e] at hp
    cases hp
  have hrp:r≠p:=fun h=>by rw [← h,hr0] at hpH;cases hpH
  obtain ⟨w1,w2⟩:=nam.words (by lia) (by lia);refine ⟨_,rfl,r,c',2,rfl,r2,by decide,by decide,rfl,_,rfl,aK (fun c3=>?_) (fun c3=>?_)⟩
  ·have p3:(upd H2 r (.lst [.int (c' / 2)])) p=some (.lst (ss.map V.str)):=by rw [ag hrp.symm];exact p2
   refine ⟨_,rfl,.inl ⟨rfl,_,SqL.of p3⟩,p,_,rfl,rfl,p3,?_⟩;refine ⟨_,rfl,p,_,_,rfl,SqL.of ac,(by rw [← List.map_reverse];exact mK ss.reverse),fun v H4 g4 hv=>?_⟩;refine ⟨[.str "choice",.tup (ss.reverse.map Dt.str)],.cons .str (.cons hv .nil),sz2,fun v5 H5 g5 hv5=>?_⟩;exact q v5 _ (c' / 2) H5 (((fz (B2.trans But.put) hpH).trans (But.same g4)).trans (But.same g5)) (g5 _ _ (g4 _ _ (by rw [ag hrp];exact ac))) hv5 (.choice _ w2 fun z hz=>⟨(nam.odd z (aB6.mp hz)).1,fun y hy=>(nam.odd z (aB6.mp hz)).2 y (aB6.mp hy)⟩)
  ·refine ⟨_,rfl,p,_,_,rfl,SqL.of (by rw [ag hrp.symm];exact p2),mK ss,fun v H4 g4 hv=>?_⟩;refine ⟨[.str "choice",.tup (ss.map Dt.str)],.cons .str (.cons hv .nil),sz2,fun v5 H5 g5 hv5=>?_⟩;exact q v5 _ (c' / 2) H5 (((B2.trans But.put).trans (But.same g4)).trans (But.same g5)) (g5 _ _ (g4 _ _ ac)) hv5 (.choice ss w1 nam.odd)
def But2 (r p:Addr) (H H':Hp):Prop:=∀ x o,x≠r→x≠p→H x=some o→H' x=some o
theorem But2.refl (r p:Addr) (H:Hp):But2 r p H H:=fun _ _ _ _ e=>e
theorem But2.trans {r p:Addr} {H H' H'':Hp} (a:But2 r p H H') (b:But2 r p H' H''):But2 r p H H'':=fun x o h1 h2 e=>b x o h1 h2 (a x o h1 h2 e)
theorem But2.one {r p:Addr} {H H':Hp} (b:But r H H'):But2 r p H H':=fun x o h1 _ e=>b x o h1 e
theorem But2.two {r p:Addr} {H H':Hp} (b:But p H H'):But2 r p H H':=fun x o _ h2 e=>b x o h2 e
theorem But2.same {r p:Addr} {H H':Hp} (b:Same H H'):But2 r p H H':=fun x o _ _ e=>b x o e
theorem But2.upd {r p l:Addr} {o:HO} {H H':Hp} (b:But2 r p H H') (hl:H l=none):But2 r p H (upd H' l o):=fun x u h1 h2 e=>by rw [ag (ah e hl)];exact b x u h1 h2 e
theorem But2.mid {r p:Addr} {H H':Hp} (b:But2 r p H H'):∃ M:Hp,But r H M∧But p M H'∧M p=H p:=by
 refine ⟨fun x=>if x=p then H p else H' x,fun x o n e=>?_,fun x o n e=>?_,by simp⟩
 ·by_cases h:x=p
  ·subst h;simpa using e
  ·simp only [if_neg h];exact b x o n h e
 ·simpa only [if_neg n] using e
theorem gJ {K:W.Frag} {r p:Addr} {H H':Hp} {d:Dt} {v:V} {xs ys:List V} (hr:H r=some (.lst xs)) (hp:H p=some (.lst ys)) (b:But2 r p H H') (h:IsP K H d v):IsP K H' d v:=by
 obtain ⟨M,b1,b2,e⟩:=b.mid;exact (h.but hr b1).but (e.trans hp) b2
theorem jQ {K:W.Frag} {r p:Addr} {H H':Hp} {d:List Dt} {v:List V} {xs ys:List V} (hr:H r=some (.lst xs)) (hp:H p=some (.lst ys)) (b:But2 r p H H') (h:IsPs K H d v):IsPs K H' d v:=by
 obtain ⟨M,b1,b2,e⟩:=b.mid;exact (h.but hr b1).but (e.trans hp) b2
def bud (x:Int):Nat:=(x / 5).toNat
theorem vp (x:Int):bud (x - 5)≤bud x:=by unfold bud;lia
theorem vq {x:Int} (h:0≤x - 5):bud x=bud (x - 5)+1:=by unfold bud;lia
def BO (K:W.Frag) (r p:Addr) (H:Hp) (D u:Nat) (x:Int) (Q:VK):Prop:=∀ v d a c (n' x':Int) H',But2 r p H H'→H' r=some (.lst [.int n'])→H' p=some (.lst [.int x'])→IsP K H' d v→FK a c d→a≤D→c+4*bud x'≤u+4*bud x→Q v H'
inductive I_skind (K:W.Frag) (n:Nat)  (vs:List V) (H:Hp) (Q:VK):Prop
 | mk (r p:Addr) (c x:Int) (m:Nat):(1≤m)→(m≤n)→(vs=[.ref r,.int m,.ref p])→(r≠p)→(H r=some (.lst [.int c]))→(H p=some (.lst [.int x]))→(BO K r p H m 1 x Q)→I_skind K n vs H Q
def oJ (K:W.Frag) (n:Nat)  : Sp:=fun vs H Q _=>I_skind K n vs H Q
inductive I_srecord (K:W.Frag) (n:Nat)  (vs:List V) (H:Hp) (Q:VK):Prop
 | mk (r p:Addr) (c x:Int) (m:Nat):(1≤m)→(m≤n)→(vs=[.ref r,.int (m+1:Nat),.ref p])→(r≠p)→(H r=some (.lst [.int c]))→(H p=some (.lst [.int x]))→(BO K r p H (m+1) 4 x Q)→I_srecord K n vs H Q
def rE (K:W.Frag) (n:Nat)  : Sp:=fun vs H Q _=>I_srecord K n vs H Q
inductive I_srows (K:W.Frag) (n:Nat)  (vs:List V) (H:Hp) (Q:VK):Prop
 | mk (r p:Addr) (c x:Int) (m:Nat):(1≤m)→(m≤n)→(vs=[.ref r,.int (m+2:Nat),.ref p])→(r≠p)→(H r=some (.lst [.int c]))→(H p=some (.lst [.int x]))→(BO K r p H (m+2) 5 x Q)→I_srows K n vs H Q
def yj (K:W.Frag) (n:Nat)  : Sp:=fun vs H Q _=>I_srows K n vs H Q
theorem jR:∀ (l:List Nat) (n:Nat),eJ (l++[n])=eJ l+n
 | [],n=>by show n+0=0+n;lia
 | m :: l,n=>by
  show m+eJ (l++[n])=m+eJ l+n;rw [jR l n];lia
theorem vv {ss:List Str} {gs:List G4} {m D:Nat} (nam:Nam m ss) (h8:m≤8) (e:gs.map (·.1)=ss) (fk:∀ g∈gs,FK g.2.2.1 g.2.2.2 g.2.1) (hd:∀ g∈gs,g.2.2.1≤D) :
  FK (ck (gs.map (·.2.2.1))+1) (eJ (gs.map (·.2.2.2))+1) (.tup [.str "record",.tup (gs.map prG)])∧ck (gs.map (·.2.2.1))+1≤D+1:=by
 refine ⟨.rcd fk (by rw [e];exact nam.asc) (fun g hg=>?_) ?_,?_⟩
 ·exact nam.ok g.1 (by rw [← e];exact aAr.mpr ⟨g,hg,rfl⟩)
 ·have:=congrArg List.length e;rw [aAa,nam.len] at this;lia
 ·exact aB5 (max_le fun n hn=>by
   obtain ⟨g,hg,rfl⟩:=aAr.mp hn;exact hd g hg)
theorem gd (T:Tx K mg ad) {f fk:Addr} {fd fdk:FuncData} (n:Nat) (F:Gn K mg "_law_record_kind" aS ["row","deep","room"] f fd) (Je:Gn K mg "_law_kind" bY ["row","deep","room"] fk fdk)
  (Jj:FnOk P w K mg base CX0 (3*n+6) fk fdk ["row","deep","room"] (oJ K n)):FnOk P w K mg base CX0 (3*n+6+1) f fd ["row","deep","room"] (rE K n):=by
 obtain ⟨_,_,IR⟩:=T.law_digit;have IS:=aE (P:=P) (w:=w) (base:=base) T IR;obtain ⟨_,_,Jg⟩:=T.law_names;have Jv:=dJ (P:=P) (w:=w) (base:=base) T Jg;refine F.F.ok aZ (fun vs H Q E h=>?_) (fun cdv A outer s H vs Q E hr h=>?_)
 ·obtain ⟨r,p,c,x,m,_,_,rfl,_⟩:=h
  rfl
 obtain ⟨r,p,c,x,m,hm1,hmn,rfl,nrp,hr0,hp0,q⟩:=h;refine ⟨_,(@pss_cons _ _ _ _ _ (@ps_set _ _ 3 _ _ _ _ aZ.nd rfl (Or.inl rfl) (pcl IR IS (hr.mono (by lia)) rfl (@pa2 _ _ _ _ _ (pv 0) pe_int (by rfl) (by rfl))) (by rfl) (.inl rfl)) (@pss_cons _ _ _ _ _ (@ps_set _ _ 4 _ _ _ _ aZ.nd rfl (Or.inl rfl) (@pe_lst _ _ _ _ pa_nil) (by rfl) (.inl rfl)) (@pss_cons _ _ _ _ _ (ps_for PassesOwn.never rfl (pi_listN (K:=K) rfl (pcl Jg Jv (hr.mono (by lia)) rfl (@pa2 _ _ _ _ _ (pv 0) (pv 3) (by rfl) (by rfl)))) (ao (i:=5) aZ.nd rfl (Or.inl rfl))
    (@pss_one _ _ _ (@ps_expr _ _ _ _ (pe_bm PySem.F.plainAttrs_list PySem.F.slot_list_append PySem.F.type_list_append bU (pv 4) (@pa1 _ _ _ (@pe_tupPK _ K _ _ _ _ rfl (@pa2 _ _ _ _ _ (pv 5) (pcl Je Jj (hr.mono (by lia)) rfl (@pa3 _ _ _ _ _ _ _ (pv 0) (@pe_op _ _ _ _ _ _ _ _ dv (pv 1) pe_int) (pv 2) (by rfl) (by rfl) (by rfl))) (by rfl) (by rfl))) (by rfl))) (by rfl)))) (@pss_one _ _ _ (@ps_ret _ _ _ _ (@pe_tupPK _ K _ _ _ _ rfl (@pa2 _ _ _ _ _ pe_str (pe_callTy (aQ (K:=K) rfl) rfl T.z_tuple boot_tuple (@pa1 _ _ _ (pv 4) (by rfl))) (by rfl) (by rfl)))))))),?_⟩
 refine ⟨_,rfl,r,c,4,rfl,hr0,by decide,by decide,?_⟩;obtain ⟨k0,k1⟩:=mod_lt c (m:=4) (by decide);obtain ⟨k,hk⟩:∃ k:Nat,((k:Nat):Int)=c % 4:=⟨(c % 4).toNat,by lia⟩;have B1:But2 r p H (upd H r (.lst [.int (c / 4)])):=.one But.put;refine ⟨(by show 0≤sizeLine;decide),fun pf hpf=>?_⟩;have nrf:r≠pf:=fun e=>by rw [← e,ac] at hpf;cases hpf
 have hfH:H pf=none:=by rw [ag nrf.symm] at hpf;exact hpf
 have npf:p≠pf:=ah hp0 hfH;refine ⟨_,rfl,_,rfl,r,c / 4,k,(by show [V.ref r,V.int (c % 4)]=_;rw [hk]),(by rw [ag nrf];exact ac),by lia,fun pn ss c2 H2 b2 hpn r2 n2 nam=>?_⟩;have nfn:pf≠pn:=ah (ac (o:=.lst [])) hpn;have p1:(upd (upd H r (.lst [.int (c / 4)])) pf (.lst [])) p=some (.lst [.int x]):=by rw [ag npf,ag nrp.symm];exact hp0
 have npn:p≠pn:=ah p1 hpn;have nrn:r≠pn:=ah (by rw [ag nrf];exact ac) hpn;have hnH:H pn=none:=by
  have:=hpn;rw [ag nfn.symm,ag nrn.symm] at this;exact this
 have B2:But2 r p H H2:=(B1.trans (.same (aj hpf _))).trans (.one b2);have p2:H2 p=some (.lst [.int x]):=b2 _ _ nrp.symm p1;have f2:H2 pf=some (.lst []):=b2 _ _ nrf.symm ac;refine ⟨pn,rfl,⟨_,SqL.of n2⟩,ei (xs:=ss.map V.str) (fun i σ H'=>∃ (gs:List G4) (ys:List V) (c' x':Int) (v6:Option V),But2 r p H H'∧H' r=some (.lst [.int c'])∧H' p=some (.lst [.int x'])∧H' pn=some (.lst (ss.map V.str))∧H' pf=some (.lst ys)∧IsPs K H' (gs.map prG) ys∧gs.map (·.1)=ss.take i∧(∀ g∈gs,FK g.2.2.1 g.2.2.2 g.2.1)∧(∀ g∈gs,g.2.2.1≤m)∧eJ (gs.map (·.2.2.2))+4*bud x'≤i+4*bud x∧σ=[some (.ref r),some (.int (m+1:Nat)),some (.ref p),some (.int (c % 4)),some (.ref pf),v6])
  ⟨[],[],c2,x,_,B2,r2,p2,n2,f2,.nil,rfl,(fun g hg=>by cases hg),(fun g hg=>by cases hg),(by show 0+4*bud x≤0+4*bud x;lia),rfl⟩ (fun i σ H' _ h=>by obtain ⟨_,_,_,_,_,_,_,_,h,_⟩:=h;exact SqL.of h) ?_ ?_⟩
 ·intro i u σ H3 hu hI9;obtain ⟨gs,ys,c3,x3,v6,B3,r3,p3,n3,f3,hys,nms,fk,hd,hsum,rfl⟩:=hI9
  rw [aAg] at hu;obtain ⟨z,hz,rfl⟩:=aAh.mp hu
  have li:=(aAc.mp hz).1;have lss:=nam.len;have lgs:gs.length=i:=by
   have:=congrArg List.length nms;rw [aAa,aAz] at this;lia
  have lys:=hys.length;rw [aAa] at lys;have e1:(((m+1:Nat):Int)) - 1=((m:Nat):Int):=by lia
  refine ⟨_,rfl,.inl ⟨rfl,_,SqL.of f3⟩,_,rfl,_,rfl,_,rfl,_,_,rfl,rfl,_,rfl,r,p,c3,x3,m,hm1,hmn,(by show [V.ref r,V.int (((m+1:Nat):Int) - 1),V.ref p]=_;rw [e1]),nrp,r3,p3,fun v d a c4 n4 x4 H4 b4 r4 p4 hv fk4 ha hc4=>?_⟩;refine ⟨[.str z,d],.cons .str (.cons hv .nil),sz2,fun v5 H5 g5 hv5=>?_⟩;have f5:H5 pf=some (.lst ys):=g5 _ _ (b4 _ _ nrf.symm npf.symm f3);refine ⟨pf,ys,v5,rfl,rfl,f5,ak (by lia),?_⟩;refine ⟨gs++[(z,d,a,c4)],ys++[v5],n4,x4,_,((B3.trans b4).trans (.same g5)).upd hfH,(by rw [ag nrf];exact g5 _ _ r4),(by rw [ag npf];exact g5 _ _ p4),(by rw [ag nfn.symm];exact g5 _ _ (b4 _ _ nrn.symm npn.symm n3)),ac,?_,?_,?_,?_,?_,rfl⟩
  ·rw [aAo];exact (((jQ r3 p3 b4 hys).same g5).append (.cons hv5 .nil)).but f5 But.put
  ·rw [aAo,nms,aAD,hz]
   rfl
  ·intro g hg;rcases aAK.mp hg with h | h
   ·exact fk g h
   ·obtain rfl:=aAE.mp h;exact fk4
  ·intro g hg;rcases aAK.mp hg with h | h
   ·exact hd g h
   ·obtain rfl:=aAE.mp h;exact ha
  ·rw [aAo];show eJ (gs.map (·.2.2.2)++[c4])+_≤_;rw [jR];lia
 ·intro σ H3 hI9;obtain ⟨gs,ys,c3,x3,v6,B3,r3,p3,n3,f3,hys,nms,fk,hd,hsum,rfl⟩:=hI9
  have lss:=nam.len;rw [aAa,aAW] at nms;rw [aAa] at hsum;obtain ⟨F1,F2⟩:=vv (D:=m) nam (by lia) nms fk hd;refine ⟨_,rfl,pf,_,_,rfl,SqL.of f3,hys,fun v4 H4 g4 hv4=>?_⟩;refine ⟨[.str "record",.tup (gs.map prG)],.cons .str (.cons hv4 .nil),sz2,fun v5 H5 g5 hv5=>?_⟩;exact q v5 _ _ _ c3 x3 H5 ((B3.trans (.same g4)).trans (.same g5)) (g5 _ _ (g4 _ _ r3)) (g5 _ _ (g4 _ _ p3)) hv5 F1 F2 (by lia)
theorem oK (T:Tx K mg ad) {f fr fw:Addr} {fd fdr fdw:FuncData} (n:Nat) (Je:Gn K mg "_law_kind" bY ["row","deep","room"] f fd) (J2:Gn K mg "_law_record_kind" aS ["row","deep","room"] fr fdr) (Ke:Gn K mg "_law_rows_kind" be ["row","deep","room"] fw fdw)
  (Jj:FnOk P w K mg base CX0 (3*n+6) f fd ["row","deep","room"] (oJ K n)) (J3:FnOk P w K mg base CX0 (3*n+7) fr fdr ["row","deep","room"] (rE K n)) (Kd:FnOk P w K mg base CX0 (3*n+7) fw fdw ["row","deep","room"] (yj K (n - 1))) :
  FnOk P w K mg base CX0 (3*n+8+1) f fd ["row","deep","room"] (oJ K (n+1)):=by
 obtain ⟨_,_,IR⟩:=T.law_digit;have IS:=aE (P:=P) (w:=w) (base:=base) T IR;obtain ⟨_,_,JM⟩:=T.law_leaf_kind;have Kf:=ik (P:=P) (w:=w) (base:=base) T JM;refine Je.F.ok iS (fun vs H Q E h=>?_) (fun cdv A outer s H vs Q E hr h=>?_)
 ·obtain ⟨r,p,c,x,m,_,_,rfl,_⟩:=h
  rfl
 obtain ⟨r,p,c,x,m,hm1,hmn,rfl,nrp,hr0,hp0,q⟩:=h;refine ⟨_,(@pss_cons _ _ _ _ _ (@ps_set _ _ 3 _ _ _ _ iS.nd rfl (Or.inl rfl) (pcl IR IS (hr.mono (by lia)) rfl (@pa2 _ _ _ _ _ (pv 0) pe_int (by rfl) (by rfl))) (by rfl) (.inl rfl)) (@pss_cons _ _ _ _ _ (ug (@pe_op _ _ _ _ _ _ _ _ dv (@pe_ix _ _ _ _ _ _ _ (aP (K:=K) rfl) (pv 2) pe_int (fun _ _=>rfl)) pe_int) (uf (pv 2) pe_int nD)) (@pss_cons _ _ _ _ _ (@ps_if _ _ _ _ _ _ _ _ (PW.pt (@gu _ _ _ _ _ _ _ (pt_cmpR fM (pv 3) pe_int (nomark _)) (@gu _ _ _ _ _ _ _ (pt_cmpR fM (pv 1) pe_int (nomark _)) (@pw_or1 _ _ _ _ (pt_cmpR fM (@pe_ix _ _ _ _ _ _ _ (aP (K:=K) rfl) (pv 2) pe_int (fun _ _=>rfl)) pe_int (nomark _)))))) (@pss_one _ _ _ (@ps_ret _ _ _ _ (pcl JM Kf (hr.mono (by lia)) rfl (@pa1 _ _ _ (pv 0) (by rfl))))) pss_nil) (@pss_cons _ _ _ _ _ (@ps_if _ _ _ _ _ _ _ _ (pt_cmpR op_eq (pv 3) pe_int (nomark _)) (@pss_one _ _ _ (@ps_ret _ _ _ _ (@pe_tupPK _ K _ _ _ _ rfl (@pa3 _ _ _ _ _ _ _ pe_str (pcl Je Jj (hr.mono (by lia)) rfl (@pa3 _ _ _ _ _ _ _ (pv 0) (@pe_op _ _ _ _ _ _ _ _ dv (pv 1) pe_int) (pv 2) (by rfl) (by rfl) (by rfl))) (pcl IR IS (hr.mono (by lia)) rfl (@pa2 _ _ _ _ _ (pv 0) pe_int (by rfl) (by rfl))) (by rfl) (by rfl) (by rfl))))) pss_nil) (@pss_cons _ _ _ _ _ (@ps_if _ _ _ _ _ _ _ _ (PW.pt (@pw_and _ _ _ _ _ _ _ (pt_cmpR op_eq (pv 3) pe_int (nomark _)) (@pw_and1 _ _ _ _ (pt_cmpR op_gt (pv 1) pe_int (nomark _))))) (@pss_one _ _ _ (@ps_ret _ _ _ _ (pcl Ke Kd (hr.mono (by lia)) rfl (@pa3 _ _ _ _ _ _ _ (pv 0) (pv 1) (pv 2) (by rfl) (by rfl) (by rfl))))) pss_nil) (@pss_one _ _ _ (@ps_ret _ _ _ _ (pcl J2 J3 (hr.mono (by lia)) rfl (@pa3 _ _ _ _ _ _ _ (pv 0) (pv 1) (pv 2) (by rfl) (by rfl) (by rfl)))))))))),?_⟩;refine ⟨_,rfl,r,c,6,rfl,hr0,by decide,by decide,?_⟩;have p1:(upd H r (.lst [.int (c / 6)])) p=some (.lst [.int x]):=by rw [ag nrp.symm];exact hp0
 have e0:∀ y:Int,atI [V.int y] 0=some (.int y):=fun _=>rfl;refine ⟨_,rfl,p,_,_,_,rfl,rfl,SqL.of p1,e0 x,_,_,rfl,rfl,_,rfl,p,_,_,_,rfl,rfl,p1,rfl,_,rfl,?_⟩;have B2:But2 r p H (upd (upd H r (.lst [.int (c / 6)])) p (.lst [.int (x - 5)])):=(But2.one But.put).trans (.two But.put);have r2:(upd (upd H r (.lst [.int (c / 6)])) p (.lst [.int (x - 5)])) r=some (.lst [.int (c / 6)]):=by rw [ag nrp];exact ac
 have p2:(upd (upd H r (.lst [.int (c / 6)])) p (.lst [.int (x - 5)])) p=some (.lst [.int (x - 5)]):=ac;have bl:=vp x;refine ⟨_,_,rfl,rfl,_,rfl,aK (fun c1=>aL ?leaf) (fun c1=>?_)⟩
 case leaf=>exact ⟨_,rfl,r,c / 6,rfl,r2,fun v d n' H' b e hv fk=>q v d 1 1 n' (x - 5) H' (B2.trans (.one b)) e (b _ _ nrp.symm p2) hv fk hm1 (by lia)⟩
 refine ⟨_,rfl,_,_,rfl,rfl,_,rfl,aK (fun c2=>aL ?leaf) (fun c2=>?_)⟩
 case leaf=>exact ⟨_,rfl,r,c / 6,rfl,r2,fun v d n' H' b e hv fk=>q v d 1 1 n' (x - 5) H' (B2.trans (.one b)) e (b _ _ nrp.symm p2) hv fk hm1 (by lia)⟩
 refine ⟨_,rfl,p,_,_,_,rfl,rfl,SqL.of p2,e0 (x - 5),_,_,rfl,rfl,_,rfl,aK (fun c3=>?leaf) (fun c3=>?_)⟩
 case leaf=>exact ⟨_,rfl,r,c / 6,rfl,r2,fun v d n' H' b e hv fk=>q v d 1 1 n' (x - 5) H' (B2.trans (.one b)) e (b _ _ nrp.symm p2) hv fk hm1 (by lia)⟩
 have m2:2≤m:=by
  have:¬ ((m:Nat):Int) < 2:=fun h=>c2 (decide_eq_true h);lia
 have x5:0≤x - 5:=by
  have:¬ x - 5 < 0:=fun h=>c3 (decide_eq_true h);lia
 have bs:=vq x5;obtain ⟨m,rfl⟩:∃ k,m=k+1:=⟨m - 1,by lia⟩;have e1:(((m+1:Nat):Int)) - 1=((m:Nat):Int):=by lia
 refine ⟨_,rfl,rfl,_,rfl,aK (fun c4=>?_) (fun c4=>?_)⟩
 ·refine ⟨_,rfl,_,rfl,_,_,rfl,rfl,_,rfl,r,p,c / 6,x - 5,m,by lia,by lia,(by show [V.ref r,V.int (((m+1:Nat):Int) - 1),V.ref p]=_;rw [e1]),nrp,r2,p2,fun v d a c4 n4 x4 H4 b4 r4 p4 hv fk4 ha hc4=>?_⟩;obtain ⟨k0,k1⟩:=mod_lt n4 (m:=9) (by decide);refine ⟨_,rfl,r,n4,9,rfl,r4,by decide,by decide,[.str "list",d,.int _],.cons .str (.cons (hv.but r4 But.put) (.cons .int .nil)),sz3,fun v5 H5 g5 hv5=>?_⟩;exact q v5 _ (a+1) (c4+1) (n4 / 9) x4 H5 (((B2.trans b4).trans (.one But.put)).trans (.same g5)) (g5 _ _ ac) (g5 _ _ (by rw [ag nrp.symm];exact p4)) hv5 (.list fk4 k0 (by lia)) (by lia) (by lia)
 refine ⟨_,rfl,rfl,_,rfl,aK (fun c5=>?_) (fun c5=>aH ?_)⟩
 ·refine ⟨_,rfl,_,_,rfl,rfl,_,rfl,aK (fun c6=>?_) (fun c6=>?_)⟩
  ·have m3:3≤m+1:=by
    have:(2:Int) < ((m+1:Nat):Int):=of_decide_eq_true c6;lia
   obtain ⟨m,rfl⟩:∃ k,m=k+1:=⟨m - 1,by lia⟩;exact ⟨_,rfl,_,rfl,_,rfl,r,p,c / 6,x - 5,m,by lia,by lia,rfl,nrp,r2,p2,fun v d a c4 n4 x4 H4 b4 r4 p4 hv fk4 ha hc4=>q v d a c4 n4 x4 H4 (B2.trans b4) r4 p4 hv fk4 ha (by lia)⟩
  ·exact ⟨_,rfl,_,rfl,_,rfl,r,p,c / 6,x - 5,m,by lia,by lia,rfl,nrp,r2,p2,fun v d a c4 n4 x4 H4 b4 r4 p4 hv fk4 ha hc4=>q v d a c4 n4 x4 H4 (B2.trans b4) r4 p4 hv fk4 ha (by lia)⟩
 ·exact ⟨_,rfl,_,rfl,_,rfl,r,p,c / 6,x - 5,m,by lia,by lia,rfl,nrp,r2,p2,fun v d a c4 n4 x4 H4 b4 r4 p4 hv fk4 ha hc4=>q v d a c4 n4 x4 H4 (B2.trans b4) r4 p4 hv fk4 ha (by lia)⟩
def HJ (d:Dt):Prop:=∃ w r,d=.tup (.str w :: r)∧(w= "number" ∨w= "text")
structure RkI (K:W.Frag) (r p pn pf:Addr) (ss:List Str) (key:Str) (m:Nat) (x:Int) (H:Hp) (i:Nat) (gs:List G4) (ys:List V) (c' x':Int) (H':Hp):Prop where
 B:But2 r p H H'
 hr:H' r=some (.lst [.int c'])
 hp:H' p=some (.lst [.int x'])
 hn:H' pn=some (.lst (ss.map V.str))
 hf:H' pf=some (.lst ys)
 hys:IsPs K H' (gs.map prG) ys
 nms:gs.map (·.1)=ss.take i
 fk:∀ g∈gs,FK g.2.2.1 g.2.2.2 g.2.1
 hd:∀ g∈gs,g.2.2.1≤m
 ky:∀ g∈gs,g.1=key→HJ g.2.1
 sum:eJ (gs.map (·.2.2.2))+4*bud x'≤i+4*bud x
theorem RkI.next {K:W.Frag} {r p pn pf:Addr} {ss:List Str} {key z:Str} {m i a c4:Nat} {x c3 x3 n4 x4:Int} {H H3 H4 H5:Hp} {gs:List G4} {ys:List V} {d:Dt} {v5:V} (I:RkI K r p pn pf ss key m x H i gs ys c3 x3 H3) (hz:ss[i]?=some z)
  (nrf:r≠pf) (npf:p≠pf) (nrn:r≠pn) (npn:p≠pn) (nfn:pf≠pn) (hfH:H pf=none) (b4:But2 r p H3 H4) (r4:H4 r=some (.lst [.int n4])) (p4:H4 p=some (.lst [.int x4])) (fk4:FK a c4 d) (ha:a≤m) (hc4:c4+4*bud x4≤1+4*bud x3) (hk:z=key→HJ d)
  (g5:Same H4 H5) (hv5:IsP K H5 (.tup [.str z,d]) v5):RkI K r p pn pf ss key m x H (i+1) (gs++[(z,d,a,c4)]) (ys++[v5]) n4 x4 (upd H5 pf (.lst (ys++[v5]))):=by
 obtain ⟨B3,r3,p3,n3,f3,hys,nms,fk,hd,ky,hsum⟩:=I;have f5:H5 pf=some (.lst ys):=g5 _ _ (b4 _ _ nrf.symm npf.symm f3);refine ⟨((B3.trans b4).trans (.same g5)).upd hfH,(by rw [ag nrf];exact g5 _ _ r4),(by rw [ag npf];exact g5 _ _ p4),(by rw [ag nfn.symm];exact g5 _ _ (b4 _ _ nrn.symm npn.symm n3)),ac,?_,?_,?_,?_,?_,?_⟩
 ·rw [aAo];exact (((jQ r3 p3 b4 hys).same g5).append (.cons hv5 .nil)).but f5 But.put
 ·rw [aAo,nms,aAD,hz]
  rfl
 ·intro g hg;rcases aAK.mp hg with h | h
  ·exact fk g h
  ·obtain rfl:=aAE.mp h;exact fk4
 ·intro g hg;rcases aAK.mp hg with h | h
  ·exact hd g h
  ·obtain rfl:=aAE.mp h;exact ha
 ·intro g hg;rcases aAK.mp hg with h | h
  ·exact ky g h
  ·obtain rfl:=aAE.mp h;exact hk
 ·rw [aAo];show eJ (gs.map (·.2.2.2)++[c4])+_≤_;rw [jR];lia
theorem RkI.few {K:W.Frag} {r p pn pf:Addr} {ss:List Str} {key:Str} {m i:Nat} {x c3 x3:Int} {H H3:Hp} {gs:List G4} {ys:List V} (I:RkI K r p pn pf ss key m x H i gs ys c3 x3 H3):ys.length≤ss.length:=by
 have lys:=I.hys.length;have:=congrArg List.length I.nms;rw [aAa,aAz] at this;rw [aAa] at lys;lia
theorem im (T:Tx K mg ad) {f fk:Addr} {fd fdk:FuncData} (n:Nat) (F:Gn K mg "_law_rows_kind" be ["row","deep","room"] f fd) (Je:Gn K mg "_law_kind" bY ["row","deep","room"] fk fdk)
  (Jj:FnOk P w K mg base CX0 (3*n+6) fk fdk ["row","deep","room"] (oJ K n)):FnOk P w K mg base CX0 (3*n+6+1) f fd ["row","deep","room"] (yj K n):=by
 obtain ⟨_,_,IR⟩:=T.law_digit;have IS:=aE (P:=P) (w:=w) (base:=base) T IR;obtain ⟨_,_,Jg⟩:=T.law_names;have Jv:=dJ (P:=P) (w:=w) (base:=base) T Jg;obtain ⟨_,_,Jf⟩:=T.law_number_kind;have Ju:=cH (P:=P) (w:=w) (base:=base) T Jf;refine F.F.ok aA (fun vs H Q E h=>?_) (fun cdv A outer s H vs Q E hr h=>?_)
 ·obtain ⟨r,p,c,x,m,_,_,rfl,_⟩:=h
  rfl
 obtain ⟨r,p,c,x,m,hm1,hmn,rfl,nrp,hr0,hp0,q⟩:=h;refine ⟨_,(@pss_cons _ _ _ _ _ (@ps_set _ _ 3 _ _ _ _ aA.nd rfl (Or.inl rfl) (pcl Jg Jv (hr.mono (by lia)) rfl (@pa2 _ _ _ _ _ (pv 0) (@pe_op _ _ _ _ _ _ _ _ aB pe_int (pcl IR IS (hr.mono (by lia)) rfl (@pa2 _ _ _ _ _ (pv 0) pe_int (by rfl) (by rfl)))) (by rfl) (by rfl))) (by rfl) (.inl rfl)) (@pss_cons _ _ _ _ _ (@ps_set _ _ 4 _ _ _ _ aA.nd rfl (Or.inl rfl) (@pe_ix _ _ _ _ _ _ _ (aP (K:=K) rfl) (pv 3) (pcl IR IS (hr.mono (by lia)) rfl (@pa2 _ _ _ _ _ (pv 0) (pe_callB (bg (K:=K) rfl) rfl T.z_len boot_len (@pa1 _ _ _ (pv 3) (by rfl))) (by rfl) (by rfl))) (fun _ _=>rfl)) (by rfl) (.inl rfl)) (@pss_cons _ _ _ _ _ (@ps_set _ _ 5 _ _ _ _ aA.nd rfl (Or.inl rfl) (@pe_lst _ _ _ _ pa_nil) (by rfl) (.inl rfl)) (@pss_cons _ _ _ _ _ (ps_for PassesOwn.never rfl (pi_listN (K:=K) rfl (pv 3)) (ao (i:=6) aA.nd rfl (Or.inl rfl))
    (@pss_cons _ _ _ _ _ (@ps_set _ _ 7 _ _ _ _ aA.nd rfl (Or.inl rfl) (pcl Jf Ju (hr.mono (by lia)) rfl (@pa1 _ _ _ (pv 0) (by rfl))) (by rfl) (.inl rfl)) (@pss_cons _ _ _ _ _ (@ps_if _ _ _ _ _ _ _ _ (pt_cmpR op_eq (pcl IR IS (hr.mono (by lia)) rfl (@pa2 _ _ _ _ _ (pv 0) pe_int (by rfl) (by rfl))) pe_int (nomark _)) (@pss_one _ _ _ (@ps_set _ _ 7 _ _ _ _ aA.nd rfl (Or.inl rfl) (@pe_tupPK _ K _ _ _ _ rfl (@pa2 _ _ _ _ _ pe_str (pcl IR IS (hr.mono (by lia)) rfl (@pa2 _ _ _ _ _ (pv 0) pe_int (by rfl) (by rfl))) (by rfl) (by rfl))) (by rfl) (.inl rfl))) pss_nil) (@pss_cons _ _ _ _ _ (@ps_if _ _ _ _ _ _ _ _ (pt_cmpR op_ne (pv 6) (pv 4) (nomark _)) (@pss_one _ _ _ (@ps_set _ _ 7 _ _ _ _ aA.nd rfl (Or.inl rfl) (pcl Je Jj (hr.mono (by lia)) rfl (@pa3 _ _ _ _ _ _ _ (pv 0) (@pe_op _ _ _ _ _ _ _ _ dv (pv 1) pe_int) (pv 2) (by rfl) (by rfl) (by rfl))) (by rfl) (.inl rfl))) pss_nil) (@pss_one _ _ _ (@ps_expr _ _ _ _ (pe_bm PySem.F.plainAttrs_list PySem.F.slot_list_append PySem.F.type_list_append bU (pv 5) (@pa1 _ _ _ (@pe_tupPK _ K _ _ _ _ rfl (@pa2 _ _ _ _ _ (pv 6) (pv 7) (by rfl) (by rfl))) (by rfl))) (by rfl))))))) (@pss_one _ _ _ (@ps_ret _ _ _ _ (@pe_tupPK _ K _ _ _ _ rfl (@aI _ _ _ _ _ pe_str (@pa3 _ _ _ _ _ _ _ (pv 4) (@pe_tupPK _ K _ _ _ _ rfl (@pa2 _ _ _ _ _ pe_str (pe_callTy (aQ (K:=K) rfl) rfl T.z_tuple boot_tuple (@pa1 _ _ _ (pv 5) (by rfl))) (by rfl) (by rfl))) (pcl IR IS (hr.mono (by lia)) rfl (@pa2 _ _ _ _ _ (pv 0) pe_int (by rfl) (by rfl))) (by rfl) (by rfl) (by rfl)) (by rfl))))))))),?_⟩
 obtain ⟨k0,k1⟩:=mod_lt c (m:=3) (by decide);obtain ⟨k,hk⟩:∃ k:Nat,((k:Nat):Int)=1+c % 3:=⟨(1+c % 3).toNat,by lia⟩;refine ⟨_,rfl,_,rfl,r,c,3,rfl,hr0,by decide,by decide,_,_,rfl,rfl,r,c / 3,k,(by show [V.ref r,V.int (1+c % 3)]=_;rw [hk]),ac,by lia,fun pn ss c2 H2 b2 hpn r2 n2 nam=>?_⟩;have p1:(upd H r (.lst [.int (c / 3)])) p=some (.lst [.int x]):=by rw [ag nrp.symm];exact hp0
 have npn:p≠pn:=ah p1 hpn;have nrn:r≠pn:=ah ac hpn;have hnH:H pn=none:=by rw [ag nrn.symm] at hpn;exact hpn
 have B2:But2 r p H H2:=(But2.one But.put).trans (.one b2);have p2:H2 p=some (.lst [.int x]):=b2 _ _ nrp.symm p1;have lss:=nam.len;have ln:(0:Int) < (((ss.map V.str).length:Nat):Int):=by rw [aAa];lia
 obtain ⟨d0,d1⟩:=mod_lt c2 ln;obtain ⟨vk,hvk,ek⟩:=vm (xs:=ss.map V.str) d0 d1
 obtain ⟨key,hkey,rfl⟩:=aAr.mp hvk
 refine ⟨_,rfl,_,rfl,_,rfl,pn,_,rfl,.inl (SqL.of n2),r,c2,_,rfl,r2,ln,(by rw [aAa];lia),pn,_,_,_,rfl,rfl,SqL.of (by rw [ag nrn.symm];exact n2),ek,?_⟩
 generalize hL:(((ss.map V.str).length:Nat):Int)=L at *
 have n3:(upd H2 r (.lst [.int (c2 / L)])) pn=some (.lst (ss.map V.str)):=by rw [ag nrn.symm];exact n2
 have r3:(upd H2 r (.lst [.int (c2 / L)])) r=some (.lst [.int (c2 / L)]):=ac;have p3:(upd H2 r (.lst [.int (c2 / L)])) p=some (.lst [.int x]):=by rw [ag nrp.symm];exact p2
 have B3:But2 r p H (upd H2 r (.lst [.int (c2 / L)])):=B2.trans (.one But.put)
 generalize upd H2 r (.lst [.int (c2 / L)])=H3 at *
 refine ⟨(by show 0≤sizeLine;decide),fun pf hpf=>?_⟩;have nrf:r≠pf:=ah r3 hpf;have npf:p≠pf:=ah p3 hpf;have nfn:pf≠pn:=(ah n3 hpf).symm;have hfH:H pf=none:=by
  cases e:H pf with
  | none=>rfl
  | some o=>rw [B3 _ _ nrf.symm npf.symm e] at hpf;cases hpf
 refine ⟨_,rfl,pn,rfl,⟨_,SqL.of (by rw [ag nfn.symm];exact n3)⟩,ei (xs:=ss.map V.str) (fun i σ H'=>∃ gs ys c' x' v6 v7,RkI K r p pn pf ss key m x H i gs ys c' x' H'∧σ=[some (.ref r),some (.int (m+2:Nat)),some (.ref p),some (.ref pn),some (.str key),some (.ref pf),v6,v7])
  ⟨[],[],c2 / L,x,none,none,⟨B3.upd hfH,(by rw [ag nrf];exact r3),(by rw [ag npf];exact p3),(by rw [ag nfn.symm];exact n3),ac,.nil,rfl,(fun g hg=>by cases hg),(fun g hg=>by cases hg),(fun g hg=>by cases hg),(by show 0+4*bud x≤0+4*bud x;lia)⟩,rfl⟩ (fun i σ H' _ h=>by obtain ⟨_,_,_,_,_,_,h,_⟩:=h;exact SqL.of h.hn) ?_ ?_⟩
 ·intro i u σ H4 hu hI9;obtain ⟨gs,ys,c4,x4,v6,v7,I,rfl⟩:=hI9
  rw [aAg] at hu;obtain ⟨z,hz,rfl⟩:=aAh.mp hu
  have li:=(aAc.mp hz).1;have few:=I.few;refine ⟨_,rfl,r,c4,rfl,I.hr,fun v5 lo hi n5 H5 b5 r5 hv5 fk5=>?_⟩;have p5:H5 p=some (.lst [.int x4]):=b5 _ _ nrp.symm I.hp;have e2:(((m+2:Nat):Int)) - 2=((m:Nat):Int):=by lia
  refine ⟨_,rfl,r,n5,2,rfl,r5,by decide,by decide,rfl,_,rfl,aK (fun c1=>?_) (fun c1=>?_)⟩
  ·obtain ⟨k4,k5⟩:=mod_lt (n5 / 2) (m:=4) (by decide);refine ⟨_,rfl,r,n5 / 2,4,rfl,ac,by decide,by decide,[.str "text",.int _],.cons .str (.cons .int .nil),sz2,fun v6 H6 g6 hv6=>?_⟩;have B6:But2 r p H4 H6:=(((But2.one b5).trans (.one But.put)).trans (.one But.put)).trans (.same g6);have r6:H6 r=some (.lst [.int (n5 / 2 / 4)]):=g6 _ _ ac;have p6:H6 p=some (.lst [.int x4]):=g6 _ _ (by rw [ag nrp.symm,ag nrp.symm];exact p5);refine ⟨_,rfl,_,rfl,rfl,_,rfl,aK (fun c2=>?_) (fun c2=>?_)⟩
   ·refine ⟨_,rfl,_,rfl,_,_,rfl,rfl,_,rfl,r,p,n5 / 2 / 4,x4,m,hm1,hmn,(by show [V.ref r,V.int (((m+2:Nat):Int) - 2),V.ref p]=_;rw [e2]),nrp,r6,p6,fun v d a c7 n7 x7 H7 b7 r7 p7 hv fk7 ha hc7=>?_⟩;refine ⟨_,rfl,.inl ⟨rfl,_,SqL.of (b7 _ _ nrf.symm npf.symm (B6 _ _ nrf.symm npf.symm I.hf))⟩,_,rfl,_,rfl,[.str z,d],.cons .str (.cons hv .nil),sz2,fun v8 H8 g8 hv8=>?_⟩;exact ⟨pf,ys,v8,rfl,rfl,g8 _ _ (b7 _ _ nrf.symm npf.symm (B6 _ _ nrf.symm npf.symm I.hf)),ak (by lia),_,_,_,_,_,_,I.next hz nrf npf nrn npn nfn hfH (B6.trans b7) r7 p7 fk7 ha hc7 (fun e=>by rw [e] at c2;simp at c2) g8 hv8,rfl⟩
   ·refine ⟨_,rfl,.inl ⟨rfl,_,SqL.of (B6 _ _ nrf.symm npf.symm I.hf)⟩,_,rfl,_,rfl,[.str z,_],.cons .str (.cons hv6 .nil),sz2,fun v8 H8 g8 hv8=>?_⟩;exact ⟨pf,ys,v8,rfl,rfl,g8 _ _ (B6 _ _ nrf.symm npf.symm I.hf),ak (by lia),_,_,_,_,_,_,I.next hz nrf npf nrn npn nfn hfH B6 r6 p6 (.text _ k4 (by lia)) hm1 (by lia) (fun _=>⟨_,_,rfl,.inr rfl⟩) g8 hv8,rfl⟩
  ·have B6:But2 r p H4 (upd H5 r (.lst [.int (n5 / 2)])):=(But2.one b5).trans (.one But.put);have r6:(upd H5 r (.lst [.int (n5 / 2)])) r=some (.lst [.int (n5 / 2)]):=ac;have p6:(upd H5 r (.lst [.int (n5 / 2)])) p=some (.lst [.int x4]):=by rw [ag nrp.symm];exact p5
   have hv6:=hv5.but r5 (But.put (o:=.lst [.int (n5 / 2)]));refine ⟨_,rfl,_,rfl,rfl,_,rfl,aK (fun c2=>?_) (fun c2=>?_)⟩
   ·refine ⟨_,rfl,_,rfl,_,_,rfl,rfl,_,rfl,r,p,n5 / 2,x4,m,hm1,hmn,(by show [V.ref r,V.int (((m+2:Nat):Int) - 2),V.ref p]=_;rw [e2]),nrp,r6,p6,fun v d a c7 n7 x7 H7 b7 r7 p7 hv fk7 ha hc7=>?_⟩;refine ⟨_,rfl,.inl ⟨rfl,_,SqL.of (b7 _ _ nrf.symm npf.symm (B6 _ _ nrf.symm npf.symm I.hf))⟩,_,rfl,_,rfl,[.str z,d],.cons .str (.cons hv .nil),sz2,fun v8 H8 g8 hv8=>?_⟩;exact ⟨pf,ys,v8,rfl,rfl,g8 _ _ (b7 _ _ nrf.symm npf.symm (B6 _ _ nrf.symm npf.symm I.hf)),ak (by lia),_,_,_,_,_,_,I.next hz nrf npf nrn npn nfn hfH (B6.trans b7) r7 p7 fk7 ha hc7 (fun e=>by rw [e] at c2;simp at c2) g8 hv8,rfl⟩
   ·refine ⟨_,rfl,.inl ⟨rfl,_,SqL.of (B6 _ _ nrf.symm npf.symm I.hf)⟩,_,rfl,_,rfl,[.str z,_],.cons .str (.cons hv6 .nil),sz2,fun v8 H8 g8 hv8=>?_⟩;exact ⟨pf,ys,v8,rfl,rfl,g8 _ _ (B6 _ _ nrf.symm npf.symm I.hf),ak (by lia),_,_,_,_,_,_,I.next hz nrf npf nrn npn nfn hfH B6 r6 p6 fk5 hm1 (by lia) (fun _=>⟨_,_,rfl,.inl rfl⟩) g8 hv8,rfl⟩
 ·intro σ H4 hI9;obtain ⟨gs,ys,c4,x4,v6,v7,I,rfl⟩:=hI9
  obtain ⟨B4,r4,p4,n4,f4,hys,nms,fk,hd,ky,hsum⟩:=I
  rw [aAa,aAW] at nms;rw [aAa] at hsum;obtain ⟨F1,F2⟩:=vv (D:=m) nam (by lia) nms fk hd;have hK:BE (gs.map prG) key:=by
   obtain ⟨g,hg,rfl⟩:=aAr.mp (nms ▸ hkey:key∈gs.map (·.1))
   obtain ⟨w,l,e,h⟩:=ky g hg rfl
   exact ⟨w,l,aAr.mpr ⟨g,hg,by show Dt.tup [.str g.1,g.2.1]=_;rw [e]⟩,h⟩
  obtain ⟨k4,k5⟩:=mod_lt c4 (m:=9) (by decide);refine ⟨_,rfl,_,rfl,pf,_,_,rfl,SqL.of f4,hys,fun v5 H5 g5 hv5=>?_⟩;refine ⟨[.str "record",.tup (gs.map prG)],.cons .str (.cons hv5 .nil),sz2,fun v6 H6 g6 hv6=>?_⟩;have r6:=g6 _ _ (g5 _ _ r4);refine ⟨_,rfl,r,c4,9,rfl,r6,by decide,by decide,[.str "rows",.str key,.tup [.str "record",.tup (gs.map prG)],.int _],.cons .str (.cons .str (.cons (hv6.but r6 But.put) (.cons .int .nil))),(by show 4≤sizeLine;decide),fun v7 H7 g7 hv7=>?_⟩;exact q v7 _ _ _ (c4 / 9) x4 H7 ((((B4.trans (.same g5)).trans (.same g6)).trans (.one But.put)).trans (.same g7)) (g7 _ _ ac) (g7 _ _ (by rw [ag nrp.symm];exact g6 _ _ (g5 _ _ p4))) hv7 (.rows F1 hK k4 (by lia)) (by lia) (by lia)
theorem lJ (T:Tx K mg ad) {f fr fw:Addr} {fd fdr fdw:FuncData} (D:Gn K mg "_law_kind" bY ["row","deep","room"] f fd) (Dr:Gn K mg "_law_record_kind" aS ["row","deep","room"] fr fdr) (Dw:Gn K mg "_law_rows_kind" be ["row","deep","room"] fw fdw) :
  ∀ n,FnOk P w K mg base CX0 (3*n+6) f fd ["row","deep","room"] (oJ K n)
 | 0=>bu fun vs H Q E z=>by obtain ⟨_,_,_,_,m,h1,h2,_⟩:=z;lia
 | n+1=>by
  have ih:=lJ T D Dr Dw n;refine (oK T n D Dr Dw ih (gd T n Dr D ih) ((im T n Dw D ih).imp ?_)).mono (by lia);rintro vs H Q E ⟨r,p,c,x,m,h1,h2,z1,z2,z3,z4,z5⟩;exact ⟨r,p,c,x,m,h1,by lia,z1,z2,z3,z4,z5⟩
theorem s_ix {K:W.Frag} {i:Nat} {n:Int} {l:List Dt} {d:Dt} {σ:L2.St} {H:Hp} {Q:VK} {x:V} (hσ:σ[i]?=some (some x)) (hd:IsP K H (.tup l) x) (ha:atI l n=some d) (h:∀ v,IsP K H d v→Q v H):tOp (Bt K) (sw i) (tC (.int n)) σ H Q:=⟨x,hσ,l,n,d,hd,rfl,ha,h⟩
theorem bL {i:Nat} {u u':Str} {A B:TS} {D:Ends} {σ:L2.St} {H:Hp} (hσ:σ[i]?=some (some (.str u'))) (hn:u'≠u) (h:B D σ H):A8 (ul (tOp rEq (sw i) (tC (.str u)))) A B D σ H:=⟨_,hσ,rfl,_,rfl,dh (bS hn) h⟩
theorem fR {i:Nat} {u:Str} {A B:TS} {D:Ends} {σ:L2.St} {H:Hp} (hσ:σ[i]?=some (some (.str u))) (h:A D σ H):A8 (ul (tOp rEq (sw i) (tC (.str u)))) A B D σ H:=⟨_,hσ,rfl,_,rfl,fW h⟩
def okT (z:Str):Prop:=∀ c∈z.cps.toList,okC c=true
theorem rG (a b:Str):(a++b).cps.toList=a.cps.toList++b.cps.toList:=aBP
theorem oM {c:Nat}:∀ {zs:List Str},c∈(Str.join (Str.ofString "") zs).cps.toList→∃ z∈zs,c∈z.cps.toList
 | [],h=>by
  have h':c∈([]:List Nat):=h
  cases h'
 | [x],h=>⟨x,aAd,h⟩
 | x :: y :: r,h=>by
  have h':c∈(x++Str.ofString "" ++Str.join (Str.ofString "") (y :: r)).cps.toList:=h;rw [rG,rG] at h';rcases aAK.mp h' with h1 | h1
  ·rcases aAK.mp h1 with h2 | h2
   ·exact ⟨x,aAd,h2⟩
   ·have h3:c∈([]:List Nat):=h2
    cases h3
  ·obtain ⟨z,hz,hc⟩:=oM h1;exact ⟨z,aAi _ hz,hc⟩
theorem vx {zs:List Str} (h:∀ z∈zs,okT z):okT (Txt.join (Str.ofString "") zs):=by
 intro c hc;have hc':c∈(Builtin.Str.glued (Str.ofString "") zs).cps.toList:=hc;rw [StrLaws.glued_eq_join] at hc';obtain ⟨z,hz,h1⟩:=oM hc';exact h z hz c h1
abbrev signsL:Str:= "ab Z09-,.:;/()[]{}'!~"
theorem vy:∀ c∈signsL.cps.toList,okC c=true:=by decide +kernel
theorem io:signsL.length=21:=by decide +kernel
theorem HK {z:Str} {d:Int} (h0:0≤d) (h1:d < (z.length:Int)):∃ c,c∈z.cps.toList∧atI z.cps.toList d=some c:=vm (xs:=z.cps.toList) (d:=d) h0 (by simpa [Str.length] using h1)
inductive I_sp_law_text    (vs:List V) (H:Hp) (Q:VK):Prop
 | mk (r:Addr) (c i:Int):(vs=[.ref r,.int i])→(H r=some (.lst [.int c]))→(0≤i)→(i≤60)→(∀ z c' H',But r H H'→H' r=some (.lst [.int c'])→(z.length:Int)≤i→okT z→Q (.str z) H')→I_sp_law_text  vs H Q
def oN (_:W.Frag) (_:Ads)  : Sp:=fun vs H Q _=>I_sp_law_text  vs H Q
theorem oO (T:Tx K mg ad) {f:Addr} {fd:FuncData} (F:Gn K mg "_law_text" dR ["row","most"] f fd):FnOk P w K mg base CX0 2 f fd ["row","most"] (oN K ad):=by
 obtain ⟨_,_,IR⟩:=T.law_digit;have IS:=aE (P:=P) (w:=w) (base:=base) T IR;refine F.F.ok iT (fun vs H Q E h=>?_) (fun cdv A outer s H vs Q E hr h=>?_)
 ·obtain ⟨r,c,i,rfl,_⟩:=h
  rfl
 obtain ⟨r,c,i,rfl,hr0,h1,h2,q⟩:=h;refine ⟨_,(@pss_cons _ _ _ _ _ (@ps_set _ _ 2 _ _ _ _ iT.nd rfl (Or.inr rfl) pe_str (by rfl) (.inl rfl)) (@pss_one _ _ _ (@ps_ret _ _ _ _ (pe_bm PySem.F.plainAttrs_str PySem.F.slot_str_join PySem.F.type_str_join gC pe_str (@pa1 _ _ _ (pe_comp rfl (csR (sc:=ai dR) (NL:=["k"]) (N:=["row","most","signs"]) (ρ:=[0,2]) (N':=["k","row","signs"]) rfl rfl rfl (by decide +kernel) (by decide +kernel) (by decide +kernel) rfl (by decide +kernel)) (bf rfl T.z_range (@pa1 _ _ _ (pcl IR IS (hr.mono (by lia)) rfl (@pa2 _ _ _ _ _ (pv 0) (@pe_op _ _ _ _ _ _ _ _ aB (pv 1) pe_int) (by rfl) (by rfl))) (by rfl))) (fun _ _ _ _=>(ao (i:=0) (show List.Nodup (α:=Str) ["k","row","signs"] by decide +kernel) rfl (Or.inl rfl))) (fun _ _ _ _=>(@pe_ix _ _ _ _ _ _ _ ix_str (pv 2) (pcl IR IS (hr.mono (by lia)) rfl (@pa2 _ _ _ _ _ (pv 1) (pe_callB call_len_str rfl T.z_len boot_len (@pa1 _ _ _ (pv 2) (by rfl))) (by rfl) (by rfl))) (fun _ _=>rfl)))) (by rfl)))))),?_⟩;obtain ⟨d0,d1⟩:=mod_lt c (m:=i+1) (by lia);refine ⟨rfl,_,rfl,_,rfl,_,_,rfl,rfl,r,c,_,rfl,hr0,by lia,by lia,_,rfl,by lia,by lia,fun l hln=>?_⟩;have b0:But r H (upd H r (.lst [.int (c / (i+1))])):=But.put;have nlr:r≠l:=ah ac hln;have lH:H l=none:=by rw [ag nlr.symm] at hln;exact hln
 refine aU (lo:=0) (n:=(c % (i+1)).toNat) (fun j ys σ H'=>∃ (zs:List Str) (c':Int),But r H H'∧H' r=some (.lst [.int c'])∧H' l=some (.lst ys)∧ys=zs.map V.str∧(∀ z∈zs,z.length=1∧okT z)∧zs.length=j∧∃ v1,σ=[v1,some (.ref r),some (.str signsL)])
  ⟨[],_,b0.trans (But.same (aj hln _)),(by rw [ag nlr];exact ac),ac,rfl,(by intro z hz;cases hz),rfl,none,rfl⟩ ?_ ?_
 ·rintro j ys σ H1 N hj ⟨zs,c',b1,e1,e2,rfl,hz,hle,v1,rfl⟩ next;obtain ⟨g0,g1⟩:=mod_lt c' (m:=((signsL.length:Nat):Int)) (by rw [io];decide);obtain ⟨ch,hm,hc⟩:=HK (z:=signsL) g0 g1
  refine ⟨_,rfl,_,rfl,_,rfl,_,rfl,(by decide +kernel),r,c',_,rfl,e1,by rw [io];decide,by rw [io];decide,_,_,_,rfl,rfl,(by decide +kernel),hc,?_⟩;have e3:(upd H1 r (.lst [.int (c' / ((signsL.length:Nat):Int))])) l=some (.lst (zs.map V.str)):=by rw [ag nlr.symm];exact e2
  refine ⟨e3,(by rw [aAa];exact ak (by lia)),next _ _ _ ⟨zs++[⟨#[ch]⟩],_,fun x o nx ex=>?_,(by rw [ag nlr];exact ac),ac,(by rw [aAo];rfl),fun z hz'=>?_,(by rw [aAk,hle];rfl),_,rfl⟩⟩
  ·rw [ag (ah ex lH),ag nx];exact b1 x o nx ex
  ·rcases aAK.mp hz' with h3 | h3
   ·exact hz z h3
   ·obtain rfl:=aAE.mp h3;refine ⟨rfl,fun c hc'=>?_⟩;obtain rfl:c=ch:=by simpa using hc'
    exact vy c hm
 ·intro ys σ H1 hI9;obtain ⟨zs,c',b1,e1,e2,rfl,hz,hle,v1,rfl⟩:=hI9
  have s1:∀ l:List Str,(∀ z∈l,z.length=1)→(l.map (·.length)).sum=l.length:=by
   intro l
   induction l with
   | nil=>intro _;rfl
   | cons z l ih =>
    intro h;rw [aAt,aBv,ih fun x hx=>h x (aAi _ hx),h z aAd,aAe];lia
  have s2:=s1 zs fun z h=>(hz z h).1;refine ⟨_,l,zs,rfl,rfl,.inl (SqL.of e2),(by rw [show (Str.ofString "").length=0 from rfl];lia),?_⟩;refine q _ c' H1 b1 e1 ?_ (vx fun z h=>(hz z h).2);rw [W.KT.join_ones zs fun z h=>(hz z h).1];lia
def mL (d:Dt) (ks:List Key):Prop:=(∃ (i j:Int) (ns:List Int),d=.tup [.str "number",.int i,.int j]∧ks=ns.map Sum.inl∧ns.Pairwise (· < ·)∧∀ n∈ns,i≤n∧n≤j) ∨
 (∃ (i:Int) (ss:List Str),d=.tup [.str "text",.int i]∧ks=ss.map Sum.inr∧ss.Pairwise ltS∧∀ z∈ss,((z:Str).length:Int)≤i∧okT z)
def oP (d:Dt):Prop:=(∃ i j:Int,d=.tup [.str "number",.int i,.int j]∧-1000000000000000000000000000000≤i∧i≤j∧j≤1000000000000000000000000000000)∨∃ i:Int,d=.tup [.str "text",.int i]∧0≤i∧i≤60
inductive I_sp_law_keys (K:W.Frag)   (vs:List V) (H:Hp) (Q:VK):Prop
 | mk (r:Addr) (c:Int) (d:Dt) (x:V):(vs=[.ref r,x])→(H r=some (.lst [.int c]))→(IsP K H d x)→(oP d)→(∀ p ks c' H',But r H H'→H p=none→H' r=some (.lst [.int c'])→H' p=some (.lst (ks.map kV))→ks.length≤8→mL d ks→Q (.ref p) H')→I_sp_law_keys K vs H Q
def oQ (K:W.Frag) (_:Ads)  : Sp:=fun vs H Q _=>I_sp_law_keys K vs H Q
abbrev keys8:List Str:=[""," ","-","0","A","a","b","~"]
theorem oR:keys8.Pairwise ltS∧∀ z∈keys8,z.length≤1∧okT z:=by
 refine ⟨by decide +kernel,?_⟩;have:∀ z∈keys8,z.length≤1∧∀ c∈z.cps.toList,okC c=true:=by decide +kernel
 exact this
theorem qJ (xs:List V) (m:Int) (h0:0≤m):L2.nA xs none (some m)=xs.take m.toNat:=by
 have e1:HT.sIx xs.length 0 none=0:=HT.sIx_none _ _;have e2:HT.sIx xs.length xs.length (some m)=min m.toNat xs.length:=by
  have:=HT.sIx_nat xs.length xs.length m.toNat;rw [show ((m.toNat:Nat):Int)=m by lia] at this;exact this
 unfold L2.nA;rw [e1,e2,List.drop_zero,Nat.sub_zero];rcases Nat.le_total m.toNat xs.length with h | h
 ·rw [Nat.min_eq_left h]
 ·rw [Nat.min_eq_right h,aAW,aAM h]
theorem oS (T:Tx K mg ad) {f:Addr} {fd:FuncData} (F:Gn K mg "_law_keys" dS ["row","kind"] f fd):FnOk P w K mg base CX0 2 f fd ["row","kind"] (oQ K ad):=by
 obtain ⟨_,_,IR⟩:=T.law_digit;have IS:=aE (P:=P) (w:=w) (base:=base) T IR;refine F.F.ok fm (fun vs H Q E h=>?_) (fun cdv A outer s H vs Q E hr h=>?_)
 ·obtain ⟨r,c,d,x,rfl,_⟩:=h
  rfl
 obtain ⟨r,c,d,x,rfl,hr0,hd,kf,q⟩:=h;refine ⟨_,(@pss_cons _ _ _ _ _ (@ps_set _ _ 2 _ _ _ _ fm.nd rfl (Or.inl rfl) (pcl IR IS (hr.mono (by lia)) rfl (@pa2 _ _ _ _ _ (pv 0) pe_int (by rfl) (by rfl))) (by rfl) (.inl rfl)) (@pss_cons _ _ _ _ _ (@ps_if _ _ _ _ _ _ _ _ (pt_cmpR op_eq (@pi1 K _ _ _ _ _ _ _ rfl (pv 1)) pe_str (nomark _)) (@pss_cons _ _ _ _ _ (@ps_set _ _ 3 _ _ _ _ fm.nd rfl (Or.inr rfl) (@pe_op _ _ _ _ _ _ _ _ aB (@pi1 K _ _ _ _ _ _ _ rfl (pv 1)) (pcl IR IS (hr.mono (by lia)) rfl (@pa2 _ _ _ _ _ (pv 0) (@pe_op _ _ _ _ _ _ _ _ aB (@pe_op _ _ _ _ _ _ _ _ dv (@pi1 K _ _ _ _ _ _ _ rfl (pv 1)) (@pi1 K _ _ _ _ _ _ _ rfl (pv 1))) pe_int) (by rfl) (by rfl)))) (by rfl) (.inl rfl)) (@pss_one _ _ _ (@ps_ret _ _ _ _ (sI rfl (csR (sc:=ai dS) (NL:=["k"]) (N:=["row","kind","many","start"]) (ρ:=[1,3]) (N':=["k","kind","start"]) rfl rfl rfl (by decide +kernel) (by decide +kernel) (by decide +kernel) rfl (by decide +kernel)) (bf rfl T.z_range (@pa1 _ _ _ (pv 2) (by rfl))) (fun _ _ _ _=>(ao (i:=0) (show List.Nodup (α:=Str) ["k","kind","start"] by decide +kernel) rfl (Or.inl rfl))) (fun _ _ _ _=>(pt_cmpR nn (@pe_op _ _ _ _ _ _ _ _ aB (pv 2) (pv 0)) (@pi1 K _ _ _ _ _ _ _ rfl (pv 1)) (nomark _))) (fun _ _ _ _=>(@pe_op _ _ _ _ _ _ _ _ aB (pv 2) (pv 0))))))) pss_nil) (@pss_cons _ _ _ _ _ (@ps_if _ _ _ _ _ _ _ _ (pt_cmpR op_eq (@pi1 K _ _ _ _ _ _ _ rfl (pv 1)) pe_int (nomark _)) (@pss_one _ _ _ (@ps_ret _ _ _ _ (pe_slice (eE (K:=K) rfl) (@pe_lst _ _ _ _ (@pa1 _ _ _ pe_str (by rfl))) dB (po_some (pv 2))))) pss_nil) (@pss_one _ _ _ (@ps_ret _ _ _ _ (pe_slice (eE (K:=K) rfl) (@pe_lst _ _ _ _ (@aI _ _ _ _ _ pe_str (@aI _ _ _ _ _ pe_str (@aI _ _ _ _ _ pe_str (@aI _ _ _ _ _ pe_str (@aI _ _ _ _ _ pe_str (@pa3 _ _ _ _ _ _ _ pe_str pe_str pe_str (by rfl) (by rfl) (by rfl)) (by rfl)) (by rfl)) (by rfl)) (by rfl)) (by rfl))) dB (po_some (pv 2)))))))),?_⟩;obtain ⟨d0,d1⟩:=mod_lt c (m:=9) (by decide);refine ⟨_,rfl,r,c,9,rfl,hr0,by decide,by decide,?_⟩;have b0:But r H (upd H r (.lst [.int (c / 9)])):=But.put;have hd1:=hd.but hr0 b0;have r1:(upd H r (.lst [.int (c / 9)])) r=some (.lst [.int (c / 9)]):=ac
 generalize upd H r (.lst [.int (c / 9)])=H1 at b0 hd1 r1 ⊢
 have free:∀ {l:Addr} {Hx:Hp},But r H Hx→r≠l→Hx l=none→H l=none:=fun {l Hx} B n e=>by
  cases e':H l with
  | none=>rfl
  | some o=>rw [B l o n.symm e'] at e;cases e
 rcases kf with ⟨i,j,rfl,k1,k2,k3⟩ | ⟨i,rfl,k1,k2⟩
 ·refine ⟨_,rfl,_,_,_,hd1,rfl,rfl,isS ?_⟩;refine ⟨rfl,_,rfl,fW ?_⟩;refine s_ix rfl hd1 rfl fun v hv=>?_;obtain rfl:=aX hv;refine ⟨_,rfl,_,rfl,_,_,_,hd1,rfl,rfl,isI ?_⟩;refine s_ix rfl hd1 rfl fun v hv=>?_;obtain rfl:=aX hv;obtain ⟨s0,s1⟩:=mod_lt (c / 9) (m:=j - i+1) (by lia);refine ⟨_,_,rfl,rfl,_,_,rfl,rfl,r,c / 9,_,rfl,r1,by lia,by lia,_,_,rfl,rfl,?_⟩;have b2:But r H1 (upd H1 r (.lst [.int (c / 9 / (j - i+1))])):=But.put;have r2:(upd H1 r (.lst [.int (c / 9 / (j - i+1))])) r=some (.lst [.int (c / 9 / (j - i+1))]):=ac;have hd2:=hd1.but r1 b2
  generalize upd H1 r (.lst [.int (c / 9 / (j - i+1))])=H2 at b2 r2 hd2 ⊢
  refine ⟨_,rfl,_,rfl,by lia,by lia,fun l hln=>?_⟩;have nlr:r≠l:=ah r2 hln;have lH:H l=none:=free (b0.trans b2) nlr hln
  generalize hst:i+c / 9 % (j - i+1)=st
  have st1:i≤st∧st≤j:=by lia
  refine aU (lo:=0) (n:=(c % 9).toNat) (fun t ys σ H'=>∃ ns:List Int,But r H H'∧H' r=some (.lst [.int (c / 9 / (j - i+1))])∧H' l=some (.lst ys)∧ys=ns.map V.int∧ns.Pairwise (· < ·)∧(∀ n∈ns,i≤n∧n≤j∧n < st+t)∧ns.length≤t∧∃ v1,σ=[v1,some x,some (.int st)])
   ⟨[],(b0.trans b2).trans (But.same (aj hln _)),(by rw [ag nlr];exact r2),ac,rfl,.nil,(by intro n hn;cases hn),aAl _,none,(by rw [← hst];rfl)⟩ ?_ ?_
  ·rintro t ys σ H3 N ht ⟨ns,b3,e3,e4,rfl,pw,bd,hle,v1,rfl⟩ next;have hd3:=hd.but hr0 b3;refine ⟨_,rfl,_,rfl,_,_,rfl,rfl,_,rfl,_,_,_,hd3,rfl,rfl,isI ?_⟩;refine ⟨_,_,rfl,rfl,_,rfl,?_⟩;refine aK (fun c1=>?_) (fun c1=>?_)
   ·have c1':st+(0+(t:Int))≤j:=of_decide_eq_true c1;refine ⟨_,rfl,_,rfl,_,_,rfl,rfl,e4,(by rw [aAa];exact ak (by lia)),next _ _ _ ⟨ns++[st+(0+(t:Int))],fun y o ny ey=>?_,(by rw [ag nlr];exact e3),ac,(by rw [aAo];rfl),?_,fun n hn=>?_,?_,_,rfl⟩⟩
    ·rw [ag (ah ey lH)];exact b3 y o ny ey
    ·refine List.pairwise_append.mpr ⟨pw,aBz _ _,fun a ha b hb=>?_⟩;obtain rfl:=aAE.mp hb;have:=bd a ha;lia
    ·rcases aAK.mp hn with h1 | h1
     ·have:=bd n h1;refine ⟨this.1,this.2.1,?_⟩
      push_cast
      lia
     ·obtain rfl:=aAE.mp h1;refine ⟨by lia,c1',?_⟩
      push_cast
      lia
    ·rw [aAk];simp only [aAe,aAI];lia
   ·refine next _ _ _ ⟨ns,b3,e3,e4,rfl,pw,fun n hn=>?_,by lia,_,rfl⟩;have:=bd n hn;refine ⟨this.1,this.2.1,?_⟩
    push_cast
    lia
  ·intro ys σ H3 hI9;obtain ⟨ns,b3,e3,e4,rfl,pw,bd,hle,v1,rfl⟩:=hI9
   refine q l (ns.map Sum.inl) _ H3 b3 lH e3 ?_ ?_ (.inl ⟨i,j,ns,rfl,rfl,pw,fun n hn=>⟨(bd n hn).1,(bd n hn).2.1⟩⟩)
   ·rw [aAL];exact e4
   ·rw [aAa];lia
 ·refine ⟨_,rfl,_,_,_,hd1,rfl,rfl,isS ?_⟩;refine ⟨rfl,_,rfl,dh (bS (by decide)) ?_⟩;refine s_ix rfl hd1 rfl fun v hv=>?_;obtain rfl:=aX hv;refine ⟨rfl,_,rfl,aK (fun c1=>?_) (fun c1=>?_)⟩
  ·refine ⟨sz1,fun p hp=>⟨_,rfl,_,rfl,p,[V.str ""],rfl,SqL.of ac,fun p2 hp2=>?_⟩⟩;have g2:=aj hp (.lst [V.str ""]);have nr2:r≠p2:=ah (g2 _ _ r1) hp2;rw [qJ _ _ d0];refine q p2 ((([("" : Str)]).take (c % 9).toNat).map Sum.inr) _ _ ((b0.trans (But.same g2)).trans (But.same (aj hp2 _))) (free (b0.trans (But.same g2)) nr2 hp2) (by rw [ag nr2];exact g2 _ _ r1) ?_ ?_ (.inr ⟨i,_,rfl,rfl,?_,fun z hz=>?_⟩)
   ·rw [ac,aAL,aBW]
    rfl
   ·rw [aAa,aAz];exact aAA (aB7 _ _) (by decide)
   ·exact (aBz ltS ("" : Str)).sublist (aBq _ _)
   ·obtain rfl:=aAE.mp (aBK hz);exact ⟨by show (0:Int)≤i;exact k1,fun c hc=>by cases (show c∈([]:List Nat) from hc)⟩
  ·refine ⟨(by show 8≤sizeLine;decide),fun p hp=>⟨_,rfl,_,rfl,p,keys8.map V.str,rfl,SqL.of ac,fun p2 hp2=>?_⟩⟩;have g2:=aj hp (.lst (keys8.map V.str));have nr2:r≠p2:=ah (g2 _ _ r1) hp2;have i1:1≤i:=by
    have:¬ i=0:=fun e=>c1 (decide_eq_true (by rw [e]));lia
   rw [qJ _ _ d0];refine q p2 ((keys8.take (c % 9).toNat).map Sum.inr) _ _ ((b0.trans (But.same g2)).trans (But.same (aj hp2 _))) (free (b0.trans (But.same g2)) nr2 hp2) (by rw [ag nr2];exact g2 _ _ r1) ?_ ?_ (.inr ⟨i,_,rfl,rfl,oR.1.sublist (aBq _ _),fun z hz=>?_⟩)
   ·rw [ac,aAL,← aBW]
    rfl
   ·rw [aAa,aAz];exact aAA (aB7 _ _) (by decide)
   ·obtain ⟨z1,z2⟩:=oR.2 z (aBK hz);exact ⟨by lia,z2⟩
def jS:List Dt→Str→Option Dt
 | .tup [.str n,k] :: r,z=>if n=z then some k else jS r z
 | _,_=>none
theorem fA (z:Str):∀ fs:List (Str×Dt),jS (fs.map prD) z=au fs z
 | []=>rfl
 | (n,k) :: fs=>by
  show (if n=z then some k else jS (fs.map prD) z)=_;rw [fA z fs]
  by_cases h:n=z <;> simp [au,h]
def fJ (v:Dt) (z:Str):Dt:=match v with
 | .tup [_,.tup l]=>(jS l z).getD .non
 | _=>.non
def kD:Key→Dt
 | .inl i=>.int i
 | .inr z=>.str z
def Asc (l:List Dt):Prop:=(∃ ns:List Int,l=ns.map Dt.int∧ns.Pairwise (· < ·))∨∃ ss:List Str,l=ss.map Dt.str∧ss.Pairwise ltS
inductive FV:Dt→Dt→Prop
 | number {i j x:Int}:i≤x→x≤j→FV (.tup [.str "number",.int i,.int j]) (.int x)
 | text {i:Int} {z:Str}:(z.length:Int)≤i→okT z→FV (.tup [.str "text",.int i]) (.str z)
 | choice {ws:List Str} {z:Str}:z∈ws→FV (.tup [.str "choice",.tup (ws.map Dt.str)]) (.str z)
 | list {k:Dt} {i:Int} {vs:List Dt}:(∀ v∈vs,FV k v)→(vs.length:Int)≤i→FV (.tup [.str "list",k,.int i]) (.tup [.str "list",.tup vs])
 | rows {k:Dt} {z:Str} {i:Int} {vs:List Dt}:(∀ v∈vs,FV k v)→(vs.length:Int)≤i→Asc (vs.map fun v=>fJ v z)→FV (.tup [.str "rows",.str z,k,.int i]) (.tup [.str "rows",.tup vs])
 | rcd {fs gs:List (Str×Dt)}:gs.map (·.1)=fs.map (·.1)→(∀ (i:Nat) (f g:Str×Dt),fs[i]?=some f→gs[i]?=some g→FV f.2 g.2)→FV (.tup [.str "record",.tup (fs.map prD)]) (.tup [.str "record",.tup (gs.map prD)])
mutual
theorem jT {K:W.Frag} {H H':Hp} {p:Addr} {kvs:List (Key×V)} (hp:H p=some (.dK kvs)) (g:But p H H'):∀ {d:Dt} {v:V},IsP K H d v→IsP K H' d v
 | _,_,.non=>.non
 | _,_,.bl=>.bl
 | _,_,.int=>.int
 | _,_,.str=>.str
 | _,_,.tup h pl q=>.tup (g.tup (by obtain ⟨o,u,e,dn⟩:=pl;exact fK e hp (by intro c;cases c)) h) (by
   obtain ⟨o,u,e,dn⟩:=pl;exact ⟨o,u,g _ _ (fK e hp (by intro c;cases c)) e,dn⟩) (lK hp g q)
theorem lK {K:W.Frag} {H H':Hp} {p:Addr} {kvs:List (Key×V)} (hp:H p=some (.dK kvs)) (g:But p H H'):∀ {l:List Dt} {xs:List V},IsPs K H l xs→IsPs K H' l xs
 | _,_,.nil=>.nil
 | _,_,.cons h q=>.cons (jT hp g h) (lK hp g q)
end
inductive I_svalue (K:W.Frag) (n:Nat)  (vs:List V) (H:Hp) (Q:VK):Prop
 | mk (r:Addr) (c:Int) (a ct:Nat) (d:Dt) (x:V):(a≤n)→(vs=[.ref r,x])→(H r=some (.lst [.int c]))→(IsP K H d x)→(FK a ct d)→(∀ (v:V) (e:Dt) (c':Int) (H':Hp),But r H H'→H' r=some (.lst [.int c'])→IsP K H' e v→FV d e→Q v H')→I_svalue K n vs H Q
def jU (K:W.Frag) (n:Nat)  : Sp:=fun vs H Q _=>I_svalue K n vs H Q
inductive I_srowv (K:W.Frag) (n:Nat)  (vs:List V) (H:Hp) (Q:VK):Prop
 | mk (r:Addr) (c i:Int) (z:Str) (fs:List (Str×Dt)) (kk:Dt) (x:V):(vs=[.ref r,x])→(H r=some (.lst [.int c]))→(IsP K H (.tup [.str "rows",.str z,.tup [.str "record",.tup (fs.map prD)],.int i]) x)→((∀ f∈fs,∃ a ct,a≤n∧FK a ct f.2))→((fs.map (·.1)).Pairwise ltS)→(fs.length≤8)→(au fs z=some kk)→(oP kk)→(0≤i)→(i≤8)→(∀ (v:V) (vs':List Dt) (c':Int) (H':Hp),But r H H'→H' r=some (.lst [.int c'])→IsP K H' (.tup [.str "rows",.tup vs']) v→FV (.tup [.str "rows",.str z,.tup [.str "record",.tup (fs.map prD)],.int i]) (.tup [.str "rows",.tup vs'])→Q v H')→I_srowv K n vs H Q
def yk (K:W.Frag) (n:Nat)  : Sp:=fun vs H Q _=>I_srowv K n vs H Q
theorem oU:∀ {a b:List Str},a.Pairwise ltS→b.Pairwise ltS→a.Perm b→a=b
 | [],b,_,_,h=>(List.nil_perm.mp h).symm
 | x :: a,[],_,_,h=>absurd (List.perm_nil.mp h) (by simp)
 | x :: a,y :: b,ha,hb,h=>by
  have ha':=aBx.mp ha;have hb':=aBx.mp hb;have e:x=y:=by
   rcases aAp.mp (h.mem_iff.mp (aAd:x∈x :: a)) with e | hx
   ·exact e
   ·rcases aAp.mp (h.mem_iff.mpr (aAd:y∈y :: b)) with e | hy
    ·exact e.symm
    ·exact absurd (List.lt_trans (hb'.1 x hx) (ha'.1 y hy)) (aCi _)
  subst e;rw [oU ha'.2 hb'.2 (List.Perm.cons_inv h)]
theorem di {z:Str} {v:Dt}:∀ {fs:List (Str×Dt)} {i:Nat},(fs.map (·.1)).Nodup→fs[i]?=some (z,v)→au fs z=some v
 | [],i,_,h=>by simp at h
 | f :: fs,0,nd,h=>by
  obtain rfl:f=(z,v):=by simpa using h
  simp [au]
 | f :: fs,i+1,nd,h=>by
  have nd':=aBo.mp (show (f.1 :: fs.map (·.1)).Nodup from nd);have h2:fs[i]?=some (z,v):=by simpa using h
  have hz:¬ f.1=z:=fun c=>nd'.1 (aAr.mpr ⟨(z,v),aAn h2,c.symm⟩);rw [← di nd'.2 h2];simp [au,hz]
theorem rH {a c:Nat} {d:Dt} (h:FK a c d):∃ w rest,d=.tup (.str w :: rest):=by
 cases h <;> exact ⟨_,_,rfl⟩
theorem qK {d:Dt} {ks:List Key} {k:Key} (h:mL d ks) (hk:k∈ks):FV d (kD k):=by
 rcases h with ⟨i,j,ns,rfl,rfl,_,b⟩ | ⟨i,ss,rfl,rfl,_,b⟩
 ·obtain ⟨n,hn,rfl⟩:=aAr.mp hk;exact .number (b n hn).1 (b n hn).2
 ·obtain ⟨s,hs,rfl⟩:=aAr.mp hk;exact .text (b s hs).1 (b s hs).2
theorem oV {d:Dt} {ks:List Key} (h:mL d ks) (t:Nat):Asc ((ks.take t).map kD):=by
 rcases h with ⟨i,j,ns,rfl,rfl,pw,_⟩ | ⟨i,ss,rfl,rfl,pw,_⟩
 ·refine .inl ⟨ns.take t,?_,pw.sublist (aBq _ _)⟩;rw [← aBW,aAL]
  rfl
 ·refine .inr ⟨ss.take t,?_,pw.sublist (aBq _ _)⟩;rw [← aBW,aAL]
  rfl
theorem jV {z:Str} {kk:Dt}:∀ {fs gs:List (Str×Dt)},gs.map (·.1)=fs.map (·.1)→au fs z=some kk→∃ e,au gs z=some e∧(z,e)∈gs
 | [],_,_,h=>by simp [au] at h
 | f :: fs,[],e,_=>by simp at e
 | f :: fs,g :: gs,e,h=>by
  have e1:g.1=f.1:=(List.cons.inj (show g.1 :: gs.map (·.1)=f.1 :: fs.map (·.1) from e)).1;have e2:gs.map (·.1)=fs.map (·.1):=(List.cons.inj (show g.1 :: gs.map (·.1)=f.1 :: fs.map (·.1) from e)).2
  by_cases hz:f.1=z
  ·refine ⟨g.2,by simp [au,e1,hz],?_⟩;have:g=(z,g.2):=by rw [← hz,← e1]
   rw [← this];exact aAd
  ·have h':au (f :: fs) z=au fs z:=by simp [au,hz]
   rw [h'] at h;obtain ⟨d,h1,h2⟩:=jV e2 h;exact ⟨d,by rw [← h1];simp [au,e1,hz],aAi _ h2⟩
theorem aR (T:Tx K mg ad) {f fk:Addr} {fd fdk:FuncData} (n:Nat) (F:Gn K mg "_law_row_values" aN ["row","kind"] f fd) (Ji:Gn K mg "_law_value" bt ["row","kind"] fk fdk)
  (Jr:FnOk P w K mg base CX0 (2*n+3) fk fdk ["row","kind"] (jU K n)):FnOk P w K mg base CX0 (2*n+3+1) f fd ["row","kind"] (yk K n):=by
 obtain ⟨_,_,Kh⟩:=T.law_keys;have KQ:=oS (P:=P) (w:=w) (base:=base) T Kh;refine F.F.ok sc_law_row_values (fun vs H Q E h=>?_) (fun cdv A outer s H vs Q E hr h=>?_)
 ·obtain ⟨r,c,i,z,fs,kk,x,rfl,_⟩:=h
  rfl
 obtain ⟨r,c,i,z,fs,kk,x,rfl,hr0,hd,gk,asc,hl,lk,kf,i0,i8,q⟩:=h;refine ⟨_,(@pss_cons _ _ _ _ _ (@ps_set _ _ 2 _ _ _ _ sc_law_row_values.nd rfl (Or.inr rfl) (pe_callTy (oi (K:=K) rfl rfl) rfl T.z_dict boot_dict (@pa1 _ _ _ (@pi1 K _ _ _ _ _ _ _ rfl (@pi1 K _ _ _ _ _ _ _ rfl (pv 1))) (by rfl))) (by rfl) (.inl rfl)) (@pss_cons _ _ _ _ _ (@ps_set _ _ 3 _ _ _ _ sc_law_row_values.nd rfl (Or.inl rfl) (@pe_lst _ _ _ _ pa_nil) (by rfl) (.inl rfl)) (@pss_cons _ _ _ _ _ (@ps_set _ _ 4 _ _ _ _ sc_law_row_values.nd rfl (Or.inl rfl) (@pi1 K _ _ _ _ _ _ _ rfl (pv 1)) (by rfl) (.inl rfl)) (@pss_cons _ _ _ _ _ (@ps_if _ _ _ _ _ _ _ _ (@pt_val _ _ _ (pe_callB (tu (K:=K) rfl rfl) rfl T.z_any boot_any (@pa1 _ _ _ (pe_comp rfl (csR (sc:=ai aN) (NL:=["name"]) (N:=["row","kind","fields","items","most","key","pairs","name","value"]) (ρ:=[2]) (N':=["name","fields"]) rfl rfl rfl (by decide +kernel) (by decide +kernel) (by decide +kernel) rfl (by decide +kernel)) (xp (pv 2)) (fun _ _ _ _=>(ao (i:=0) (show List.Nodup (α:=Str) ["name","fields"] by decide +kernel) rfl (Or.inl rfl))) (fun _ _ _ _=>(pe_cmpR (dH (K:=K) rfl) (@pi1 K _ _ _ _ _ _ _ rfl (@jc _ _ _ _ _ _ (u1 hr.units) (pv 1) (pv 0) (fun _ _=>rfl))) (@pe_lst _ _ _ _ (@pa3 _ _ _ _ _ _ _ pe_str pe_str pe_str (by rfl) (by rfl) (by rfl))) rfl))) (by rfl))) (by intro _;rfl)) (@pss_one _ _ _ (@ps_set _ _ 4 _ _ _ _ sc_law_row_values.nd rfl (Or.inl rfl) (pe_callB (call_min2 rfl) rfl T.z_min boot_min (@pa2 _ _ _ _ _ (pv 4) pe_int (by rfl) (by rfl))) (by rfl) (.inl rfl))) pss_nil) (@pss_cons _ _ _ _ _ (ps_for PassesOwn.never rfl (pi_listN (K:=K) rfl (pe_slice (eE (K:=K) rfl) (pcl Kh KQ (hr.mono (by lia)) rfl (@pa2 _ _ _ _ _ (pv 0) (@jc _ _ _ _ _ _ (u1 hr.units) (pv 2) (@pi1 K _ _ _ _ _ _ _ rfl (pv 1)) (fun _ _=>rfl)) (by rfl) (by rfl))) dB (po_some (pv 4)))) (ao (i:=5) sc_law_row_values.nd rfl (Or.inl rfl))
    (@pss_cons _ _ _ _ _ (@ps_set _ _ 6 _ _ _ _ sc_law_row_values.nd rfl (Or.inl rfl) (@pe_lst _ _ _ _ pa_nil) (by rfl) (.inl rfl)) (@pss_cons _ _ _ _ _ (ps_for PassesOwn.never rfl (pi_listN (K:=K) rfl (pe_callB (oh rfl) rfl T.z_sorted boot_sorted (@pa1 _ _ _ (pv 2) (by rfl)))) (ao (i:=7) sc_law_row_values.nd rfl (Or.inl rfl))
    (@pss_cons _ _ _ _ _ (@ps_set _ _ 8 _ _ _ _ sc_law_row_values.nd rfl (Or.inl rfl) (pv 5) (by rfl) (.inl rfl)) (@pss_cons _ _ _ _ _ (@ps_if _ _ _ _ _ _ _ _ (pt_cmpR op_ne (pv 7) (@pi1 K _ _ _ _ _ _ _ rfl (pv 1)) (nomark _)) (@pss_one _ _ _ (@ps_set _ _ 8 _ _ _ _ sc_law_row_values.nd rfl (Or.inl rfl) (pcl Ji Jr (hr.mono (by lia)) rfl (@pa2 _ _ _ _ _ (pv 0) (@jc _ _ _ _ _ _ (u1 hr.units) (pv 2) (pv 7) (fun _ _=>rfl)) (by rfl) (by rfl))) (by rfl) (.inl rfl))) pss_nil) (@pss_one _ _ _ (@ps_expr _ _ _ _ (pe_bm PySem.F.plainAttrs_list PySem.F.slot_list_append PySem.F.type_list_append bU (pv 6) (@pa1 _ _ _ (@pe_tupPK _ K _ _ _ _ rfl (@pa2 _ _ _ _ _ (pv 7) (pv 8) (by rfl) (by rfl))) (by rfl))) (by rfl)))))) (@pss_one _ _ _ (@ps_expr _ _ _ _ (pe_bm PySem.F.plainAttrs_list PySem.F.slot_list_append PySem.F.type_list_append bU (pv 3) (@pa1 _ _ _ (@pe_tupPK _ K _ _ _ _ rfl (@pa2 _ _ _ _ _ pe_str (pe_callTy (aQ (K:=K) rfl) rfl T.z_tuple boot_tuple (@pa1 _ _ _ (pv 6) (by rfl))) (by rfl) (by rfl))) (by rfl))) (by rfl)))))) (@pss_one _ _ _ (@ps_ret _ _ _ _ (@pe_tupPK _ K _ _ _ _ rfl (@pa2 _ _ _ _ _ pe_str (pe_callTy (aQ (K:=K) rfl) rfl T.z_tuple boot_tuple (@pa1 _ _ _ (pv 3) (by rfl))) (by rfl) (by rfl)))))))))),?_⟩
 have nd:=gF asc;refine s_ix rfl hd rfl fun v1 hv1=>?_;refine ⟨_,_,_,hv1,rfl,rfl,fun v2 hv2=>?_⟩;refine ⟨v2,fs,rfl,hv2,nd,by lia,fun p H1 hpn g1 dq=>?_⟩;obtain ⟨kvs,ep,ek,kval⟩:=dq
 have ek':kvs.map (·.1)=(fs.map (·.1)).map (Sum.inr:Str→Key):=by rw [ek,aAL];rfl
 have nrp:r≠p:=ah hr0 hpn;have lk8:kvs.length=fs.length:=by have:=congrArg List.length ek;simpa using this
 refine ⟨(by show 0≤sizeLine;decide),fun pf hpf=>?_⟩;have g2:=aj hpf (.lst []);have np:p≠pf:=ah ep hpf;have nrf:r≠pf:=ah (g1 _ _ hr0) hpf;have hd2:=(hd.same g1).same g2;refine s_ix rfl hd2 rfl fun v hv=>?_;obtain rfl:=aX hv;refine Hy (fun σ' H'=>∃ (mst:Int) (ob:Obj),σ'=[some (.ref r),some x,some (.ref p),some (.ref pf),some (.int mst),none,none,none,none]∧0≤mst∧mst≤i∧H' p=some (.frz ob (.dK kvs))∧H' r=some (.lst [.int c])∧H' pf=some (.lst [])∧IsP K H' (.tup [.str "rows",.str z,.tup [.str "record",.tup (fs.map prD)],.int i]) x∧(∀ w d,au fs w=some d→∃ v,bV kvs (Sum.inr w:Key)=some v∧IsP K H' d v)∧Same H H') ?_ ?_
 ·intro s9_ H3 hI9;obtain ⟨mst,ob,rfl,m0,m1,eF,rF,fF,hdF,kvF,SF⟩:=hI9
  have s3:=Same.refl H3;have eP:=s3 _ _ eF;have r3:=s3 _ _ rF;have hd3:=hdF.same s3;obtain ⟨vk,h9,hvk⟩:=kvF z kk lk
  refine ⟨_,rfl,_,rfl,_,rfl,_,_,_,hd3,rfl,rfl,fun v hv=>?_⟩;obtain rfl:=ay hv;refine ⟨p,vk,rfl,.inl ⟨kvs,Sum.inr z,.inr ⟨ob,eP⟩,rfl,h9.symm⟩,?_⟩;refine ⟨r,c,kk,vk,rfl,r3,hvk.same s3,kf,fun pk ks c4 H4 b4 hpk r4 e4 l4 kfor=>?_⟩;refine ⟨_,rfl,_,rfl,pk,_,rfl,SqL.of e4,fun p5 hp5=>?_⟩;rw [qJ _ _ m0];have g5:=aj hp5 (.lst ((ks.map kV).take mst.toNat));have e5:(upd H4 p5 (.lst ((ks.map kV).take mst.toNat))) p5=some (.lst ((ks.map kV).take mst.toNat)):=ac;have F4:H4 pf=some (.lst []):=b4 _ _ nrf.symm (s3 _ _ fF);have P4:H4 p=some (.frz ob (.dK kvs)):=b4 _ _ nrp.symm eP;have n5r:p5≠r:=(ah r4 hp5).symm;have n5f:p5≠pf:=(ah F4 hp5).symm
  generalize upd H4 p5 (.lst ((ks.map kV).take mst.toNat))=H5 at g5 e5 ⊢
  have B5:But r H3 H5:=b4.trans (But.same g5);have P5:=g5 _ _ P4;have F5:=g5 _ _ F4;have r5:=g5 _ _ r4;have hd5:=hd3.but r3 B5;have kv5:∀ w d,au fs w=some d→∃ v,bV kvs (Sum.inr w:Key)=some v∧IsP K H5 d v:=fun w d e=>by
   obtain ⟨v,h1,h2⟩:=kvF w d e
   exact ⟨v,h1,(h2.same s3).but r3 B5⟩
  refine ⟨p5,rfl,⟨_,SqL.of e5⟩,ei (xs:=(ks.map kV).take mst.toNat) (fun t σ H'=>∃ (its:List Dt) (ys:List V) (c':Int) (w5 w6 w7 w8:Option V),But2 r pf H5 H'∧H' r=some (.lst [.int c'])∧H' pf=some (.lst ys)∧IsPs K H' its ys∧(∀ v∈its,FV (.tup [.str "record",.tup (fs.map prD)]) v)∧(its.map fun v=>fJ v z)=(ks.take t).map kD∧its.length=t∧σ=[some (.ref r),some x,some (.ref p),some (.ref pf),some (.int mst),w5,w6,w7,w8])
   ⟨[],[],c4,none,none,none,none,But2.refl _ _ _,r5,F5,.nil,(by intro v hv;cases hv),rfl,rfl,rfl⟩ (fun t σ H' _ pv=>by
    obtain ⟨_,_,_,_,_,_,_,b,_⟩:=pv
    exact SqL.of (b _ _ n5r n5f e5)) ?_ ?_⟩
  ·intro t u σ H6 hu hI9;obtain ⟨its,ys,c6,w5,w6,w7,w8,b6,r6,f6,hp6,fv6,ke6,le6,rfl⟩:=hI9
   have hu':(ks.map kV)[t]?=some u:=by
    rw [List.getElem?_take] at hu
    split at hu
    ·exact hu
    ·cases hu
   rw [aAg] at hu';obtain ⟨key,hkey,rfl⟩:=aAh.mp hu'
   have ht8:t < ks.length:=(aAc.mp hkey).1;have np6:p≠pf:=np;have P6:=b6 _ _ nrp.symm np6 P5;refine ⟨(by show 0≤sizeLine;decide),fun pp hpp=>?_⟩;have g7:=aj hpp (.lst []);have rp:r≠pp:=ah r6 hpp;have fp:pf≠pp:=ah f6 hpp;refine ⟨_,rfl,p,kvs,fs.map (·.1),rfl,.inr ⟨ob,g7 _ _ P6⟩,ek',by rw [aAa];lia,fun pn ss' hpn' perm srt=>?_⟩;obtain rfl:=oU (lI srt (perm.nodup_iff.mpr nd)) asc perm;have g8:=aj hpn' (.lst ((fs.map (·.1)).map V.str));have e8:(upd (upd H6 pp (.lst [])) pn (.lst ((fs.map (·.1)).map V.str))) pn=some (.lst ((fs.map (·.1)).map V.str)):=ac;have npn:pn≠pp:=fun c=>by rw [c,ac] at hpn';cases hpn'
   have npr:pn≠r:=fun c=>by rw [c,g7 _ _ r6] at hpn';cases hpn'
   have pp8:(upd (upd H6 pp (.lst [])) pn (.lst ((fs.map (·.1)).map V.str))) pp=some (.lst []):=g8 _ _ ac;have S8:Same H6 (upd (upd H6 pp (.lst [])) pn (.lst ((fs.map (·.1)).map V.str))):=g7.trans g8
   generalize upd (upd H6 pp (.lst [])) pn (.lst ((fs.map (·.1)).map V.str))=H8 at e8 pp8 S8 g8 ⊢
   have r8:=S8 _ _ r6;have hd8:=(gJ r5 F5 b6 hd5).same S8;have kv8:∀ w d,au fs w=some d→∃ v,bV kvs (Sum.inr w:Key)=some v∧IsP K H8 d v:=fun w d e=>by
    obtain ⟨v,h1,h2⟩:=kv5 w d e
    exact ⟨v,h1,(gJ r5 F5 b6 h2).same S8⟩
   have P8:=S8 _ _ P6;have hkd:∀ (H':Hp),IsP K H' (kD key) (kV key):=fun H'=>by
    cases key with
    | inl i=>exact .int
    | inr s=>exact .str
   have fvk:FV kk (kD key):=qK kfor (aAn hkey);refine ⟨pn,rfl,⟨_,SqL.of e8⟩,ei (xs:=(fs.map (·.1)).map V.str) (fun j σ H'=>∃ (gs:List (Str×Dt)) (ys':List V) (c':Int) (w7 w8:Option V),But2 r pp H8 H'∧H' r=some (.lst [.int c'])∧H' pp=some (.lst ys')∧IsPs K H' (gs.map prD) ys'∧gs.map (·.1)=(fs.take j).map (·.1)∧(∀ (i:Nat) (f g:Str×Dt),fs[i]?=some f→gs[i]?=some g→FV f.2 g.2)∧(∀ g∈gs,g.1=z→g.2=kD key)∧σ=[some (.ref r),some x,some (.ref p),some (.ref pf),some (.int mst),some (kV key),some (.ref pp),w7,w8])
    ⟨[],[],c6,_,_,But2.refl _ _ _,r8,pp8,.nil,rfl,(by intro i f g _ e;simp at e),(by intro g hg;cases hg),rfl⟩ (fun j σ H' _ pv=>by
     obtain ⟨_,_,_,_,_,b,_⟩:=pv
     exact SqL.of (b _ _ npr npn e8)) ?_ ?_⟩
   ·intro j un σ H9 hun hI9;obtain ⟨gs,ys',c9,w7,w8,b9,r9,p9,hp9,en,gv,kz,rfl⟩:=hI9
    rw [aAg] at hun;obtain ⟨wf,hwf,rfl⟩:=aAh.mp hun
    rw [aAg] at hwf;obtain ⟨⟨wf',d⟩,hf,rfl⟩:=aAh.mp hwf
    have hjf:j < fs.length:=(aAc.mp hf).1;have lg:gs.length=j:=by
     have:=congrArg List.length en;simp only [aAa,aAz] at this;lia
    have ly:ys'.length=j:=by rw [← hp9.length,aAa,lg]
    have hd9:=gJ r8 pp8 b9 hd8;have done:∀ (e:Dt) (v:V) (c10:Int) (H10:Hp),But r H9 H10→H10 r=some (.lst [.int c10])→IsP K H10 e v→FV d e→(wf'=z→e=kD key) →
      ∀ (v11:V) (H11:Hp),Same H10 H11→IsP K H11 (prD (wf',e)) v11→∃ (gs:List (Str×Dt)) (ys'':List V) (c':Int),But2 r pp H8 (upd H11 pp (.lst (ys'++[v11])))∧(upd H11 pp (.lst (ys'++[v11]))) r=some (.lst [.int c'])∧(upd H11 pp (.lst (ys'++[v11]))) pp=some (.lst ys'')∧H11 pp=some (.lst ys')∧IsPs K (upd H11 pp (.lst (ys'++[v11]))) (gs.map prD) ys''∧gs.map (·.1)=(fs.take (j+1)).map (·.1)∧(∀ (i:Nat) (f g:Str×Dt),fs[i]?=some f→gs[i]?=some g→FV f.2 g.2)∧(∀ g∈gs,g.1=z→g.2=kD key):=by
     intro e v c10 H10 b10 r10 hv10 fv10 kz10 v11 H11 g11 hv11;have p11:H11 pp=some (.lst ys'):=g11 _ _ (b10 _ _ rp.symm p9);have b12:But pp H11 (upd H11 pp (.lst (ys'++[v11]))):=But.put;refine ⟨gs++[(wf',e)],ys'++[v11],c10,fun y o n1 n2 ey=>?_,by rw [ag rp];exact g11 _ _ r10,ac,p11,?_,?_,fun jj f g hjf' hjg=>?_,fun g hg hgz=>?_⟩
     ·rw [ag n2];exact g11 _ _ (b10 y o n1 (b9 y o n1 n2 ey))
     ·rw [aAo];exact (((hp9.but r9 b10).same g11).but p11 b12).append (.cons (hv11.but p11 b12) .nil)
     ·rw [aAo,en,aAD,hf,aAo]
      rfl
     ·by_cases hj:jj < gs.length
      ·rw [aBi hj] at hjg;exact gv jj f g hjf' hjg
      ·rw [aA4 (by lia)] at hjg;have hj2:jj=j:=by
        have:=(aAc.mp hjg).1;simp only [aAe,aAI] at this;lia
       subst hj2;rw [lg,Nat.sub_self] at hjg;obtain rfl:(wf',e)=g:=by simpa using hjg
       rw [hf] at hjf';obtain rfl:=Option.some.inj hjf';exact fv10
     ·rcases aAK.mp hg with h1 | h1
      ·exact kz g h1 hgz
      ·obtain rfl:=aAE.mp h1;exact kz10 hgz
    refine ⟨_,rfl,_,rfl,_,rfl,_,_,_,hd9,rfl,rfl,isS ?_⟩;refine ⟨rfl,_,rfl,?_⟩
    by_cases hz:wf'=z
    ·subst hz;have ed:d=kk:=Option.some.inj ((di nd hf).symm.trans lk);subst ed;refine ou ?_;refine ⟨_,rfl,.inl ⟨rfl,_,SqL.of p9⟩,_,rfl,_,rfl,[.str wf',kD key],.cons .str (.cons (hkd _) .nil),sz2,fun v11 H11 g11 hv11=>?_⟩;obtain ⟨gs',ys'',c',h1,h2,h3,h4,h5,h6,h7,h8⟩:=done (kD key) (kV key) c9 H9 (But.refl _ _) r9 (hkd _) fvk (fun _=>rfl) v11 H11 g11 hv11
     exact ⟨pp,ys',_,rfl,rfl,h4,ak (by lia),gs',ys'',c',_,_,h1,h2,h3,h5,h6,h7,h8,rfl⟩
    ·refine lC (bS hz) ?_;obtain ⟨v9,h9',hv9⟩:=kv8 wf' d (di nd hf)
     obtain ⟨a9,ct9,ha9,fk9⟩:=gk _ (aAn hf)
     refine ⟨_,rfl,_,rfl,_,rfl,p,v9,rfl,.inl ⟨kvs,Sum.inr wf',.inr ⟨ob,b9 _ _ nrp.symm (fun c=>by rw [c,pp8] at P8;cases P8) P8⟩,rfl,h9'.symm⟩,?_⟩;refine ⟨r,c9,a9,ct9,d,v9,ha9,rfl,r9,gJ r8 pp8 b9 hv9,fk9,fun v e c10 H10 b10 r10 hv10 fv10=>?_⟩;refine ⟨_,rfl,.inl ⟨rfl,_,SqL.of (b10 _ _ rp.symm p9)⟩,_,rfl,_,rfl,[.str wf',e],.cons .str (.cons hv10 .nil),sz2,fun v11 H11 g11 hv11=>?_⟩;obtain ⟨gs',ys'',c',h1,h2,h3,h4,h5,h6,h7,h8⟩:=done e v c10 H10 b10 r10 hv10 fv10 (fun c=>absurd c hz) v11 H11 g11 hv11
     exact ⟨pp,ys',_,rfl,rfl,h4,ak (by lia),gs',ys'',c',_,_,h1,h2,h3,h5,h6,h7,h8,rfl⟩
   ·intro σ H9 hI9;obtain ⟨gs,ys',c9,w7,w8,b9,r9,p9,hp9,en,gv,kz,rfl⟩:=hI9
    rw [aAa,aAa,aAW] at en;have f9:H9 pf=some (.lst ys):=b9 _ _ nrf.symm fp (S8 _ _ f6);refine ⟨_,rfl,.inl ⟨rfl,_,SqL.of f9⟩,_,rfl,pp,ys',_,rfl,SqL.of p9,hp9,fun v10 H10 g10 hv10=>?_⟩;refine ⟨[.str "record",.tup (gs.map prD)],.cons .str (.cons hv10 .nil),sz2,fun v11 H11 g11 hv11=>?_⟩;have f11:=g11 _ _ (g10 _ _ f9);have b12:But pf H11 (upd H11 pf (.lst (ys++[v11]))):=But.put;have ly6:ys.length=t:=by rw [← hp6.length,le6]
    refine ⟨pf,ys,_,rfl,rfl,f11,ak (by lia),?_⟩;refine ⟨its++[.tup [.str "record",.tup (gs.map prD)]],ys++[v11],c9,_,_,_,_,fun y o n1 n2 ey=>?_,by rw [ag nrf];exact g11 _ _ (g10 _ _ r9),ac,?_,fun v hv=>?_,?_,by rw [aAk,le6];rfl,rfl⟩
    ·rw [ag n2];have ey6:=b6 y o n1 n2 ey;exact g11 _ _ (g10 _ _ (b9 y o n1 (ah ey6 hpp) (S8 _ _ ey6)))
    ·exact ((((jQ r8 pp8 b9 (hp6.same S8)).same g10).same g11).but f11 b12).append (.cons (hv11.but f11 b12) .nil)
    ·rcases aAK.mp hv with h1 | h1
     ·exact fv6 v h1
     ·obtain rfl:=aAE.mp h1;exact .rcd en gv
    ·rw [aAo,ke6,aAD,hkey,aAo];obtain ⟨e,l1,l2⟩:=jV en lk
     have l3:=kz _ l2 rfl;show _++[fJ (.tup [.str "record",.tup (gs.map prD)]) z]=_;have:fJ (.tup [.str "record",.tup (gs.map prD)]) z=kD key:=by
      show (jS (gs.map prD) z).getD .non=_;rw [fA,l1];exact l3
     rw [this]
     rfl
  ·intro σ H6 hI9;obtain ⟨its,ys,c6,w5,w6,w7,w8,b6,r6,f6,hp6,fv6,ke6,le6,rfl⟩:=hI9
   refine ⟨_,rfl,pf,ys,_,rfl,SqL.of f6,hp6,fun v7 H7 g7 hv7=>?_⟩;refine ⟨[.str "rows",.tup its],.cons .str (.cons hv7 .nil),sz2,fun v8 H8 g8 hv8=>?_⟩;have hfH:H pf=none:=g1.free hpf;refine q v8 its c6 H8 (fun y o ny ey=>g8 _ _ (g7 _ _ (b6 y o ny (ah ey hfH) (B5 y o ny (s3 _ _ (SF y o ey)))))) (g8 _ _ (g7 _ _ r6)) hv8 (.rows fv6 ?_ ?_)
   ·rw [le6,aAz];lia
   ·rw [ke6];exact oV kfor _
 ·intro jkey;have ep2:=g2 _ _ ep;refine ⟨_,rfl,p,kvs,rfl,ep2,fun ob l hln=>?_⟩;have bp:But p (upd H1 pf (.lst [])) (upd (upd H1 pf (.lst [])) p (.frz ob (.dK kvs))):=But.put;have eF:(upd (upd H1 pf (.lst [])) p (.frz ob (.dK kvs))) p=some (.frz ob (.dK kvs)):=ac;have rF:=bp _ _ nrp (g2 _ _ (g1 _ _ hr0));have fF:=bp _ _ np.symm (ac (H:=H1) (a:=pf) (o:=.lst []));have hdF:=jT ep2 bp hd2;have kvF:∀ w d,au fs w=some d→∃ v,bV kvs (Sum.inr w:Key)=some v∧IsP K (upd (upd H1 pf (.lst [])) p (.frz ob (.dK kvs))) d v:=fun w d e=>by
   obtain ⟨v,h1,h2⟩:=(kval w).2 d e
   exact ⟨v,h1,jT ep2 bp (h2.same g2)⟩
  have SF:Same H (upd (upd H1 pf (.lst [])) p (.frz ob (.dK kvs))):=fun a o e=>bp a o (ah e hpn) (g2 _ _ (g1 _ _ e))
  generalize upd (upd H1 pf (.lst [])) p (.frz ob (.dK kvs))=HF at hln bp eF rF fF hdF kvF SF ⊢
  refine qz (a:=p) (ob:=ob) (kvs:=kvs) (fun j ys σ H'=>∃ bs:List Bool,Same HF H'∧H' l=some (.lst ys)∧ys=bls bs∧ys.length≤j∧∃ v1,σ=[v1,some (.ref p)])
   ⟨[],aj hln _,ac,rfl,aAl _,none,rfl⟩ (fun j ys σ H' _ pv=>by
    obtain ⟨_,s,_⟩:=pv
    exact s _ _ eF) ?_ ?_
  ·rintro j ⟨key,v0⟩ ys σ H3 N hj ⟨bs,s3,e3,rfl,hle,v1,rfl⟩ next;have hj8:j < kvs.length:=(aAc.mp hj).1;have hk:(kvs.map (·.1))[j]?=some key:=by rw [aAg,hj];rfl
   rw [ek,aAg] at hk;obtain ⟨⟨wf,d⟩,hf,rfl⟩:=aAh.mp hk
   obtain ⟨v9,h9,hv9⟩:=kvF wf d (di nd hf)
   obtain ⟨a9,ct9,_,hfk⟩:=gk _ (aAn hf)
   obtain ⟨w',rest,ed⟩:=rH hfk
   have ed':d=.tup (.str w' :: rest):=ed;subst ed';have at1:atI (Dt.str w' :: rest) ((0:Nat):Int)=some (.str w'):=ce (by simp);refine ⟨_,rfl,_,rfl,p,v9,rfl,.inl ⟨kvs,Sum.inr wf,.inr ⟨ob,s3 _ _ eF⟩,rfl,h9.symm⟩,_,_,_,hv9.same s3,rfl,at1,isS ?_⟩;refine ⟨sz3,fun p4 hp4=>?_⟩;have g4:=aj hp4 (.lst [.str "list",.str "rows",.str "record"]);have e4:=g4 _ _ e3;refine ⟨p4,_,rfl,.inl (SqL.of ac),rfl,rfl,e4,ak (by lia),next _ _ _ ⟨bs++[inV (V.str w') [V.str "list",V.str "rows",V.str "record"]],fun c o ec=>?_,ac,?_,?_,_,rfl⟩⟩
   ·rw [ag (ah ec hln)];exact g4 _ _ (s3 _ _ ec)
   ·unfold bls;rw [aAo];rfl
   ·rw [aAk];simp only [aAe,aAI];lia
  ·intro ys σ H3 hI9;obtain ⟨bs,s3,e3,rfl,hle,v1,rfl⟩:=hI9
   refine ⟨l,bs,rfl,rfl,SqL.of e3,_,rfl,?_⟩;refine aK (fun _=>?_) (fun _=>?_)
   ·refine ⟨_,rfl,_,_,rfl,?_⟩;have mm:(0:Int)≤(if 2 < i then 2 else i)∧(if 2 < i then 2 else i)≤i:=by split <;> lia
    exact jkey _ _ ⟨_,ob,rfl,mm.1,mm.2,s3 _ _ eF,s3 _ _ rF,s3 _ _ fF,hdF.same s3,fun w d e=>(kvF w d e).elim fun v h=>⟨v,h.1,h.2.same s3⟩,SF.trans s3⟩
   ·exact jkey _ _ ⟨i,ob,rfl,i0,aBD _,s3 _ _ eF,s3 _ _ rF,s3 _ _ fF,hdF.same s3,fun w d e=>(kvF w d e).elim fun v h=>⟨v,h.1,h.2.same s3⟩,SF.trans s3⟩
theorem vz {a c:Nat} {d:Dt} (h:FK a c d):∀ l,d=.tup [.str "record",.tup l]→∃ gs:List G4,l=(gs.map nk).map prD∧(∀ g∈gs,FK g.2.2.1 g.2.2.2 g.2.1)∧((gs.map nk).map (·.1)).Pairwise ltS∧gs.length≤8∧∀ g∈gs,g.2.2.1 < a:=by
 cases h with
 | @rcd gs g asc nm hl =>
  intro l e;have e':gs.map prG=l:=by simpa using e
  refine ⟨gs,?_,g,?_,hl,fun x hx=>?_⟩
  ·rw [← e',aAL]
   rfl
  ·rw [aAL];exact asc
  ·have:=eK (aBn (f:=fun g:G4=>g.2.2.1) hx);lia
 | _ =>
  intro l e;simp at e <;> first | exact absurd e.1 (by decide) | exact absurd e (by decide)
theorem vA {a c:Nat} {d:Dt} (h:FK a c d):∀ w r,d=.tup (.str w :: r)→(w= "number" ∨w= "text")→oP d:=by
 cases h with
 | text i h1 h2=>intro w r _ _;exact .inr ⟨i,rfl,h1,h2⟩
 | number i j h1 h2 h3=>intro w r _ _;exact .inl ⟨i,j,rfl,h1,h2,h3⟩
 | _ =>
  intro w r e hw;simp at e;obtain ⟨rfl,_⟩:=e;rcases hw with h | h <;> exact absurd h (by decide)
theorem bM (T:Tx K mg ad) {f fk:Addr} {fd fdk:FuncData} (n:Nat) (Ji:Gn K mg "_law_value" bt ["row","kind"] f fd) (Kc:Gn K mg "_law_row_values" aN ["row","kind"] fk fdk)
  (Jr:FnOk P w K mg base CX0 (2*n+3) f fd ["row","kind"] (jU K n)) (Kb:FnOk P w K mg base CX0 (2*n+4) fk fdk ["row","kind"] (yk K n)):FnOk P w K mg base CX0 (2*n+4+1) f fd ["row","kind"] (jU K (n+1)):=by
 obtain ⟨_,_,IR⟩:=T.law_digit;have IS:=aE (P:=P) (w:=w) (base:=base) T IR;obtain ⟨_,_,Ki⟩:=T.law_text;have KN:=oO (P:=P) (w:=w) (base:=base) T Ki;refine Ji.F.ok bR (fun vs H Q E h=>?_) (fun cdv A outer s H vs Q E hr h=>?_)
 ·obtain ⟨r,c,a,ct,d,x,_,rfl,_⟩:=h
  rfl
 obtain ⟨r,c,a,ct,d,x,hm,rfl,hr0,hd,gk,q⟩:=h;refine ⟨_,(@pss_cons _ _ _ _ _ (@ps_set _ _ 2 _ _ _ _ bR.nd rfl (Or.inl rfl) (@pi1 K _ _ _ _ _ _ _ rfl (pv 1)) (by rfl) (.inl rfl)) (@pss_cons _ _ _ _ _ (@ps_if _ _ _ _ _ _ _ _ (pt_cmpR op_eq (pv 2) pe_str (nomark _)) (@pss_cons _ _ _ _ _ (@ps_set _ _ 3 _ _ _ _ bR.nd rfl (Or.inl rfl) (pcl IR IS (hr.mono (by lia)) rfl (@pa2 _ _ _ _ _ (pv 0) pe_int (by rfl) (by rfl))) (by rfl) (.inl rfl)) (@pss_cons _ _ _ _ _ (@ps_if _ _ _ _ _ _ _ _ (pt_cmpR fM (pv 3) pe_int (nomark _)) (@pss_one _ _ _ (@ps_ret _ _ _ _ (@pe_ix _ _ _ _ _ _ _ (eD (K:=K) rfl) (pv 1) (@pe_op _ _ _ _ _ _ _ _ aB pe_int (pv 3)) (fun _ _=>rfl)))) pss_nil) (@pss_one _ _ _ (@ps_ret _ _ _ _ (@pe_op _ _ _ _ _ _ _ _ aB (@pi1 K _ _ _ _ _ _ _ rfl (pv 1)) (pcl IR IS (hr.mono (by lia)) rfl (@pa2 _ _ _ _ _ (pv 0) (@pe_op _ _ _ _ _ _ _ _ aB (@pe_op _ _ _ _ _ _ _ _ dv (@pi1 K _ _ _ _ _ _ _ rfl (pv 1)) (@pi1 K _ _ _ _ _ _ _ rfl (pv 1))) pe_int) (by rfl) (by rfl)))))))) pss_nil) (@pss_cons _ _ _ _ _ (@ps_if _ _ _ _ _ _ _ _ (pt_cmpR op_eq (pv 2) pe_str (nomark _)) (@pss_one _ _ _ (@ps_ret _ _ _ _ (pcl Ki KN (hr.mono (by lia)) rfl (@pa2 _ _ _ _ _ (pv 0) (@pi1 K _ _ _ _ _ _ _ rfl (pv 1)) (by rfl) (by rfl))))) pss_nil) (@pss_cons _ _ _ _ _ (@ps_if _ _ _ _ _ _ _ _ (pt_cmpR op_eq (pv 2) pe_str (nomark _)) (@pss_one _ _ _ (@ps_ret _ _ _ _ (@pe_ix _ _ _ _ _ _ _ (eD (K:=K) rfl) (@pi1 K _ _ _ _ _ _ _ rfl (pv 1)) (pcl IR IS (hr.mono (by lia)) rfl (@pa2 _ _ _ _ _ (pv 0) (pe_callB (call_lenDN (K:=K) rfl) rfl T.z_len boot_len (@pa1 _ _ _ (@pi1 K _ _ _ _ _ _ _ rfl (pv 1)) (by rfl))) (by rfl) (by rfl))) (fun _ _=>rfl)))) pss_nil) (@pss_cons _ _ _ _ _ (@ps_if _ _ _ _ _ _ _ _ (pt_cmpR op_eq (pv 2) pe_str (nomark _)) (@pss_cons _ _ _ _ _ (@ps_set _ _ 4 _ _ _ _ bR.nd rfl (Or.inl rfl) (pcl IR IS (hr.mono (by lia)) rfl (@pa2 _ _ _ _ _ (pv 0) (@pe_op _ _ _ _ _ _ _ _ aB (@pi1 K _ _ _ _ _ _ _ rfl (pv 1)) pe_int) (by rfl) (by rfl))) (by rfl) (.inl rfl)) (@pss_cons _ _ _ _ _ (@ps_if _ _ _ _ _ _ _ _ (pt_cmpR (dH (K:=K) rfl) (@pi1 K _ _ _ _ _ _ _ rfl (@pi1 K _ _ _ _ _ _ _ rfl (pv 1))) (@pe_lst _ _ _ _ (@pa3 _ _ _ _ _ _ _ pe_str pe_str pe_str (by rfl) (by rfl) (by rfl))) rfl) (@pss_one _ _ _ (@ps_set _ _ 4 _ _ _ _ bR.nd rfl (Or.inl rfl) (pe_callB (call_min2 rfl) rfl T.z_min boot_min (@pa2 _ _ _ _ _ (pv 4) pe_int (by rfl) (by rfl))) (by rfl) (.inl rfl))) pss_nil) (@pss_one _ _ _ (@ps_ret _ _ _ _ (@pe_tupPK _ K _ _ _ _ rfl (@pa2 _ _ _ _ _ pe_str (pe_callTy (aQ (K:=K) rfl) rfl T.z_tuple boot_tuple (@pa1 _ _ _ (pe_comp rfl (csR (sc:=ai bt) (NL:=["k"]) (N:=["row","kind","word","edge","many"]) (ρ:=[0,1]) (N':=["k","row","kind"]) rfl rfl rfl (by decide +kernel) (by decide +kernel) (by decide +kernel) rfl (by decide +kernel)) (bf rfl T.z_range (@pa1 _ _ _ (pv 4) (by rfl))) (fun _ _ _ _=>(ao (i:=0) (show List.Nodup (α:=Str) ["k","row","kind"] by decide +kernel) rfl (Or.inl rfl))) (fun _ _ _ _=>(pcl Ji Jr (hr.mono (by lia)) rfl (@pa2 _ _ _ _ _ (pv 1) (@pi1 K _ _ _ _ _ _ _ rfl (pv 2)) (by rfl) (by rfl))))) (by rfl))) (by rfl) (by rfl))))))) pss_nil) (@pss_cons _ _ _ _ _ (@ps_if _ _ _ _ _ _ _ _ (pt_cmpR op_eq (pv 2) pe_str (nomark _)) (@pss_one _ _ _ (@ps_ret _ _ _ _ (@pe_tupPK _ K _ _ _ _ rfl (@pa2 _ _ _ _ _ pe_str (pe_callTy (aQ (K:=K) rfl) rfl T.z_tuple boot_tuple (@pa1 _ _ _ (pe_comp rfl (csR (sc:=ai bt) (NL:=["name","inner"]) (N:=["row","kind","word","edge","many"]) (ρ:=[0]) (N':=["name","inner","row"]) rfl rfl rfl (by decide +kernel) (by decide +kernel) (by decide +kernel) rfl (by decide +kernel)) (pi_tupN (K:=K) rfl (@pi1 K _ _ _ _ _ _ _ rfl (pv 1))) (fun _ _ _ _=>(jd (K:=K) (n:=2) rfl rfl (aJ (ao (i:=0) (show List.Nodup (α:=Str) ["name","inner","row"] by decide +kernel) rfl (Or.inl rfl)) (aJ (ao (i:=1) (show List.Nodup (α:=Str) ["name","inner","row"] by decide +kernel) rfl (Or.inl rfl)) du)))) (fun _ _ _ _=>(pe_tupPK (K:=K) rfl (@pa2 _ _ _ _ _ (pv 0) (pcl Ji Jr (hr.mono (by lia)) rfl (@pa2 _ _ _ _ _ (pv 2) (pv 1) (by rfl) (by rfl))) (by rfl) (by rfl))))) (by rfl))) (by rfl) (by rfl))))) pss_nil) (@pss_one _ _ _ (@ps_ret _ _ _ _ (pcl Kc Kb (hr.mono (by lia)) rfl (@pa2 _ _ _ _ _ (pv 0) (pv 1) (by rfl) (by rfl))))))))))),?_⟩
 cases gk with
 | number i j b1 b2 b3 =>
  refine s_ix rfl hd rfl fun v hv=>?_;obtain rfl:=ay hv;refine fR rfl ?_;obtain ⟨d0,d1⟩:=mod_lt c (m:=4) (by decide);refine ⟨_,rfl,r,c,4,rfl,hr0,by decide,by decide,?_⟩;have b0:But r H (upd H r (.lst [.int (c / 4)])):=But.put;have hd1:=hd.but hr0 b0;have r1:(upd H r (.lst [.int (c / 4)])) r=some (.lst [.int (c / 4)]):=ac
  generalize upd H r (.lst [.int (c / 4)])=H1 at b0 hd1 r1 ⊢
  refine ⟨_,rfl,_,_,rfl,rfl,_,rfl,aK (fun c1=>?_) (fun c1=>?_)⟩
  ·have c1':c % 4 < 2:=of_decide_eq_true c1;have at3:atI [Dt.str "number",.int i,.int j] (1+c % 4)=some (if c % 4=0 then .int i else .int j):=by
    rcases (show c % 4=0∨c % 4=1 by lia) with e | e <;> rw [e] <;> rfl
   refine ⟨_,rfl,_,rfl,_,_,rfl,rfl,_,_,_,hd1,rfl,at3,fun v hv=>?_⟩
   by_cases e:c % 4=0
   ·rw [if_pos e] at hv;exact q v _ _ H1 b0 r1 hv (.number (aBD _) b2)
   ·rw [if_neg e] at hv;exact q v _ _ H1 b0 r1 hv (.number b2 (aBD _))
  ·refine ⟨_,rfl,_,_,_,hd1,rfl,rfl,isI ?_⟩;refine ⟨_,rfl,_,rfl,_,_,_,hd1,rfl,rfl,isI ?_⟩;refine s_ix rfl hd1 rfl fun v hv=>?_;obtain rfl:=aX hv;obtain ⟨e0,e1⟩:=mod_lt (c / 4) (m:=j - i+1) (by lia);refine ⟨_,_,rfl,rfl,_,_,rfl,rfl,r,c / 4,_,rfl,r1,by lia,by lia,_,_,rfl,rfl,?_⟩;exact q _ _ _ _ (b0.trans But.put) ac .int (.number (by lia) (by lia))
 | text i b1 b2 =>
  refine s_ix rfl hd rfl fun v hv=>?_;obtain rfl:=ay hv;refine bL rfl (by decide) ?_;refine fR rfl ?_;refine ⟨_,rfl,_,rfl,_,_,_,hd,rfl,rfl,isI ?_⟩;exact ⟨r,c,i,rfl,hr0,b1,b2,fun z c' H' b e h1 h2=>q _ _ c' H' b e .str (.text h1 h2)⟩
 | choice ws hw ho =>
  refine s_ix rfl hd rfl fun v hv=>?_;obtain rfl:=ay hv;refine bL rfl (by decide) ?_;refine bL rfl (by decide) ?_;refine fR rfl ?_;have hw1:1≤ws.length∧ws.length≤8:=by
   unfold eI at hw;simp only [aAs,decide_eq_true_eq] at hw;lia
  refine s_ix rfl hd rfl fun v1 hv1=>?_;refine ⟨_,rfl,_,rfl,_,_,_,hd,rfl,rfl,fun v2 hv2=>?_⟩;obtain ⟨d0,d1⟩:=mod_lt c (m:=((ws.map Dt.str).length:Int)) (by rw [aAa];lia);obtain ⟨e,me,ee⟩:=vm (xs:=ws.map Dt.str) d0 d1
  obtain ⟨z,hz,rfl⟩:=aAr.mp me
  exact ⟨v2,_,rfl,hv2.d,r,c,_,rfl,hr0,by rw [aAa];lia,by rw [aAa];lia,_,_,_,hv1.but hr0 But.put,rfl,ee,fun v hv=>q v _ _ _ But.put ac hv (.choice hz)⟩
 | @list a' c'' k i g b1 b2 =>
  refine s_ix rfl hd rfl fun v hv=>?_;obtain rfl:=ay hv;refine bL rfl (by decide) ?_;refine bL rfl (by decide) ?_;refine bL rfl (by decide) ?_;refine fR rfl ?_;refine ⟨_,rfl,_,rfl,_,_,_,hd,rfl,rfl,isI ?_⟩;obtain ⟨d0,d1⟩:=mod_lt c (m:=i+1) (by lia);refine ⟨_,_,rfl,rfl,r,c,_,rfl,hr0,by lia,by lia,?_⟩;have b0:But r H (upd H r (.lst [.int (c / (i+1))])):=But.put;have r0:(upd H r (.lst [.int (c / (i+1))])) r=some (.lst [.int (c / (i+1))]):=ac
  generalize upd H r (.lst [.int (c / (i+1))])=H0 at b0 r0 ⊢
  have hd0:=hd.but hr0 b0;obtain ⟨w',rest,ed⟩:=rH g
  have at1:atI (Dt.str w' :: rest) ((0:Nat):Int)=some (.str w'):=ce (by simp);refine s_ix rfl hd0 rfl fun v1 hv1=>?_;have hv1':IsP K H0 (.tup (.str w' :: rest)) v1:=ed ▸ hv1;refine ⟨_,_,_,hv1',rfl,at1,isS ?_⟩;refine ⟨sz3,fun p4 hp4=>?_⟩;have g4:=aj hp4 (.lst [.str "list",.str "rows",.str "record"]);have BL:But r H (upd H0 p4 (.lst [.str "list",.str "rows",.str "record"])):=b0.trans (But.same g4);have rL:=g4 _ _ r0;refine ⟨p4,_,rfl,.inl (SqL.of ac),rfl,rfl,_,rfl,?_⟩
  generalize upd H0 p4 (.lst [.str "list",.str "rows",.str "record"])=HL at BL rL ⊢
  refine aK (fun _=>?_) (fun _=>?_)
  ·refine ⟨_,rfl,_,_,rfl,?_⟩;obtain ⟨m0,m1⟩:(0:Int)≤(if 2 < c % (i+1) then 2 else c % (i+1))∧(if 2 < c % (i+1) then 2 else c % (i+1))≤i:=by split <;> lia
   generalize (if (2:Int) < c % (i+1) then (2:Int) else c % (i+1))=mst at m0 m1 ⊢
   refine ⟨_,rfl,?_⟩;refine ⟨_,rfl,by lia,by lia,fun l hln=>?_⟩;have nlr:r≠l:=ah rL hln;have lH:H l=none:=by
    cases e':H l with
    | none=>rfl
    | some o=>rw [BL l o nlr.symm e'] at hln;cases hln
   refine aU (lo:=0) (n:=mst.toNat) (fun j ys σ H'=>∃ (es:List Dt) (c':Int),But r H H'∧H' r=some (.lst [.int c'])∧H' l=some (.lst ys)∧IsPs K H' es ys∧ys.length=j∧(∀ e∈es,FV k e)∧∃ v1,σ=[v1,some (.ref r),some x])
    ⟨[],_,BL.trans (But.same (aj hln _)),(by rw [ag nlr];exact rL),ac,.nil,rfl,(by intro e he;cases he),none,rfl⟩ ?_ ?_
   ·rintro j ys σ H1 N hj ⟨es,c',b1,e1,e2,hp,hle,gv,v1,rfl⟩ next;have hd1:=hd.but hr0 b1;refine ⟨_,rfl,_,rfl,_,_,_,hd1,rfl,rfl,fun v5 hv5=>?_⟩;refine ⟨r,c',a',c'',k,v5,by lia,rfl,e1,hv5,g,fun v e c2 H2 b2 e3 hv2 g2=>?_⟩;have f2:=b2 _ _ nlr.symm e2;have b5:But l H2 (upd H2 l (.lst (ys++[v]))):=But.put;refine ⟨f2,ak (by lia),next _ _ _ ⟨es++[e],c2,fun x o nx ex=>?_,?_,ac,?_,?_,fun e' he=>?_,_,rfl⟩⟩
    ·rw [ag (ah ex lH)];exact b2 x o nx (b1 x o nx ex)
    ·rw [ag nlr];exact e3
    ·exact ((hp.but e1 b2).but f2 b5).append (.cons (hv2.but f2 b5) .nil)
    ·rw [aAk,hle];rfl
    ·rcases aAK.mp he with h1 | h1
     ·exact gv e' h1
     ·obtain rfl:=aAE.mp h1;exact g2
   ·intro ys σ H1 hI9;obtain ⟨es,c',b1,e1,e2,hp,hle,gv,v1,rfl⟩:=hI9
    refine ⟨l,ys,_,rfl,SqL.of e2,hp,fun v2 H2 g2 hv2=>?_⟩;refine ⟨[.str "list",.tup es],.cons .str (.cons hv2 .nil),sz2,fun v H3 g3 hv=>?_⟩;refine q v _ c' H3 ((b1.trans (But.same g2)).trans (But.same g3)) (g3 _ _ (g2 _ _ e1)) hv (.list gv ?_);rw [hp.length,hle];lia
  ·have m1:c % (i+1)≤i:=by lia
   generalize c % (i+1)=mst at d0 m1 ⊢
   refine ⟨_,rfl,?_⟩;refine ⟨_,rfl,by lia,by lia,fun l hln=>?_⟩;have nlr:r≠l:=ah rL hln;have lH:H l=none:=by
    cases e':H l with
    | none=>rfl
    | some o=>rw [BL l o nlr.symm e'] at hln;cases hln
   refine aU (lo:=0) (n:=mst.toNat) (fun j ys σ H'=>∃ (es:List Dt) (c':Int),But r H H'∧H' r=some (.lst [.int c'])∧H' l=some (.lst ys)∧IsPs K H' es ys∧ys.length=j∧(∀ e∈es,FV k e)∧∃ v1,σ=[v1,some (.ref r),some x])
    ⟨[],_,BL.trans (But.same (aj hln _)),(by rw [ag nlr];exact rL),ac,.nil,rfl,(by intro e he;cases he),none,rfl⟩ ?_ ?_
   ·rintro j ys σ H1 N hj ⟨es,c',b1,e1,e2,hp,hle,gv,v1,rfl⟩ next;have hd1:=hd.but hr0 b1;refine ⟨_,rfl,_,rfl,_,_,_,hd1,rfl,rfl,fun v5 hv5=>?_⟩;refine ⟨r,c',a',c'',k,v5,by lia,rfl,e1,hv5,g,fun v e c2 H2 b2 e3 hv2 g2=>?_⟩;have f2:=b2 _ _ nlr.symm e2;have b5:But l H2 (upd H2 l (.lst (ys++[v]))):=But.put;refine ⟨f2,ak (by lia),next _ _ _ ⟨es++[e],c2,fun x o nx ex=>?_,?_,ac,?_,?_,fun e' he=>?_,_,rfl⟩⟩
    ·rw [ag (ah ex lH)];exact b2 x o nx (b1 x o nx ex)
    ·rw [ag nlr];exact e3
    ·exact ((hp.but e1 b2).but f2 b5).append (.cons (hv2.but f2 b5) .nil)
    ·rw [aAk,hle];rfl
    ·rcases aAK.mp he with h1 | h1
     ·exact gv e' h1
     ·obtain rfl:=aAE.mp h1;exact g2
   ·intro ys σ H1 hI9;obtain ⟨es,c',b1,e1,e2,hp,hle,gv,v1,rfl⟩:=hI9
    refine ⟨l,ys,_,rfl,SqL.of e2,hp,fun v2 H2 g2 hv2=>?_⟩;refine ⟨[.str "list",.tup es],.cons .str (.cons hv2 .nil),sz2,fun v H3 g3 hv=>?_⟩;refine q v _ c' H3 ((b1.trans (But.same g2)).trans (But.same g3)) (g3 _ _ (g2 _ _ e1)) hv (.list gv ?_);rw [hp.length,hle];lia
 | @rcd gs g asc nm hl =>
  refine s_ix rfl hd rfl fun v hv=>?_;obtain rfl:=ay hv;refine bL rfl (by decide) ?_;refine bL rfl (by decide) ?_;refine bL rfl (by decide) ?_;refine bL rfl (by decide) ?_;refine fR rfl ?_;obtain ⟨fs,efs⟩:∃ fs:List (Str×Dt),fs=gs.map nk:=⟨_,rfl⟩;have ep:gs.map prG=fs.map prD:=by rw [efs,aAL];rfl
  rw [ep] at hd q;have gk:∀ f∈fs,∃ a ct,a≤n∧FK a ct f.2:=fun f hf=>by
   rw [efs] at hf;obtain ⟨x,hx,rfl⟩:=aAr.mp hf
   have:=eK (aBn (f:=fun g:G4=>g.2.2.1) hx);exact ⟨_,_,by lia,g x hx⟩
  have hl8:fs.length≤8:=by rw [efs,aAa];exact hl
  refine s_ix rfl hd rfl fun v hv=>?_;obtain ⟨aa,xs,rfl,ha,pa,ra⟩:=hv.unref
  have el:=ra.length;rw [aAa] at el;have nar:aa≠r:=by
   obtain ⟨o,u,e,_⟩:=pa
   exact fK e hr0 (by intro c;cases c)
  refine ⟨aa,rfl,⟨xs,ha⟩,fun l hln=>?_⟩;have nlr:r≠l:=ah hr0 hln;refine cz (K:=K) (xs:=xs) (fun i ys σ H'=>∃ (gs:List (Str×Dt)) (c':Int),But r H H'∧H' r=some (.lst [.int c'])∧H' l=some (.lst ys)∧IsPs K H' (gs.map prD) ys∧gs.map (·.1)=(fs.take i).map (·.1)∧(∀ (i:Nat) (f g:Str×Dt),fs[i]?=some f→gs[i]?=some g→FV f.2 g.2)∧∃ v1 v2,σ=[v1,v2,some (.ref r)])
   ⟨[],c,But.same (aj hln _),(by rw [ag nlr];exact hr0),ac,.nil,rfl,(by intro i f g _ e;simp at e),none,none,rfl⟩ (fun i ys σ H' _ p=>by
    obtain ⟨_,_,b,_⟩:=p
    exact b.tup nar ha) ?_ ?_
  ·rintro i u ys σ H1 N hu ⟨gs',c',b1,e1,e2,hp,en,gv,v1,v2,rfl⟩ next;have hi:i < fs.length:=by
    rw [el];exact (aAc.mp hu).1
   obtain ⟨e,he,hx⟩:=ra.get' hu
   rw [aAg] at he;obtain ⟨⟨w',d'⟩,hf,rfl⟩:=aAh.mp he
   have lg:gs'.length=i:=by
    have:=congrArg List.length en;simp only [aAa,aAz] at this;lia
   have ly:ys.length=i:=by rw [← hp.length,aAa,lg]
   obtain ⟨b,zs,rfl,hb,pb,rb⟩:=hx.unref
   have nbr:b≠r:=by
    obtain ⟨o,u,e,_⟩:=pb
    exact fK e hr0 (by intro c;cases c)
   cases rb with
   | cons r1 rb =>
    cases rb with
    | @cons _ _ y2 _ r2 rb =>
     cases rb
     obtain rfl:=ay r1;obtain ⟨a9,ct9,ha9,fk9⟩:=gk _ (aAn hf)
     refine ⟨b,_,rfl,b1.tup nbr hb,rfl,_,_,rfl,_,_,rfl,rfl,?_⟩;refine ⟨_,rfl,_,rfl,_,rfl,r,c',a9,ct9,d',y2,ha9,rfl,e1,r2.but hr0 b1,fk9,fun v e c2 H2 b2 e3 hv2 g2=>?_⟩;refine ⟨[.str w',e],.cons .str (.cons hv2 .nil),sz2,fun v4 H4 g4 hv4=>?_⟩;have f2:=b2 _ _ nlr.symm e2;have f4:=g4 _ _ f2;have b5:But l H4 (upd H4 l (.lst (ys++[v4]))):=But.put;refine ⟨f4,ak (by lia),next _ _ _ ⟨gs'++[(w',e)],c2,fun x o nx ex=>?_,?_,ac,?_,?_,fun j f g hjf hjg=>?_,_,_,rfl⟩⟩
     ·rw [ag (ah ex hln)];exact g4 _ _ (b2 x o nx (b1 x o nx ex))
     ·rw [ag nlr];exact g4 _ _ e3
     ·rw [aAo];exact (((hp.but e1 b2).same g4).but f4 b5).append (.cons (hv4.but f4 b5) .nil)
     ·rw [aAo,en,aAD,hf,aAo]
      rfl
     ·by_cases hj:j < gs'.length
      ·rw [aBi hj] at hjg;exact gv j f g hjf hjg
      ·rw [aA4 (by lia)] at hjg;have hj2:j=i:=by
        have:=(aAc.mp hjg).1;simp only [aAe,aAI] at this;lia
       subst hj2;rw [lg,Nat.sub_self] at hjg;obtain rfl:(w',e)=g:=by simpa using hjg
       rw [hf] at hjf;obtain rfl:=Option.some.inj hjf;exact g2
  ·intro ys σ H1 hI9;obtain ⟨gs',c',b1,e1,e2,hp,en,gv,v1,v2,rfl⟩:=hI9
   refine ⟨l,ys,_,rfl,SqL.of e2,hp,fun v2 H2 g2 hv2=>?_⟩;refine ⟨[.str "record",.tup (List.map prD gs')],.cons .str (.cons hv2 .nil),sz2,fun v H3 g3 hv=>?_⟩;refine q v _ c' H3 ((b1.trans (But.same g2)).trans (But.same g3)) (g3 _ _ (g2 _ _ e1)) hv (.rcd ?_ gv);rw [en,← el,aAW]
 | @rows a' c'' z l i g kl b1 b2 =>
  refine s_ix rfl hd rfl fun v hv=>?_;obtain rfl:=ay hv;refine bL rfl (by decide) ?_;refine bL rfl (by decide) ?_;refine bL rfl (by decide) ?_;refine bL rfl (by decide) ?_;refine bL rfl (by decide) ?_;obtain ⟨gs,rfl,fg,asc,hl,lt⟩:=vz g l rfl
  obtain ⟨w',rr,hm',hw⟩:=kl
  obtain ⟨f0,hf0,ef0⟩:=aAr.mp hm'
  obtain ⟨g0,hg0,rfl⟩:=aAr.mp hf0
  have ez:g0.1=z∧g0.2.1=.tup (.str w' :: rr):=by simpa [prD] using ef0
  obtain ⟨j0,hj0⟩:=aCj.mp hf0;have lk:au (gs.map nk) z=some g0.2.1:=di (gF asc) (by rw [hj0,← ez.1]);refine ⟨_,rfl,_,rfl,r,c,i,z,gs.map nk,g0.2.1,x,rfl,hr0,hd,fun f hf=>?_,asc,by rw [aAa];exact hl,lk,vA (fg g0 hg0) w' rr ez.2 hw,b1,b2,fun v vs' c' H' b e hv fv=>q v _ c' H' b e hv fv⟩;obtain ⟨x',hx',rfl⟩:=aAr.mp hf
  have:=lt x' hx';exact ⟨_,_,by lia,fg x' hx'⟩
theorem vB (T:Tx K mg ad) {f fk:Addr} {fd fdk:FuncData} (V:Gn K mg "_law_value" bt ["row","kind"] f fd) (R:Gn K mg "_law_row_values" aN ["row","kind"] fk fdk):FnOk P w K mg base CX0 13 f fd ["row","kind"] (jU K 5):=by
 have v0:FnOk P w K mg base CX0 (2*0+3) f fd ["row","kind"] (jU K 0):=bu fun vs H Q E z=>by
  obtain ⟨_,_,a,_,_,_,e,_,_,_,g,_⟩:=z;have:=g.pos;lia
 have p0:=aR T 0 R V v0;have v1:=bM T 0 V R v0 p0;have p1:=aR T 1 R V v1;have v2:=bM T 1 V R v1 p1;have p2:=aR T 2 R V v2;have v3:=bM T 2 V R v2 p2;have p3:=aR T 3 R V v3;have v4:=bM T 3 V R v3 p3;have p4:=aR T 4 R V v4;exact bM T 4 V R v4 p4
theorem at1 {α:Type} (c d:α) (r:List α):atI (c :: d :: r) 1=some d:=by
 have e:atI (c :: d :: r) ((1:Nat):Int)=some d:=ce (by rfl);exact e
inductive Sz:Dt→Prop
 | int (i:Int):Sz (.int i)
 | str (z:Str):z.length≤100→Sz (.str z)
 | tup {l:List Dt}:(∀ x∈l,Sz x)→l.length≤20→Sz (.tup l)
def isInt:Dt→Bool
 | .int _=>true
 | _=>false
def qL (i j:Int):Dt→Bool
 | .int x=>decide (i≤x) && decide (x≤j)
 | _=>false
def tL (i:Int):Dt→Bool
 | .str z=>decide ((z.length:Int)≤i) && z.cps.toList.all okC
 | _=>false
def htB (w:Str):Dt→Bool
 | .tup [a,.tup _]=>eqD a (.str w)
 | _=>false
inductive I_sp_is_whole (K:W.Frag)   (vs:List V) (H:Hp) (Q:VK):Prop
 | mk (d:Dt) (x:V):(vs=[x])→(IsP K H d x)→(Sz d)→(Q (.bl (isInt d)) H)→I_sp_is_whole K vs H Q
def oW (K:W.Frag) (_:Ads)  : Sp:=fun vs H Q _=>I_sp_is_whole K vs H Q
theorem oX (T:Tx K mg ad) {f:Addr} {fd:FuncData} (F:Gn K mg "is_whole" gi ["thing"] f fd):FnOk P w K mg base CX0 1 f fd ["thing"] (oW K ad):=by
 refine F.F.ok pR (fun vs H Q E h=>?_) (fun cdv A outer s H vs Q E hr h=>?_)
 ·obtain ⟨d,x,rfl,_⟩:=h
  rfl
 obtain ⟨d,x,rfl,hd,sz,q⟩:=h;refine ⟨_,(@pss_one _ _ _ (@ps_ret _ _ _ _ (pe_and (pe_callB (call_isiN' (K:=K) rfl) rfl T.z_isinstance boot_isinstance (@pa2 _ _ _ _ _ (pv 0) (bz rfl T.z_int boot_int) (by rfl) (by rfl))) (dr (A7 (pe_callB (call_isiN' (K:=K) rfl) rfl T.z_isinstance boot_isinstance (@pa2 _ _ _ _ _ (pv 0) (bz rfl T.z_bool boot_bool) (by rfl) (by rfl)))))))),?_⟩
 cases sz with
 | int i =>
  obtain rfl:=aX hd;exact ⟨_,rfl,_,_,_,rfl,.int_int,_,rfl,aL ⟨_,rfl,_,_,_,rfl,.int_bool,_,rfl,q⟩⟩
 | str z _ =>
  obtain rfl:=ay hd;exact ⟨_,rfl,_,_,_,rfl,.str_int,_,rfl,aH q⟩
 | tup h1 h2 =>
  obtain ⟨a,xs,ex,ha,_⟩:=hd.unref
  have isi:IsiB K H x "int" false:=by rw [ex];exact .tup_int ha
  exact ⟨_,rfl,_,_,_,rfl,isi,_,rfl,aH q⟩
inductive I_sp_is_whole_within (K:W.Frag)   (vs:List V) (H:Hp) (Q:VK):Prop
 | mk (d:Dt) (x:V) (i j:Int):(vs=[x,.int i,.int j])→(IsP K H d x)→(Sz d)→(Q (.bl (qL i j d)) H)→I_sp_is_whole_within K vs H Q
def ge (K:W.Frag) (_:Ads)  : Sp:=fun vs H Q _=>I_sp_is_whole_within K vs H Q
theorem gf (T:Tx K mg ad) {f:Addr} {fd:FuncData} (F:Gn K mg "is_whole_within" bN ["thing","low","high"] f fd):FnOk P w K mg base CX0 2 f fd ["thing","low","high"] (ge K ad):=by
 obtain ⟨_,_,Kj⟩:=T.is_whole;have KO:=oX (P:=P) (w:=w) (base:=base) T Kj;refine F.F.ok gq (fun vs H Q E h=>?_) (fun cdv A outer s H vs Q E hr h=>?_)
 ·obtain ⟨d,x,i,j,rfl,_⟩:=h
  rfl
 obtain ⟨d,x,i,j,rfl,hd,sz,q⟩:=h;refine ⟨_,(@pss_one _ _ _ (@ps_ret _ _ _ _ (pe_and (pcl Kj KO (hr.mono (by lia)) rfl (@pa1 _ _ _ (pv 0) (by rfl))) (dr (nu nn nn (pv 1) (pv 0) (pv 2)))))),?_⟩
 cases sz with
 | int v =>
  obtain rfl:=aX hd;refine ⟨_,rfl,.int v,_,rfl,.int,.int v,_,rfl,aL ?_⟩;refine ⟨_,rfl,_,rfl,_,_,rfl,rfl,_,rfl,?_⟩
  by_cases h1:i≤v
  ·rw [decide_eq_true h1];refine aL ⟨_,rfl,_,_,rfl,rfl,?_⟩;have e:qL i j (.int v)=decide (v≤j):=by simp [qL,h1]
   rw [e] at q;exact q
  ·rw [decide_eq_false h1];refine aH ?_;have e:qL i j (.int v)=false:=by simp [qL,h1]
   rw [e] at q;exact q
 | str z hz=>exact ⟨_,rfl,.str z,_,rfl,hd,.str z hz,_,rfl,aH q⟩
 | tup h1 h2=>exact ⟨_,rfl,_,_,rfl,hd,.tup h1 h2,_,rfl,aH q⟩
inductive I_sp_is_text_of (K:W.Frag)   (vs:List V) (H:Hp) (Q:VK):Prop
 | mk (d:Dt) (x:V) (i:Int):(vs=[x,.int i])→(IsP K H d x)→(Sz d)→(∀ H',Same H H'→Q (.bl (tL i d)) H')→I_sp_is_text_of K vs H Q
def kF (K:W.Frag) (_:Ads)  : Sp:=fun vs H Q _=>I_sp_is_text_of K vs H Q
theorem kG (T:Tx K mg ad) {f:Addr} {fd:FuncData} (F:Gn K mg "is_text_of" dN ["value","most"] f fd):FnOk P w K mg base CX0 2 f fd ["value","most"] (kF K ad):=by
 obtain ⟨_,_,JE⟩:=T.is_sign;have JV:=jI (P:=P) (w:=w) (base:=base) T JE;refine F.F.ok kQ (fun vs H Q E h=>?_) (fun cdv A outer s H vs Q E hr h=>?_)
 ·obtain ⟨d,x,i,rfl,_⟩:=h
  rfl
 obtain ⟨d,x,i,rfl,hd,sz,q⟩:=h;refine ⟨_,(@pss_cons _ _ _ _ _ (@ps_if _ _ _ _ _ _ _ _ (PW.pt (@gu _ _ _ _ _ _ _ (@pt_not _ _ _ _ (@pt_val _ _ _ (pe_callB (call_isiN' (K:=K) rfl) rfl T.z_isinstance boot_isinstance (@pa2 _ _ _ _ _ (pv 0) (bz rfl T.z_str boot_str) (by rfl) (by rfl))) (by intro _;rfl))) (@pw_or1 _ _ _ _ (pt_cmpR op_gt (pe_callB call_len_str rfl T.z_len boot_len (@pa1 _ _ _ (pv 0) (by rfl))) (pv 1) (nomark _))))) (@pss_one _ _ _ (@ps_ret _ _ _ _ pe_bl)) pss_nil) (@pss_one _ _ _ (@ps_ret _ _ _ _ (pe_callB (call_allN (K:=K) rfl rfl) rfl T.z_all boot_all (@pa1 _ _ _ (pe_comp rfl (cs0 (NL:=["letter"]) rfl (by decide +kernel) (by decide +kernel)) (qm (pv 0)) (fun _ _ _ _=>(ao (i:=0) (show List.Nodup (α:=Str) ["letter"] by decide +kernel) rfl (Or.inl rfl))) (fun _ _ _ _=>(pcl JE JV (hr.mono (by lia)) rfl (@pa1 _ _ _ (pv 0) (by rfl))))) (by rfl)))))),?_⟩
 cases sz with
 | int v =>
  obtain rfl:=aX hd;exact ⟨_,rfl,_,_,_,rfl,.int_str,_,rfl,aL (aL (q H (Same.refl _)))⟩
 | tup h1 h2 =>
  obtain ⟨a,xs,ex,ha,_⟩:=hd.unref
  have isi:IsiB K H x "str" false:=by rw [ex];exact .tup_str ha
  exact ⟨_,rfl,_,_,_,rfl,isi,_,rfl,aL (aL (q H (Same.refl _)))⟩
 | str z hz =>
  obtain rfl:=ay hd;refine ⟨_,rfl,_,_,_,rfl,.str_str,_,rfl,aH ?_⟩;refine ⟨_,rfl,_,rfl,ye (by lia),_,rfl,_,_,rfl,rfl,_,rfl,?_⟩
  by_cases hl:i < (z.length:Int)
  ·rw [decide_eq_true hl];refine aL ?_;have e:tL i (.str z)=false:=by
    simp [tL];intro h;lia
   rw [e] at q;exact q H (Same.refl _)
  ·rw [decide_eq_false hl];refine aH ?_;refine ⟨_,rfl,_,rfl,fun l hln=>?_⟩;refine lm (fun j ys σ H'=>ys=bls ((z.cps.toList.take j).map okC)∧j≤z.length∧Same H H'∧H' l=some (.lst ys)∧∃ v1,σ=[v1]) ⟨rfl,aAx _,aj hln _,ac,none,rfl⟩ ?_ ?_
   ·rintro j c ys σ H1 N hc ⟨rfl,hj,g1,e1,v1,rfl⟩ next;have hj2:j < z.cps.size:=(aBf.mp hc).1;have hzz:z.cps.size=z.length:=rfl;have hc':z.cps.toList[j]?=some c:=by rw [aBE];exact hc
    refine ⟨_,rfl,c,rfl,e1,?_,next _ _ _ ⟨?_,by lia,a8 hln g1,ac,_,rfl⟩⟩
    ·rw [bls,aAa,aAa,aAz];exact ak (by lia)
    ·unfold bls;rw [aAD,hc',aAo,aAo]
     rfl
   ·intro ys σ H1 hI9;obtain ⟨rfl,hj,g1,e1,v1,rfl⟩:=hI9
    refine ⟨l,_,rfl,rfl,SqL.of e1,?_⟩;have e:tL i (.str z)=((z.cps.toList.take z.cps.size).map okC).all id:=by
     rw [show z.cps.size=z.cps.toList.length from aAQ.symm,aAW,aBl];show (decide ((z.length:Int)≤i) && z.cps.toList.all okC)=_;rw [decide_eq_true (by lia),aAU]
     rfl
    rw [e] at q;exact q H1 g1
inductive I_sp_holds_tuple (K:W.Frag)   (vs:List V) (H:Hp) (Q:VK):Prop
 | mk (d:Dt) (x:V) (z:Str):(vs=[x,.str z])→(IsP K H d x)→(Sz d)→(d.dep≤55)→(Q (.bl (htB z d)) H)→I_sp_holds_tuple K vs H Q
def jW (K:W.Frag) (_:Ads)  : Sp:=fun vs H Q _=>I_sp_holds_tuple K vs H Q
theorem mM {K:W.Frag} {H:Hp} {d:Dt} {x:V} (hd:IsP K H d x) (sz:Sz d):IsiB K H x "tuple" (match d with | .tup _=>true | _=>false):=by
 cases sz with
 | int i=>obtain rfl:=aX hd;exact .int_tuple
 | str z _=>obtain rfl:=ay hd;exact .str_tuple
 | tup h1 h2 =>
  obtain ⟨a,xs,rfl,ha,_⟩:=hd.unref;exact .tup_tuple ha
theorem gK:∀ {l:List Dt} {x:Dt},x∈l→x.dep≤dE l
 | d :: l,x,h=>by
  simp only [dE];rcases aAp.mp h with rfl | h
  ·lia
  ·have:=gK h;lia
theorem eS (T:Tx K mg ad) {f:Addr} {fd:FuncData} (F:Gn K mg "holds_tuple" cX ["value","word"] f fd):FnOk P w K mg base CX0 1 f fd ["value","word"] (jW K ad):=by
 refine F.F.ok kr (fun vs H Q E h=>?_) (fun cdv A outer s H vs Q E hr h=>?_)
 ·obtain ⟨d,x,z,rfl,_⟩:=h
  rfl
 obtain ⟨d,x,z,rfl,hd,sz,dp,q⟩:=h;refine ⟨_,(@pss_one _ _ _ (@ps_ret _ _ _ _ (pe_and (pe_callB (call_isiN' (K:=K) rfl) rfl T.z_isinstance boot_isinstance (@pa2 _ _ _ _ _ (pv 0) (bz rfl T.z_tuple boot_tuple) (by rfl) (by rfl))) (pe_and (pe_cmpR op_eq (pe_callB (call_lenDN (K:=K) rfl) rfl T.z_len boot_len (@pa1 _ _ _ (pv 0) (by rfl))) pe_int (nomark _)) (pe_and (pe_cmpR (je (K:=K) rfl hr.units) (@pi1 K _ _ _ _ _ _ _ rfl (pv 0)) (pv 1) (nomark _)) (dr (pe_callB (call_isiN' (K:=K) rfl) rfl T.z_isinstance boot_isinstance (@pa2 _ _ _ _ _ (@pi1 K _ _ _ _ _ _ _ rfl (pv 0)) (bz rfl T.z_tuple boot_tuple) (by rfl) (by rfl))))))))),?_⟩;have isi:=mM hd sz
 cases sz with
 | int i=>exact ⟨_,rfl,_,_,_,rfl,isi,_,rfl,aH q⟩
 | str z' _=>exact ⟨_,rfl,_,_,_,rfl,isi,_,rfl,aH q⟩
 | @tup l h1 h2 =>
  refine ⟨_,rfl,_,_,_,rfl,isi,_,rfl,aL ?_⟩;refine ⟨_,rfl,x,_,rfl,hd.d,rfl,_,rfl,?_⟩
  match l,h1,h2,hd,isi,dp,q with
  | [a,b],h1,h2,hd,isi,dp,q =>
   refine fW ?_;have sa:=h1 a aAd;have sb:=h1 b (aAi _ aAd);refine s_ix rfl hd rfl fun v hv=>?_;refine ⟨_,rfl,a,.str z,hv.d,.str,?_,_,rfl,?_⟩
   ·have:=gK (l:=[a,b]) (x:=a) aAd;simp only [Dt.dep] at dp;lia
   cases he:eqD a (.str z) with
   | false =>
    refine aH ?_;have e:htB z (.tup [a,b])=false:=by
     cases sb with
     | int _=>rfl
     | str _ _=>rfl
     | tup _ _=>exact he
    rw [e] at q;exact q
   | true =>
    refine aL ?_;refine s_ix rfl hd rfl fun v2 hv2=>?_;refine ⟨_,_,_,rfl,mM hv2 sb,?_⟩
    cases sb with
    | int _=>exact q
    | str _ _=>exact q
    | @tup l' _ _ =>
     have e:htB z (.tup [a,.tup l'])=true:=he;rw [e] at q;exact q
  | [],h1,h2,hd,isi,dp,q=>exact dh (by decide) q
  | [a],h1,h2,hd,isi,dp,q=>exact dh (fun e=>absurd (V.int.inj e) (by simp)) q
  | a :: b :: c :: r,h1,h2,hd,isi,dp,q =>
   have e:htB z (.tup (a :: b :: c :: r))=false:=by cases b <;> rfl
   rw [e] at q;refine dh ?_ q;intro e;have:=V.int.inj e;simp only [aAe] at this;lia
theorem qM (xs:List V):nA xs (some 1) none=xs.drop 1:=by
 have e1:HT.sIx xs.length 0 (some 1)=min 1 xs.length:=by
  have:=HT.sIx_nat xs.length 0 1;exact this
 have e2:HT.sIx xs.length xs.length none=xs.length:=HT.sIx_none _ _;unfold nA;rw [e1,e2]
 cases xs with
 | nil=>rfl
 | cons x r =>
  rw [show min 1 (x :: r).length=1 from Nat.min_eq_left (by simp)];simp
def ltD:Dt→Dt→Bool
 | .int m,.int n=>decide (m < n)
 | .str s,.str t=>decide (ltS s t)
 | _,_=>false
def vC (l:List Dt):Bool:=((l.zip (l.drop 1)).map fun p=>ltD p.1 p.2).all id
def xB (ws:List Dt):Dt→Bool
 | .str z=>ws.any fun d=>eqD d (.str z)
 | _=>false
def itF (f:Dt→Dt→Bool) (w:Str) (k:Dt) (i:Int):Dt→Bool
 | .tup [a,.tup l]=>eqD a (.str w) && (decide ((l.length:Int)≤i) && l.all (f k))
 | _=>false
def prF (f:Dt→Dt→Bool) (p:Dt×Dt):Bool:=match p with
 | (.tup [b,v],.tup [c,k])=>eqD b c && f k v
 | _=>false
def rcF (f:Dt→Dt→Bool) (fs:List Dt):Dt→Bool
 | .tup [a,.tup l]=>eqD a (.str "record") && (decide (l.length=fs.length) && (l.zip fs).all (prF f))
 | _=>false
def kyB (z:Str):Dt→Bool
 | .tup [_,.tup l]=>vC (l.map fun v=>fJ v z)
 | _=>false
def of1 (f:Dt→Dt→Bool) (w:Str) (x e:Dt):Bool:=match x with
 | .int i=>tL i e
 | .tup l=>if w= "choice" then xB l e else rcF f l e
 | _=>false
def of2 (f:Dt→Dt→Bool) (w:Str) (x y e:Dt):Bool:=match y with
 | .int j=>if w= "number" then (match x with
  | .int i=>qL i j e
  | _=>false) else itF f "list" x j e
 | _=>false
def of3 (f:Dt→Dt→Bool) (x y z e:Dt):Bool:=match x,z with
 | .str s,.int i=>itF f "rows" y i e && kyB s e
 | _,_=>false
def ofF (f:Dt→Dt→Bool) (d e:Dt):Bool:=match d with
 | .tup (.str w :: r)=>(match r with
  | [x]=>of1 f w x e
  | [x,y]=>of2 f w x y e
  | [x,y,z]=>of3 f x y z e
  | _=>false)
 | _=>false
def ofN:Nat→Dt→Dt→Bool
 | 0,_,_=>false
 | n+1,d,e=>ofF (ofN n) d e
theorem ip (n:Nat) (i j:Int) (e:Dt):ofN (n+1) (.tup [.str "number",.int i,.int j]) e=qL i j e:=by
 show of2 (ofN n) "number" (.int i) (.int j) e=_;unfold of2;simp
theorem mO (n:Nat) (i:Int) (e:Dt):ofN (n+1) (.tup [.str "text",.int i]) e=tL i e:=rfl
theorem lL (n:Nat) (ws:List Dt) (e:Dt):ofN (n+1) (.tup [.str "choice",.tup ws]) e=xB ws e:=by
 show of1 (ofN n) "choice" (.tup ws) e=_;unfold of1;simp
theorem rJ (n:Nat) (k:Dt) (i:Int) (e:Dt):ofN (n+1) (.tup [.str "list",k,.int i]) e=itF (ofN n) "list" k i e:=by
 show of2 (ofN n) "list" k (.int i) e=_;unfold of2;simp only;rw [if_neg (by decide)]
theorem iq (n:Nat) (fs:List Dt) (e:Dt):ofN (n+1) (.tup [.str "record",.tup fs]) e=rcF (ofN n) fs e:=by
 show of1 (ofN n) "record" (.tup fs) e=_;unfold of1;simp only;rw [if_neg (by decide)]
theorem rK (n:Nat) (z:Str) (k:Dt) (i:Int) (e:Dt):ofN (n+1) (.tup [.str "rows",.str z,k,.int i]) e=(itF (ofN n) "rows" k i e && kyB z e):=rfl
theorem jf {a:Dt} {z:Str} (h:eqD a (.str z)=true):a=.str z:=by
 cases a with
 | str y =>
  have:y=z:=by simpa [eqD] using h
  rw [this]
 | non=>simp [eqD] at h
 | bl _=>simp [eqD] at h
 | int _=>simp [eqD] at h
 | tup _=>simp [eqD] at h
theorem rM {z:Str} {e:Dt} (h:htB z e=true):∃ l,e=.tup [.str z,.tup l]:=by
 unfold htB at h
 split at h
 ·exact ⟨_,by rw [jf h]⟩
 ·cases h
theorem HM {z:Str} {e k:Dt} {i:Int} {f:Dt→Dt→Bool} (h:htB z e=false):itF f z k i e=false:=by
 unfold itF
 split
 ·rename_i a l
  have h':eqD a (.str z)=false:=h;rw [h']
  rfl
 ·rfl
theorem HN {e:Dt} {fs:List Dt} {f:Dt→Dt→Bool} (h:htB "record" e=false):rcF f fs e=false:=by
 unfold rcF
 split
 ·rename_i a l
  have h':eqD a (.str "record")=false:=h;rw [h']
  rfl
 ·rfl
theorem vD {z:Str} {l:List Dt} (h:Sz (.tup [.str z,.tup l])):(∀ x∈l,Sz x)∧l.length≤20:=by
 cases h with
 | tup h1 h2 =>
  have:=h1 (.tup l) (aAi _ aAd)
  cases this with
  | tup h3 h4=>exact ⟨h3,h4⟩
theorem vE {z:Str} {l:List Dt} {B:Nat} (h:(Dt.tup [.str z,.tup l]).dep≤B):∀ x∈l,x.dep+2≤B:=by
 intro x hx;have:=gK hx;simp only [Dt.dep,dE] at h;lia
inductive I_sisof (K:W.Frag) (n:Nat)  (vs:List V) (H:Hp) (Q:VK):Prop
 | mk (a ct:Nat) (d e:Dt) (x y:V):(a≤n)→(vs=[y,x])→(IsP K H d x)→(IsP K H e y)→(FK a ct d)→(Sz e)→(e.dep≤55)→(∀ H',Same H H'→Q (.bl (ofN n d e)) H')→I_sisof K n vs H Q
def rN (K:W.Frag) (n:Nat)  : Sp:=fun vs H Q _=>I_sisof K n vs H Q
inductive I_sitems (K:W.Frag) (n:Nat)  (vs:List V) (H:Hp) (Q:VK):Prop
 | mk (a ct:Nat) (d e:Dt) (z:Str) (x y:V) (i:Int):(a≤n)→(vs=[y,.str z,x,.int i])→(IsP K H d x)→(IsP K H e y)→(FK a ct d)→(Sz e)→(e.dep≤55)→(∀ H',Same H H'→Q (.bl (itF (ofN n) z d i e)) H')→I_sitems K n vs H Q
def vF (K:W.Frag) (n:Nat)  : Sp:=fun vs H Q _=>I_sitems K n vs H Q
inductive I_spairo (K:W.Frag) (n:Nat)  (vs:List V) (H:Hp) (Q:VK):Prop
 | mk (a ct:Nat) (d e:Dt) (z:Str) (x y:V):(a≤n)→(vs=[y,x])→(IsP K H (prD (z,d)) x)→(IsP K H e y)→(FK a ct d)→(Sz e)→(e.dep≤55)→(∀ H',Same H H'→Q (.bl (prF (ofN n) (e,prD (z,d)))) H')→I_spairo K n vs H Q
def vG (K:W.Frag) (n:Nat)  : Sp:=fun vs H Q _=>I_spairo K n vs H Q
inductive I_srecof (K:W.Frag) (n:Nat)  (vs:List V) (H:Hp) (Q:VK):Prop
 | mk (fs:List (Str×Dt)) (e:Dt) (x y:V):(vs=[y,x])→(IsP K H (.tup (fs.map prD)) x)→(IsP K H e y)→((∀ f∈fs,∃ a ct,a≤n∧FK a ct f.2))→(fs.length≤8)→(Sz e)→(e.dep≤55)→(∀ H',Same H H'→Q (.bl (rcF (ofN n) (fs.map prD) e)) H')→I_srecof K n vs H Q
def vH (K:W.Frag) (n:Nat)  : Sp:=fun vs H Q _=>I_srecof K n vs H Q
theorem jX (T:Tx K mg ad) {f fk:Addr} {fd fdk:FuncData} (n:Nat) (F:Gn K mg "holds_items" bh ["value","word","kind","most"] f fd) (Jt:Gn K mg "is_of" fD ["value","kind"] fk fdk)
  (Jz:FnOk P w K mg base CX0 (3*n+3) fk fdk ["value","kind"] (rN K n)):FnOk P w K mg base CX0 (3*n+3+1) f fd ["value","word","kind","most"] (vF K n):=by
 obtain ⟨_,_,Jo⟩:=T.holds_tuple;have JF:=eS (P:=P) (w:=w) (base:=base) T Jo;refine F.F.ok kt (fun vs H Q E h=>?_) (fun cdv A outer s H vs Q E hr h=>?_)
 ·obtain ⟨a,ct,d,e,z,x,y,i,_,rfl,_⟩:=h
  rfl
 obtain ⟨a,ct,d,e,z,x,y,i,ha,rfl,hd,he,gk,sz,dp,q⟩:=h;refine ⟨_,(@pss_cons _ _ _ _ _ (@ps_if _ _ _ _ _ _ _ _ (PW.pt (@gu _ _ _ _ _ _ _ (@pt_not _ _ _ _ (@pt_val _ _ _ (pcl Jo JF (hr.mono (by lia)) rfl (@pa2 _ _ _ _ _ (pv 0) (pv 1) (by rfl) (by rfl))) (by intro _;rfl))) (@pw_or1 _ _ _ _ (pt_cmpR op_gt (pe_callB (call_lenDN (K:=K) rfl) rfl T.z_len boot_len (@pa1 _ _ _ (@pi1 K _ _ _ _ _ _ _ rfl (pv 0)) (by rfl))) (pv 3) (nomark _))))) (@pss_one _ _ _ (@ps_ret _ _ _ _ pe_bl)) pss_nil) (@pss_one _ _ _ (@ps_ret _ _ _ _ (pe_callB (call_allN (K:=K) rfl rfl) rfl T.z_all boot_all (@pa1 _ _ _ (pe_comp rfl (csR (sc:=ai bh) (NL:=["item"]) (N:=["value","word","kind","most"]) (ρ:=[2]) (N':=["item","kind"]) rfl rfl rfl (by decide +kernel) (by decide +kernel) (by decide +kernel) rfl (by decide +kernel)) (pi_tupN (K:=K) rfl (@pi1 K _ _ _ _ _ _ _ rfl (pv 0))) (fun _ _ _ _=>(ao (i:=0) (show List.Nodup (α:=Str) ["item","kind"] by decide +kernel) rfl (Or.inl rfl))) (fun _ _ _ _=>(pcl Jt Jz (hr.mono (by lia)) rfl (@pa2 _ _ _ _ _ (pv 0) (pv 1) (by rfl) (by rfl))))) (by rfl)))))),?_⟩;refine ⟨_,rfl,_,rfl,e,y,z,rfl,he,sz,dp,_,rfl,?_⟩
 cases ht:htB z e with
 | false =>
  rw [HM ht] at q;exact aL (aL (q H (Same.refl _)))
 | true =>
  refine aH ?_;obtain ⟨l,rfl⟩:=rM ht;obtain ⟨szl,l20⟩:=vD sz;have dpl:=vE dp;have eit:itF (ofN n) z d i (.tup [.str z,.tup l])=(decide ((l.length:Int)≤i) && l.all (ofN n d)):=by
   show (eqD (.str z) (.str z) && _)=_;rw [a7,aAU]
  rw [eit] at q;refine ⟨_,rfl,_,_,_,he,rfl,rfl,fun v hv=>⟨v,_,rfl,hv.d,_,rfl,_,_,rfl,rfl,_,rfl,?_⟩⟩
  by_cases hl:i < (l.length:Int)
  ·rw [decide_eq_true hl];rw [decide_eq_false (show ¬ (l.length:Int)≤i by lia)] at q;exact aL (q H (Same.refl _))
  ·rw [decide_eq_false hl];rw [decide_eq_true (show (l.length:Int)≤i by lia),aAU] at q;refine aH ?_;refine s_ix rfl he rfl fun v hv=>?_;obtain ⟨b,xs,rfl,hb,pb,rb⟩:=hv.unref
   have el:=rb.length;refine ⟨b,rfl,⟨xs,hb⟩,fun l2 hl2=>?_⟩;refine cz (K:=K) (xs:=xs) (fun i ys σ H'=>ys=bls ((l.take i).map (ofN n d))∧i≤l.length∧Same H H'∧H' l2=some (.lst ys)∧∃ v1,σ=[v1,some x]) ⟨rfl,aAx _,aj hl2 _,ac,none,rfl⟩ (fun i ys σ H' _ r=>r.2.2.1.tup hb) ?_ ?_
   ·rintro j u ys σ H2 N hu ⟨rfl,hj,g2,e2,v1,rfl⟩ next;have hj2:j < xs.length:=(aAc.mp hu).1;obtain ⟨e,he',hp⟩:=rb.get' hu
    have me:=aAn he';refine ⟨_,rfl,_,rfl,a,ct,d,e,x,u,ha,rfl,hd.same g2,hp.same g2,gk,szl e me,by have:=dpl e me;lia,fun H3 g3=>?_⟩;refine ⟨g3 _ _ e2,?_,next _ _ _ ⟨?_,by lia,a8 hl2 (g2.trans g3),ac,_,rfl⟩⟩
    ·rw [bls,aAa,aAa,aAz];exact ak (by lia)
    ·unfold bls;rw [aAD,he',aAo,aAo]
     rfl
   ·intro ys σ H2 hI9;obtain ⟨rfl,hj,g2,e2,v1,rfl⟩:=hI9
    refine ⟨l2,_,rfl,rfl,SqL.of e2,?_⟩;rw [← el,aAW,aBl];exact q H2 g2
theorem kH (T:Tx K mg ad) {f fk:Addr} {fd fdk:FuncData} (n:Nat) (F:Gn K mg "is_pair_of" bO ["pair","field"] f fd) (Jt:Gn K mg "is_of" fD ["value","kind"] fk fdk)
  (Jz:FnOk P w K mg base CX0 (3*n+3) fk fdk ["value","kind"] (rN K n)):FnOk P w K mg base CX0 (3*n+3+1) f fd ["pair","field"] (vG K n):=by
 refine F.F.ok kR (fun vs H Q E h=>?_) (fun cdv A outer s H vs Q E hr h=>?_)
 ·obtain ⟨a,ct,d,e,z,x,y,_,rfl,_⟩:=h
  rfl
 obtain ⟨a,ct,d,e,z,x,y,ha,rfl,hd,he,gk,sz,dp,q⟩:=h;refine ⟨_,(@pss_cons _ _ _ _ _ (@ps_if _ _ _ _ _ _ _ _ (PW.pt (@gu _ _ _ _ _ _ _ (@pt_not _ _ _ _ (@pt_val _ _ _ (pe_callB (call_isiN' (K:=K) rfl) rfl T.z_isinstance boot_isinstance (@pa2 _ _ _ _ _ (pv 0) (bz rfl T.z_tuple boot_tuple) (by rfl) (by rfl))) (by intro _;rfl))) (@pw_or1 _ _ _ _ (pt_cmpR op_ne (pe_callB (call_lenDN (K:=K) rfl) rfl T.z_len boot_len (@pa1 _ _ _ (pv 0) (by rfl))) pe_int (nomark _))))) (@pss_one _ _ _ (@ps_ret _ _ _ _ pe_bl)) pss_nil) (@pss_one _ _ _ (@ps_ret _ _ _ _ (pe_and (pe_cmpR (je (K:=K) rfl hr.units) (@pi1 K _ _ _ _ _ _ _ rfl (pv 0)) (@pi1 K _ _ _ _ _ _ _ rfl (pv 1)) (nomark _)) (dr (pcl Jt Jz (hr.mono (by lia)) rfl (@pa2 _ _ _ _ _ (@pi1 K _ _ _ _ _ _ _ rfl (pv 0)) (@pi1 K _ _ _ _ _ _ _ rfl (pv 1)) (by rfl) (by rfl)))))))),?_⟩;have hd':IsP K H (.tup [.str z,d]) x:=hd;have isi:=mM he sz;have fin:=q H (Same.refl _)
 cases sz with
 | int i=>exact ⟨_,rfl,_,_,_,rfl,isi,_,rfl,aL (aL fin)⟩
 | str z' _=>exact ⟨_,rfl,_,_,_,rfl,isi,_,rfl,aL (aL fin)⟩
 | @tup l h1 h2 =>
  refine ⟨_,rfl,_,_,_,rfl,isi,_,rfl,aH ?_⟩;refine ⟨_,rfl,y,_,rfl,he.d,rfl,_,rfl,?_⟩
  match l,h1,h2,he,isi,dp,q,fin with
  | [a',b],h1,h2,he,isi,dp,q,fin =>
   refine ou ?_;have d1:=gK (l:=[a',b]) (x:=a') aAd;have d2:=gK (l:=[a',b]) (x:=b) (aAi _ aAd);have d3:(Dt.tup [a',b]).dep=dE [a',b]+1:=by simp only [Dt.dep]
   have sb:=h1 b (aAi _ aAd);refine s_ix rfl he rfl fun v hv=>?_;refine s_ix rfl hd' rfl fun v2 hv2=>?_;refine ⟨a',.str z,hv.d,hv2.d,by lia,_,rfl,?_⟩
   cases hq:eqD a' (.str z) with
   | false =>
    refine aH ?_;have e:prF (ofN n) (.tup [a',b],prD (z,d))=false:=by
     show (eqD a' (.str z) && ofN n d b)=false;rw [hq]
     rfl
    rw [e] at fin;exact fin
   | true =>
    refine aL ?_;have e:prF (ofN n) (.tup [a',b],prD (z,d))=ofN n d b:=by
     show (eqD a' (.str z) && ofN n d b)=_;rw [hq]
     rfl
    rw [e] at q;refine s_ix rfl he rfl fun v3 hv3=>?_;refine s_ix rfl hd' rfl fun v4 hv4=>?_;exact ⟨a,ct,d,b,v4,v3,ha,rfl,hv4,hv3,gk,sb,by lia,q⟩
  | [],h1,h2,he,isi,dp,q,fin=>exact lC (by decide) fin
  | [a'],h1,h2,he,isi,dp,q,fin=>exact lC (fun e=>absurd (V.int.inj e) (by simp)) fin
  | a' :: b :: c :: r,h1,h2,he,isi,dp,q,fin =>
   refine lC ?_ fin;intro e;have:=V.int.inj e;simp only [aAe] at this;lia
theorem i5 (T:Tx K mg ad) {f fk:Addr} {fd fdk:FuncData} (n:Nat) (F:Gn K mg "is_record_of" br ["value","fields"] f fd) (Kr:Gn K mg "is_pair_of" bO ["pair","field"] fk fdk)
  (Kw:FnOk P w K mg base CX0 (3*n+4) fk fdk ["pair","field"] (vG K n)):FnOk P w K mg base CX0 (3*n+4+1) f fd ["value","fields"] (vH K n):=by
 obtain ⟨_,_,Jo⟩:=T.holds_tuple;have JF:=eS (P:=P) (w:=w) (base:=base) T Jo;refine F.F.ok i7 (fun vs H Q E h=>?_) (fun cdv A outer s H vs Q E hr h=>?_)
 ·obtain ⟨fs,e,x,y,rfl,_⟩:=h
  rfl
 obtain ⟨fs,e,x,y,rfl,hd,he,gk,h8,sz,dp,q⟩:=h;refine ⟨_,(@pss_cons _ _ _ _ _ (@ps_if _ _ _ _ _ _ _ _ (PW.pt (@gu _ _ _ _ _ _ _ (@pt_not _ _ _ _ (@pt_val _ _ _ (pcl Jo JF (hr.mono (by lia)) rfl (@pa2 _ _ _ _ _ (pv 0) pe_str (by rfl) (by rfl))) (by intro _;rfl))) (@pw_or1 _ _ _ _ (pt_cmpR op_ne (pe_callB (call_lenDN (K:=K) rfl) rfl T.z_len boot_len (@pa1 _ _ _ (@pi1 K _ _ _ _ _ _ _ rfl (pv 0)) (by rfl))) (pe_callB (call_lenDN (K:=K) rfl) rfl T.z_len boot_len (@pa1 _ _ _ (pv 1) (by rfl))) (nomark _))))) (@pss_one _ _ _ (@ps_ret _ _ _ _ pe_bl)) pss_nil) (@pss_one _ _ _ (@ps_ret _ _ _ _ (pe_callB (call_allN (K:=K) rfl rfl) rfl T.z_all boot_all (@pa1 _ _ _ (pe_comp rfl (cs0 (NL:=["pair","field"]) rfl (by decide +kernel) (by decide +kernel)) (xj rfl T.z_zip (@pa2 _ _ _ _ _ (@pi1 K _ _ _ _ _ _ _ rfl (pv 0)) (pv 1) (by rfl) (by rfl))) (fun _ _ _ _=>(jd (K:=K) (n:=2) rfl rfl (aJ (ao (i:=0) (show List.Nodup (α:=Str) ["pair","field"] by decide +kernel) rfl (Or.inl rfl)) (aJ (ao (i:=1) (show List.Nodup (α:=Str) ["pair","field"] by decide +kernel) rfl (Or.inl rfl)) du)))) (fun _ _ _ _=>(pcl Kr Kw (hr.mono (by lia)) rfl (@pa2 _ _ _ _ _ (pv 0) (pv 1) (by rfl) (by rfl))))) (by rfl)))))),?_⟩;refine ⟨_,rfl,e,y,"record",rfl,he,sz,dp,_,rfl,?_⟩
 cases ht:htB "record" e with
 | false =>
  rw [HN ht] at q;exact aL (aL (q H (Same.refl _)))
 | true =>
  refine aH ?_;obtain ⟨l,rfl⟩:=rM ht;obtain ⟨szl,l20⟩:=vD sz;have dpl:=vE dp;have erc:rcF (ofN n) (fs.map prD) (.tup [.str "record",.tup l])=(decide (l.length=(fs.map prD).length) && (l.zip (fs.map prD)).all (prF (ofN n))):=by
   show (eqD (.str "record") (.str "record") && (decide (l.length=(fs.map prD).length) && (l.zip (fs.map prD)).all (prF (ofN n))))=_;rw [a7];exact aAU _
  rw [erc] at q;refine ⟨_,rfl,_,_,_,he,rfl,rfl,fun v hv=>⟨v,_,rfl,hv.d,?_⟩⟩;refine ⟨_,rfl,x,_,rfl,hd.d,rfl,_,rfl,?_⟩
  by_cases hl:l.length=(fs.map prD).length
  rotate_left
  ·rw [decide_eq_false hl] at q;refine lC (fun e=>hl (Int.ofNat.inj (V.int.inj e))) (q H (Same.refl _))
  ·rw [decide_eq_true hl,aAU] at q;rw [hl];refine ou ?_;refine s_ix rfl he rfl fun v1 hv1=>?_;obtain ⟨b,xs,rfl,hb,pb,rb⟩:=hv1.unref
   obtain ⟨b2,xs2,rfl,hb2,pb2,rb2⟩:=hd.unref
   have el:=rb.length;have el2:=rb2.length;have lfs:(fs.map prD).length=fs.length:=aAa _;refine ⟨_,rfl,b,b2,rfl,⟨xs,hb⟩,⟨xs2,hb2⟩,fun l2 hln=>?_⟩;refine qA (K:=K) (xs:=xs) (ys:=xs2) (fun i us σ H'=>us=bls (((l.zip (fs.map prD)).take i).map (prF (ofN n)))∧i≤8∧Same H H'∧H' l2=some (.lst us)∧∃ v1 v2,σ=[v1,v2]) ⟨rfl,aAx _,aj hln _,ac,none,none,rfl⟩ (fun i us σ H' r=>⟨r.2.2.1.tup hb,r.2.2.1.tup hb2⟩) ?_ ?_
   ·rintro i u v Tt us σ H5 N hu hv hT ⟨rfl,hi8,g5,e5,w1,w2,rfl⟩ next;obtain ⟨da,hda,hu'⟩:=rb.get' hu
    obtain ⟨db,hdb,hv'⟩:=rb2.get' hv
    have hz:(l.zip (fs.map prD))[i]?=some (da,db):=by
     rw [aA1];exact ⟨hda,hdb⟩
    rw [aAg] at hdb;obtain ⟨⟨z2,d1⟩,hf,rfl⟩:=aAh.mp hdb
    have li:i < fs.length:=(aAc.mp hf).1;obtain ⟨a9,ct9,ha9,fk9⟩:=gk _ (aAn hf)
    have gT:=aj hT (.tup [u,v]);have ma:=aAn hda;refine ⟨Tt,_,rfl,.inl (.inl ac),rfl,_,_,rfl,_,_,rfl,rfl,?_⟩;refine ⟨_,rfl,_,rfl,a9,ct9,d1,da,z2,v,u,ha9,rfl,(hv'.same g5).same gT,(hu'.same g5).same gT,fk9,szl da ma,by have:=dpl da ma;lia,fun H6 g6=>?_⟩;refine ⟨g6 _ _ (gT _ _ e5),?_,next _ _ _ ⟨?_,by lia,a8 hln ((g5.trans gT).trans g6),ac,_,_,rfl⟩⟩
    ·rw [bls,aAa,aAa,aAz];exact ak (by lia)
    ·unfold bls;rw [aAD,hz,aAo,aAo]
     rfl
   ·intro us σ H5 hI9;obtain ⟨rfl,hi8,g5,e5,w1,w2,rfl⟩:=hI9
    refine ⟨l2,_,rfl,rfl,SqL.of e5,?_⟩;have ez:(l.zip (fs.map prD)).length=min xs.length xs2.length:=by rw [aBe,el,el2]
    rw [← ez,aAW,aBl];exact q H5 g5
inductive I_sp_field_of (K:W.Frag)   (vs:List V) (H:Hp) (Q:VK):Prop
 | mk (gs:List (Str×Dt)) (z:Str) (e:Dt) (x:V):(vs=[x,.str z])→(IsP K H (.tup [.str "record",.tup (gs.map prD)]) x)→(au gs z=some e)→(∀ v,IsP K H e v→Q v H)→I_sp_field_of K vs H Q
def oY (K:W.Frag) (_:Ads)  : Sp:=fun vs H Q _=>I_sp_field_of K vs H Q
theorem lM {z:Str} {d:Dt}:∀ {fs:List (Str×Dt)} {i:Nat},fs[i]?=some (z,d)→(∀ j f,j < i→fs[j]?=some f→f.1≠z)→au fs z=some d
 | [],i,h,_=>by simp at h
 | f :: fs,0,h,_=>by
  obtain rfl:f=(z,d):=by simpa using h
  simp [au]
 | f :: fs,i+1,h,pre=>by
  have hz:¬ f.1=z:=pre 0 f (Nat.succ_pos _) rfl;have h2:fs[i]?=some (z,d):=by simpa using h
  have e:au (f :: fs) z=au fs z:=by simp [au,hz]
  rw [e];exact lM h2 fun j g hj hg=>pre (j+1) g (Nat.succ_lt_succ hj) (by simpa using hg)
theorem rO {z:Str}:∀ {fs:List (Str×Dt)},(∀ f∈fs,f.1≠z)→au fs z=none
 | [],_=>by simp [au]
 | f :: fs,h=>by
  have hz:¬ f.1=z:=h f aAd;have e:au (f :: fs) z=au fs z:=by simp [au,hz]
  rw [e];exact rO fun g hg=>h g (aAi _ hg)
theorem oZ (T:Tx K mg ad) {f:Addr} {fd:FuncData} (F:Gn K mg "field_of" gj ["record","name"] f fd):FnOk P w K mg base CX0 1 f fd ["record","name"] (oY K ad):=by
 refine F.F.ok fi (fun vs H Q E h=>?_) (fun cdv A outer s H vs Q E hr h=>?_)
 ·obtain ⟨gs,z,e,x,rfl,_⟩:=h
  rfl
 obtain ⟨gs,z,e0,x,rfl,hd,lk,q⟩:=h;refine ⟨_,(@pss_cons _ _ _ _ _ (ps_for PassesOwn.never rfl (pi_tupN (K:=K) rfl (@pi1 K _ _ _ _ _ _ _ rfl (pv 0))) (lW rfl (aJ (ao (i:=2) fi.nd rfl (Or.inl rfl)) (aJ (ao (i:=3) fi.nd rfl (Or.inl rfl)) du)))
    (@pss_one _ _ _ (@ps_if _ _ _ _ _ _ _ _ (pt_cmpR op_eq (pv 2) (pv 1) (nomark _)) (@pss_one _ _ _ (@ps_ret _ _ _ _ (pv 3))) pss_nil))) (@pss_one _ _ _ (@ps_ret _ _ _ _ pe_non))),?_⟩
 refine s_ix rfl hd rfl fun v hv=>?_;obtain ⟨a,xs,rfl,ha,pa,ra⟩:=hv.unref
 have el:=ra.length;rw [aAa] at el;refine ⟨a,rfl,⟨xs,ha⟩,lY (xs:=xs) (fun i σ H'=>H'=H∧(∀ j f,j < i→gs[j]?=some f→f.1≠z)∧∃ v1 v2,σ=[some x,some (.str z),v1,v2]) ⟨rfl,fun j f hj=>absurd hj (aBL _),_,_,rfl⟩ (fun i σ H' _ p=>p.1 ▸ ha) ?_ ?_⟩
 ·intro i y σ H' hy hI9;obtain ⟨rfl,pre,v1,v2,rfl⟩:=hI9
  obtain ⟨e,he,hp⟩:=ra.get' hy
  rw [aAg] at he;obtain ⟨⟨w,e'⟩,hf,rfl⟩:=aAh.mp he
  obtain ⟨b,ys,rfl,hb,pb,rb⟩:=hp.unref
  cases rb with
  | cons r1 rb =>
   cases rb with
   | @cons _ _ y2 _ r2 rb =>
    cases rb
    obtain rfl:=ay r1;refine ⟨b,_,rfl,hb,rfl,_,_,rfl,_,_,rfl,rfl,?_⟩;refine ⟨_,rfl,_,rfl,rfl,_,rfl,?_⟩
    by_cases hz:w=z
    ·subst hz;rw [lM hf pre] at lk;obtain rfl:=Option.some.inj lk;exact fW ⟨_,rfl,q _ r2⟩
    ·refine dh (bS hz) ⟨rfl,fun j f hj hjf=>?_,_,_,rfl⟩;rcases aB8.mp hj with h1 | h1
     ·exact pre j f h1 hjf
     ·subst h1;rw [hf] at hjf;obtain rfl:=Option.some.inj hjf;exact hz
 ·intro σ H' hI9;obtain ⟨rfl,pre,v1,v2,rfl⟩:=hI9
  rw [rO (fun f hf=>by
   obtain ⟨j,hj,e⟩:=aBG.mp hf
   exact pre j f (by lia) (by rw [aAm hj,e]))] at lk
  cases lk
theorem mP:∀ {fs gs:List (Str×Dt)},fs.map prD=gs.map prD→fs=gs
 | [],[],_=>rfl
 | [],g :: gs,h=>by simp at h
 | f :: fs,[],h=>by simp at h
 | (a,b) :: fs,(c,d) :: gs,h=>by
  have h':=List.cons.inj (show prD (a,b) :: fs.map prD=prD (c,d) :: gs.map prD from h);have h1:=h'.1;simp only [prD,Dt.tup.injEq,List.cons.injEq,Dt.str.injEq,and_true] at h1;rw [mP h'.2,h1.1,h1.2]
theorem de {K:W.Frag} {H:Hp}:∀ {ws:List Str} {xs:List V},IsPs K H (ws.map Dt.str) xs→xs=ws.map V.str
 | [],xs,h=>by cases h;rfl
 | w :: ws,xs,h=>by
  cases h with
  | cons h1 h2 =>
   rw [ay h1,de h2]
   rfl
theorem lN:∀ ws:List Str,(ws.map V.str).all eA=true
 | []=>rfl
 | w :: ws=>by
  show (eA (V.str w) && (ws.map V.str).all eA)=true;rw [lN ws]
  rfl
inductive I_sp_are_keyed (K:W.Frag)   (vs:List V) (H:Hp) (Q:VK):Prop
 | mk (z:Str) (l:List Dt) (x:V):(vs=[x,.str z])→(IsP K H (.tup l) x)→((∀ v∈l,∃ gs e,v=.tup [.str "record",.tup (gs.map prD)]∧au gs z=some e))→(l.length≤20)→(((∃ ns:List Int,(l.map fun v=>fJ v z)=ns.map Dt.int)∨∃ ss:List Str,(l.map fun v=>fJ v z)=ss.map Dt.str))→(∀ H',Same H H'→Q (.bl (vC (l.map fun v=>fJ v z))) H')→I_sp_are_keyed K vs H Q
def mQ (K:W.Frag) (_:Ads)  : Sp:=fun vs H Q _=>I_sp_are_keyed K vs H Q
theorem mR (T:Tx K mg ad) {f:Addr} {fd:FuncData} (F:Gn K mg "are_keyed" cT ["items","key"] f fd):FnOk P w K mg base CX0 2 f fd ["items","key"] (mQ K ad):=by
 obtain ⟨_,_,Kg⟩:=T.field_of;have KM:=oZ (P:=P) (w:=w) (base:=base) T Kg;refine F.F.ok gN (fun vs H Q E h=>?_) (fun cdv A outer s H vs Q E hr h=>?_)
 ·obtain ⟨z,l,x,rfl,_⟩:=h
  rfl
 obtain ⟨z,l,x,rfl,hd,rcs,hl8,sorts,q⟩:=h;refine ⟨_,(@pss_cons _ _ _ _ _ (w9 (j:=2) gN.nd rfl (Or.inl rfl) rfl (csR (sc:=ai cT) (NL:=["item"]) (N:=["items","key","keys"]) (ρ:=[1]) (N':=["item","key"]) rfl rfl rfl (by decide +kernel) (by decide +kernel) (by decide +kernel) rfl (by decide +kernel)) (pi_tupN (K:=K) rfl (pv 0)) (fun _ _ _ _=>(ao (i:=0) (show List.Nodup (α:=Str) ["item","key"] by decide +kernel) rfl (Or.inl rfl))) (fun _ _ _ _=>(pcl Kg KM (hr.mono (by lia)) rfl (@pa2 _ _ _ _ _ (pv 0) (pv 1) (by rfl) (by rfl))))) (@pss_one _ _ _ (@ps_ret _ _ _ _ (pe_callB (call_allN (K:=K) rfl rfl) rfl T.z_all boot_all (@pa1 _ _ _ (pe_comp rfl (cs0 (NL:=["ahead","behind"]) rfl (by decide +kernel) (by decide +kernel)) (Bs rfl T.z_zip (@pa2 _ _ _ _ _ (pv 2) (pe_slice (eE (K:=K) rfl) (pv 2) (po_some pe_int) dB) (by rfl) (by rfl))) (fun _ _ _ _=>(jd (K:=K) (n:=2) rfl rfl (aJ (ao (i:=0) (show List.Nodup (α:=Str) ["ahead","behind"] by decide +kernel) rfl (Or.inl rfl)) (aJ (ao (i:=1) (show List.Nodup (α:=Str) ["ahead","behind"] by decide +kernel) rfl (Or.inl rfl)) du)))) (fun _ _ _ _=>(pe_cmpR xr (pv 0) (pv 1) (nomark _)))) (by rfl)))))),?_⟩;obtain ⟨a,xs,rfl,ha,pa,ra⟩:=hd.unref
 have el:=ra.length;refine ⟨_,rfl,a,rfl,⟨xs,ha⟩,fun l2 hl2=>?_⟩;refine cz (K:=K) (xs:=xs) (fun i ys σ H'=>Same H H'∧H' l2=some (.lst ys)∧IsPs K H' ((l.take i).map fun v=>fJ v z) ys∧ys.length=i∧∃ v1,σ=[v1,some (.str z)]) ⟨aj hl2 _,ac,.nil,rfl,none,rfl⟩ (fun i ys σ H' _ r=>r.1.tup ha) ?_ ?_
 ·rintro i y ys σ H2 N hy ⟨g2,e2,hp2,le2,v1,rfl⟩ next;have hi:i < xs.length:=(aAc.mp hy).1;obtain ⟨d,hdi,hp⟩:=ra.get' hy
  obtain ⟨gs,e,rfl,lk⟩:=rcs d (aAn hdi)
  refine ⟨_,rfl,_,rfl,gs,z,e,y,rfl,hp.same g2,lk,fun v hv=>?_⟩;have b6:But l2 H2 (upd H2 l2 (.lst (ys++[v]))):=But.put;refine ⟨e2,ak (by lia),next _ _ _ ⟨a8 hl2 g2,ac,?_,by rw [aAk,le2];rfl,_,rfl⟩⟩;rw [← ic (fun v=>fJ v z) hdi];refine (hp2.but e2 b6).append (.cons ?_ .nil);have ek:fJ (.tup [.str "record",.tup (gs.map prD)]) z=e:=by
   show (jS (gs.map prD) z).getD .non=e;rw [fA,lk]
   rfl
  rw [ek];exact hv.but e2 b6
 ·intro ys σ H2 hI9;obtain ⟨g2,e2,hp2,le2,v1,rfl⟩:=hI9
  rw [← el,aAW] at hp2
  generalize hks:(l.map fun v=>fJ v z)=ks at hp2 sorts q
  have lks:ks.length=ys.length:=hp2.length;refine ⟨_,rfl,_,rfl,_,rfl,l2,_,rfl,SqL.of e2,fun l3 hl3=>?_⟩;rw [qM];have g3:=aj hl3 (.lst (ys.drop 1));have e3:(upd H2 l3 (.lst (ys.drop 1))) l3=some (.lst (ys.drop 1)):=ac;have e2':=g3 _ _ e2;have hp3:=hp2.same g3
  generalize upd H2 l3 (.lst (ys.drop 1))=H3 at g3 e3 e2' hp3 ⊢
  refine ⟨l2,l3,rfl,⟨_,SqL.of e2'⟩,⟨_,SqL.of e3⟩,fun l4 hl4=>?_⟩;refine sW (K:=K) (xs:=ys) (ys:=ys.drop 1) (fun i us σ H'=>us=bls (((ks.zip (ks.drop 1)).take i).map fun p=>ltD p.1 p.2)∧i≤20∧Same H3 H'∧H' l4=some (.lst us)∧∃ v1 v2,σ=[v1,v2]) ⟨rfl,aAx _,aj hl4 _,ac,none,none,rfl⟩ (fun i us σ H' r=>⟨SqL.of (r.2.2.1 _ _ e2'),SqL.of (r.2.2.1 _ _ e3)⟩) ?_ ?_
  ·rintro i u v Tt us σ H5 N hu hv hT ⟨rfl,hi8,g5,e5,w1,w2,rfl⟩ next;obtain ⟨da,hda,hu'⟩:=hp3.get' hu
   obtain ⟨db,hdb,hv'⟩:=(hp3.drop 1).get' hv
   have li:i < ys.length:=(aAc.mp hu).1;have n4:l4≠Tt:=ah e5 hT;have hz:(ks.zip (ks.drop 1))[i]?=some (da,db):=by
    rw [aA1];exact ⟨hda,hdb⟩
   have ls:ys.length≤20:=by rw [← lks,← hks,aAa];exact hl8
   refine ⟨Tt,_,rfl,.inl (.inl ac),rfl,_,_,rfl,_,_,rfl,rfl,?_⟩;have hbl:(upd H5 Tt (.tup [u,v])) l4=some (.lst (bls (((ks.zip (ks.drop 1)).take i).map fun p=>ltD p.1 p.2))):=by rw [ag n4];exact e5
   have nx:(bls (((ks.zip (ks.drop 1)).take i).map fun p=>ltD p.1 p.2)).length < sizeLine:=by rw [bls,aAa,aAa,aAz];exact ak (by lia)
   have st:=next (bls (((ks.zip (ks.drop 1)).take i).map fun p=>ltD p.1 p.2)++[.bl (ltD da db)]) [some u,some v] (upd (upd H5 Tt (.tup [u,v])) l4 (.lst (bls (((ks.zip (ks.drop 1)).take i).map fun p=>ltD p.1 p.2)++[.bl (ltD da db)]))) ⟨by unfold bls;rw [aAD,hz,aAo,aAo];rfl,by lia,a8 hl4 (g5.trans (aj hT _)),ac,_,_,rfl⟩;rcases sorts with ⟨ns,rfl⟩ | ⟨ss,rfl⟩
   ·obtain ⟨m,_,rfl⟩:=aAr.mp (aAn hda)
    obtain ⟨n,_,rfl⟩:=aAr.mp (aBM (aAn hdb))
    obtain rfl:=aX hu';obtain rfl:=aX hv';exact ⟨_,rfl,_,rfl,.inl ⟨m,n,rfl,rfl,hbl,nx,st⟩⟩
   ·obtain ⟨m,_,rfl⟩:=aAr.mp (aAn hda)
    obtain ⟨n,_,rfl⟩:=aAr.mp (aBM (aAn hdb))
    obtain rfl:=ay hu';obtain rfl:=ay hv';exact ⟨_,rfl,_,rfl,.inr ⟨m,n,rfl,rfl,hbl,nx,st⟩⟩
  ·intro us σ H5 hI9;obtain ⟨rfl,hi8,g5,e5,w1,w2,rfl⟩:=hI9
   refine ⟨l4,_,rfl,rfl,SqL.of e5,?_⟩;have ez:(ks.zip (ks.drop 1)).length=min ys.length (ys.drop 1).length:=by rw [aBe,aAJ,aAJ,lks]
   rw [← ez,aAW];exact q H5 ((g2.trans g3).trans g5)
theorem rP {f:Dt→Dt→Bool}:∀ (l:List Dt) (fs:List (Str×Dt)),l.length=(fs.map prD).length→(l.zip (fs.map prD)).all (prF f)=true →
  ∃ gs:List (Str×Dt),l=gs.map prD∧gs.map (·.1)=fs.map (·.1)∧∀ (i:Nat) (f' g:Str×Dt),fs[i]?=some f'→gs[i]?=some g→f f'.2 g.2=true
 | [],[],_,_=>⟨[],rfl,rfl,fun i f' g h=>by simp at h⟩
 | [],_ :: _,h,_=>by simp at h
 | _ :: _,[],h,_=>by simp at h
 | a :: l,(z,k) :: fs,h,ha=>by
  have ha':(prF f (a,prD (z,k)) && (l.zip (fs.map prD)).all (prF f))=true:=ha;rw [aAs] at ha';obtain ⟨gs,rfl,en,gg⟩:=rP l fs (by simpa using h) ha'.2;have h1:=ha'.1;unfold prF at h1
  split at h1
  ·rename_i p b v c k' e
   have e1:=congrArg Prod.fst e;have e2:=congrArg Prod.snd e;simp only [prD] at e1 e2;injection e2 with e2
   injection e2 with e3 e4
   injection e4 with e4 _
   rw [aAs] at h1;obtain ⟨h2,h3⟩:=h1;rw [← e3] at h2;have eb:=jf h2;refine ⟨(z,v) :: gs,?_,?_,fun i f' g hf hg=>?_⟩
   ·rw [e1,eb]
    rfl
   ·show z :: gs.map (·.1)=z :: fs.map (·.1);rw [en]
   ·cases i with
    | zero =>
     obtain rfl:(z,k)=f':=by simpa using hf
     obtain rfl:(z,v)=g:=by simpa using hg
     show f k v=true;rw [e4];exact h3
    | succ i=>exact gg i f' g (by simpa using hf) (by simpa using hg)
  ·cases h1
theorem BP {f:Dt→Dt→Bool} {fs:List (Str×Dt)} {v:Dt} (h:rcF f (fs.map prD) v=true):∃ gs:List (Str×Dt),v=.tup [.str "record",.tup (gs.map prD)]∧gs.map (·.1)=fs.map (·.1)∧∀ (i:Nat) (f' g:Str×Dt),fs[i]?=some f'→gs[i]?=some g→f f'.2 g.2=true:=by
 unfold rcF at h
 split at h
 ·rename_i a l
  rw [aAs,aAs,decide_eq_true_eq] at h;obtain ⟨gs,rfl,en,gg⟩:=rP l fs h.2.1 h.2.2;exact ⟨gs,by rw [jf h.1],en,gg⟩
 ·cases h
theorem vI (z:Str):∀ ws:List Str,xB (ws.map Dt.str) (.str z)=inV (V.str z) (ws.map V.str)
 | []=>rfl
 | w :: ws=>by
  show (eqD (.str w) (.str z) || xB (ws.map Dt.str) (.str z))=(eqV (V.str w) (V.str z) || inV (V.str z) (ws.map V.str));rw [vI z ws]
  rfl
theorem ph {z:Str} {kk:Dt}:∀ {fs gs:List (Str×Dt)},gs.map (·.1)=fs.map (·.1)→au fs z=some kk→∃ (i:Nat) (e:Dt),fs[i]?=some (z,kk)∧gs[i]?=some (z,e)∧au gs z=some e
 | [],_,_,h=>by simp [au] at h
 | f :: fs,[],e,_=>by simp at e
 | f :: fs,g :: gs,e,h=>by
  have e1:g.1=f.1:=(List.cons.inj (show g.1 :: gs.map (·.1)=f.1 :: fs.map (·.1) from e)).1;have e2:gs.map (·.1)=fs.map (·.1):=(List.cons.inj (show g.1 :: gs.map (·.1)=f.1 :: fs.map (·.1) from e)).2
  by_cases hz:f.1=z
  ·have h':au (f :: fs) z=some f.2:=by simp [au,hz]
   rw [h'] at h;obtain rfl:=Option.some.inj h;refine ⟨0,g.2,?_,?_,by simp [au,e1,hz]⟩
   ·show some f=_;rw [← hz]
   ·show some g=_;rw [← hz,← e1]
  ·have h':au (f :: fs) z=au fs z:=by simp [au,hz]
   rw [h'] at h;obtain ⟨i,d,h1,h2,h3⟩:=ph e2 h;exact ⟨i+1,d,by simpa using h1,by simpa using h2,by rw [← h3];simp [au,e1,hz]⟩
theorem xC {m:Nat} {fs:List (Str×Dt)} {z:Str} {kk:Dt} (lk:au fs z=some kk) (hk:oP kk):∀ l:List Dt,l.all (ofN (m+2) (.tup [.str "record",.tup (fs.map prD)]))=true →
  (∀ v∈l,∃ gs e,v=.tup [.str "record",.tup (gs.map prD)]∧au gs z=some e)∧((∃ ns:List Int,(l.map fun v=>fJ v z)=ns.map Dt.int)∨∃ ss:List Str,(l.map fun v=>fJ v z)=ss.map Dt.str):=by
 intro l h;have one:∀ v∈l,∃ gs e,v=.tup [.str "record",.tup (gs.map prD)]∧au gs z=some e∧ofN (m+1) kk e=true:=fun v hv=>by
  have h1:=aAC.mp h v hv;rw [iq] at h1;obtain ⟨gs,rfl,en,gg⟩:=BP h1;obtain ⟨i,e,hf,hg,hl⟩:=ph en lk;exact ⟨gs,e,rfl,hl,gg i _ _ hf hg⟩
 refine ⟨fun v hv=>?_,?_⟩
 ·obtain ⟨gs,e,h1,h2,_⟩:=one v hv;exact ⟨gs,e,h1,h2⟩
 ·have key:∀ v∈l,∃ e,fJ v z=e∧ofN (m+1) kk e=true:=fun v hv=>by
   obtain ⟨gs,e,rfl,h2,h3⟩:=one v hv;refine ⟨e,?_,h3⟩;show (jS (gs.map prD) z).getD .non=e;rw [fA,h2]
   rfl
  rcases hk with ⟨i,j,rfl,_⟩ | ⟨i,rfl,_⟩
  ·refine .inl ?_
   clear one h
   induction l with
   | nil=>exact ⟨[],rfl⟩
   | cons v l ih =>
    obtain ⟨ns,hn⟩:=ih fun v hv=>key v (aAi _ hv);obtain ⟨e,h1,h2⟩:=key v aAd;rw [ip] at h2
    cases e with
    | int x=>exact ⟨x :: ns,by rw [aAt,h1,hn];rfl⟩
    | _=>cases h2
  ·refine .inr ?_
   clear one h
   induction l with
   | nil=>exact ⟨[],rfl⟩
   | cons v l ih =>
    obtain ⟨ns,hn⟩:=ih fun v hv=>key v (aAi _ hv);obtain ⟨e,h1,h2⟩:=key v aAd;rw [mO] at h2
    cases e with
    | str x=>exact ⟨x :: ns,by rw [aAt,h1,hn];rfl⟩
    | _=>cases h2
theorem xD {f:Dt→Dt→Bool} {w:Str} {k e:Dt} {i:Int} (h:itF f w k i e=true):∃ l,e=.tup [.str w,.tup l]∧(l.length:Int)≤i∧l.all (f k)=true:=by
 unfold itF at h
 split at h
 ·rename_i a l
  rw [aAs,aAs,decide_eq_true_eq] at h;exact ⟨l,by rw [jf h.1],h.2.1,h.2.2⟩
 ·cases h
theorem vJ {a' c':Nat} {z:Str} {l:List Dt} (g:FK a' c' (.tup [.str "record",.tup l])) (kl:BE l z):∃ fs kk,l=fs.map prD∧au fs z=some kk∧oP kk∧fs.length≤8∧(fs.map (·.1)).Pairwise ltS∧(∀ f∈fs,∃ a ct,a < a'∧FK a ct f.2)∧2≤a':=by
 obtain ⟨gs,rfl,fg,asc,hl,lt⟩:=vz g l rfl;obtain ⟨w',rr,hm',hw⟩:=kl;obtain ⟨f0,hf0,ef0⟩:=aAr.mp hm';obtain ⟨g0,hg0,rfl⟩:=aAr.mp hf0;have ez:g0.1=z∧g0.2.1=.tup (.str w' :: rr):=by simpa [prD] using ef0
 obtain ⟨j0,hj0⟩:=aCj.mp hf0;have lk:au (gs.map nk) z=some g0.2.1:=di (gF asc) (by rw [hj0,← ez.1]);refine ⟨gs.map nk,g0.2.1,rfl,lk,vA (fg g0 hg0) w' rr ez.2 hw,by rw [aAa];exact hl,asc,fun f hf=>?_,?_⟩
 ·obtain ⟨x',hx',rfl⟩:=aAr.mp hf;exact ⟨_,_,lt x' hx',fg x' hx'⟩
 ·have h1:=lt g0 hg0;have h2:=(fg g0 hg0).pos;lia
theorem vK (T:Tx K mg ad) {f f1 f2:Addr} {fd fd1 fd2:FuncData} (n:Nat) (F:Gn K mg "is_of" fD ["value","kind"] f fd) (JR:Gn K mg "holds_items" bh ["value","word","kind","most"] f1 fd1) (Kl:Gn K mg "is_record_of" br ["value","fields"] f2 fd2)
  (JT:FnOk P w K mg base CX0 (3*n+4) f1 fd1 ["value","word","kind","most"] (vF K n)) (Km:FnOk P w K mg base CX0 (3*n+5) f2 fd2 ["value","fields"] (vH K n)):FnOk P w K mg base CX0 (3*n+5+1) f fd ["value","kind"] (rN K (n+1)):=by
 obtain ⟨_,_,JH⟩:=T.is_whole_within;have J0:=gf (P:=P) (w:=w) (base:=base) T JH;obtain ⟨_,_,JY⟩:=T.is_text_of;have Ku:=kG (P:=P) (w:=w) (base:=base) T JY;obtain ⟨_,_,J9⟩:=T.are_keyed;have Ky:=mR (P:=P) (w:=w) (base:=base) T J9;refine F.F.ok pS (fun vs H Q E h=>?_) (fun cdv A outer s H vs Q E hr h=>?_)
 ·obtain ⟨a,ct,d,e,x,y,_,rfl,_⟩:=h
  rfl
 obtain ⟨a,ct,d,e,x,y,ha,rfl,hd,he,gk,sz,dp,q⟩:=h;refine ⟨_,(@pss_cons _ _ _ _ _ (@ps_set _ _ 2 _ _ _ _ pS.nd rfl (Or.inl rfl) (@pi1 K _ _ _ _ _ _ _ rfl (pv 1)) (by rfl) (.inl rfl)) (@pss_cons _ _ _ _ _ (@ps_if _ _ _ _ _ _ _ _ (pt_cmpR op_eq (pv 2) pe_str (nomark _)) (@pss_one _ _ _ (@ps_ret _ _ _ _ (pcl JH J0 (hr.mono (by lia)) rfl (@pa3 _ _ _ _ _ _ _ (pv 0) (@pi1 K _ _ _ _ _ _ _ rfl (pv 1)) (@pi1 K _ _ _ _ _ _ _ rfl (pv 1)) (by rfl) (by rfl) (by rfl))))) pss_nil) (@pss_cons _ _ _ _ _ (@ps_if _ _ _ _ _ _ _ _ (pt_cmpR op_eq (pv 2) pe_str (nomark _)) (@pss_one _ _ _ (@ps_ret _ _ _ _ (pcl JY Ku (hr.mono (by lia)) rfl (@pa2 _ _ _ _ _ (pv 0) (@pi1 K _ _ _ _ _ _ _ rfl (pv 1)) (by rfl) (by rfl))))) pss_nil) (@pss_cons _ _ _ _ _ (@ps_if _ _ _ _ _ _ _ _ (pt_cmpR op_eq (pv 2) pe_str (nomark _)) (@pss_one _ _ _ (@ps_ret _ _ _ _ (pe_and (pe_callB (call_isiN' (K:=K) rfl) rfl T.z_isinstance boot_isinstance (@pa2 _ _ _ _ _ (pv 0) (bz rfl T.z_str boot_str) (by rfl) (by rfl))) (dr (pe_cmpR (dH (K:=K) rfl) (pv 0) (@pi1 K _ _ _ _ _ _ _ rfl (pv 1)) rfl))))) pss_nil) (@pss_cons _ _ _ _ _ (@ps_if _ _ _ _ _ _ _ _ (pt_cmpR op_eq (pv 2) pe_str (nomark _)) (@pss_one _ _ _ (@ps_ret _ _ _ _ (pcl JR JT (hr.mono (by lia)) rfl (@aI _ _ _ _ _ (pv 0) (@pa3 _ _ _ _ _ _ _ pe_str (@pi1 K _ _ _ _ _ _ _ rfl (pv 1)) (@pi1 K _ _ _ _ _ _ _ rfl (pv 1)) (by rfl) (by rfl) (by rfl)) (by rfl))))) pss_nil) (@pss_cons _ _ _ _ _ (@ps_if _ _ _ _ _ _ _ _ (pt_cmpR op_eq (pv 2) pe_str (nomark _)) (@pss_one _ _ _ (@ps_ret _ _ _ _ (pcl Kl Km (hr.mono (by lia)) rfl (@pa2 _ _ _ _ _ (pv 0) (@pi1 K _ _ _ _ _ _ _ rfl (pv 1)) (by rfl) (by rfl))))) pss_nil) (@pss_one _ _ _ (@ps_ret _ _ _ _ (pe_and (pcl JR JT (hr.mono (by lia)) rfl (@aI _ _ _ _ _ (pv 0) (@pa3 _ _ _ _ _ _ _ pe_str (@pi1 K _ _ _ _ _ _ _ rfl (pv 1)) (@pi1 K _ _ _ _ _ _ _ rfl (pv 1)) (by rfl) (by rfl) (by rfl)) (by rfl))) (dr (pcl J9 Ky (hr.mono (by lia)) rfl (@pa2 _ _ _ _ _ (@pi1 K _ _ _ _ _ _ _ rfl (pv 0)) (@pi1 K _ _ _ _ _ _ _ rfl (pv 1)) (by rfl) (by rfl))))))))))))),?_⟩
 cases gk with
 | number i j b1 b2 b3 =>
  rw [ip] at q;refine s_ix rfl hd rfl fun v hv=>?_;obtain rfl:=ay hv;refine fR rfl ?_;refine ⟨_,rfl,_,rfl,_,_,_,hd,rfl,rfl,isI ?_⟩;refine s_ix rfl hd rfl fun v hv=>?_;obtain rfl:=aX hv;exact ⟨e,y,i,j,rfl,he,sz,q H (Same.refl _)⟩
 | text i b1 b2 =>
  rw [mO] at q;refine s_ix rfl hd rfl fun v hv=>?_;obtain rfl:=ay hv;refine bL rfl (by decide) ?_;refine fR rfl ?_;refine ⟨_,rfl,_,rfl,_,_,_,hd,rfl,rfl,isI ?_⟩;exact ⟨e,y,i,rfl,he,sz,q⟩
 | choice ws hw ho =>
  rw [lL] at q;refine s_ix rfl hd rfl fun v hv=>?_;obtain rfl:=ay hv;refine bL rfl (by decide) ?_;refine bL rfl (by decide) ?_;refine fR rfl ?_
  cases sz with
  | int i =>
   obtain rfl:=aX he;exact ⟨_,rfl,_,_,_,rfl,.int_str,_,rfl,aH (q H (Same.refl _))⟩
  | tup h1 h2 =>
   obtain ⟨a',xs,ex,ha',_⟩:=he.unref
   have isi:IsiB K H y "str" false:=by rw [ex];exact .tup_str ha'
   exact ⟨_,rfl,_,_,_,rfl,isi,_,rfl,aH (q H (Same.refl _))⟩
  | str z hz =>
   obtain rfl:=ay he;refine ⟨_,rfl,_,_,_,rfl,.str_str,_,rfl,aL ?_⟩;refine ⟨_,rfl,_,rfl,_,_,_,hd,rfl,rfl,fun v hv=>?_⟩;obtain ⟨b,xs,rfl,hb,pb,rb⟩:=hv.unref
   have ex:xs=ws.map V.str:=de rb;rw [vI,← ex] at q;refine ⟨b,xs,rfl,.inr hb,rfl,?_,q H (Same.refl _)⟩;rw [ex];exact lN ws
 | @list a' c' k i g b1 b2 =>
  rw [rJ] at q;refine s_ix rfl hd rfl fun v hv=>?_;obtain rfl:=ay hv;refine bL rfl (by decide) ?_;refine bL rfl (by decide) ?_;refine bL rfl (by decide) ?_;refine fR rfl ?_;refine ⟨_,rfl,_,rfl,_,_,_,hd,rfl,rfl,fun v1 hv1=>?_⟩;refine s_ix rfl hd rfl fun v hv=>?_;obtain rfl:=aX hv;exact ⟨a',c',k,e,"list",v1,y,i,by lia,rfl,hv1,he,g,sz,dp,q⟩
 | @rcd gs g asc nm hl =>
  obtain ⟨fs,efs⟩:∃ fs:List (Str×Dt),fs=gs.map nk:=⟨_,rfl⟩;have ep:gs.map prG=fs.map prD:=by rw [efs,aAL];rfl
  rw [ep] at hd q;rw [iq] at q;refine s_ix rfl hd rfl fun v hv=>?_;obtain rfl:=ay hv;refine bL rfl (by decide) ?_;refine bL rfl (by decide) ?_;refine bL rfl (by decide) ?_;refine bL rfl (by decide) ?_;refine fR rfl ?_;refine ⟨_,rfl,_,rfl,_,_,_,hd,rfl,rfl,fun v1 hv1=>?_⟩;refine ⟨fs,e,v1,y,rfl,hv1,he,fun f hf=>?_,by rw [efs,aAa];exact hl,sz,dp,q⟩;rw [efs] at hf;obtain ⟨x',hx',rfl⟩:=aAr.mp hf
  have:=eK (aBn (f:=fun g:G4=>g.2.2.1) hx');exact ⟨_,_,by lia,g x' hx'⟩
 | @rows a' c' z l i g kl b1 b2 =>
  rw [rK] at q;refine s_ix rfl hd rfl fun v hv=>?_;obtain rfl:=ay hv;refine bL rfl (by decide) ?_;refine bL rfl (by decide) ?_;refine bL rfl (by decide) ?_;refine bL rfl (by decide) ?_;refine bL rfl (by decide) ?_;refine ⟨_,rfl,_,rfl,_,_,_,hd,rfl,rfl,fun v1 hv1=>?_⟩;refine s_ix rfl hd rfl fun v hv=>?_;obtain rfl:=aX hv;refine ⟨a',c',_,e,"rows",v1,y,i,by lia,rfl,hv1,he,g,sz,dp,fun H1 g1=>?_⟩;refine ⟨_,rfl,?_⟩
  cases hi:itF (ofN n) "rows" (.tup [.str "record",.tup l]) i e with
  | false =>
   rw [hi] at q;exact aH (q H1 g1)
  | true =>
   rw [hi,aAU] at q;refine aL ?_;obtain ⟨l',rfl,hl',hall⟩:=xD hi
   obtain ⟨fs,kk,rfl,lk,kf,_,_,_,ha2⟩:=vJ g kl
   obtain ⟨m,rfl⟩:∃ m,n=m+2:=⟨n - 2,by lia⟩;obtain ⟨rcs,sorts⟩:=xC lk kf l' hall;obtain ⟨_,l20⟩:=vD sz;refine s_ix rfl (he.same g1) rfl fun v2 hv2=>?_;refine s_ix rfl (hd.same g1) rfl fun v hv=>?_;obtain rfl:=ay hv;exact ⟨z,l',v2,rfl,hv2,rcs,l20,sorts,fun H2 g2=>q H2 (g1.trans g2)⟩
theorem jY (T:Tx K mg ad) {f f1 f2 f3:Addr} {fd fd1 fd2 fd3:FuncData} (F:Gn K mg "is_of" fD ["value","kind"] f fd) (D1:Gn K mg "holds_items" bh ["value","word","kind","most"] f1 fd1) (D2:Gn K mg "is_record_of" br ["value","fields"] f2 fd2) (D3:Gn K mg "is_pair_of" bO ["pair","field"] f3 fd3) :
  ∀ n,FnOk P w K mg base CX0 (3*n+3) f fd ["value","kind"] (rN K n)
 | 0=>bu fun vs H Q E z=>by
  obtain ⟨a,_,_,_,_,_,h1,_,_,_,g,_⟩:=z;have:=g.pos;lia
 | n+1=>by
  have ih:=jY T F D1 D2 D3 n;have hp:=kH T n D3 F ih;exact vK T n F D1 D2 (jX T n D1 F ih) (i5 T n D2 D3 hp)
section
variable (ts:List Tk)
def lO (p:Nat) (f:Str→Nat→PR):PR:=match am ts p with
 | (w,.inr s)=>if w= "word" then f s (p+1) else .err
 | (_,.inl _)=>.err
def cn (rd:Str→Nat→PR) (p:Nat):PR :=
 if am ts p=aG "[" then (jM ts (rd "value") "]" (p+1)).bind fun v q=>.ok (mk2 "list" v) q
 else if am ts p=aG "{" then (jM ts (rd "entry") "}" (p+1)).bind fun v q=>.ok (mk2 "record" v) q
 else if am ts p=aG "(" then (jM ts (rd "value") ")" (p+1)).bind fun v q=>.ok (mk2 "rows" v) q
 else if (am ts p).1= "number" then eR ts "number" p else eR ts "text" p
def rQ (rd:Str→Nat→PR) (s:Str) (p:Nat):PR:=lO ts p fun w q=>rB ts ":" q fun q=>(rd s q).bind fun v r=>.ok (.tup [.str w,v]) r
abbrev rR:List (Str×Str):=[("field","kind"),("entry","value"),("way","word")]
def prs:Nat→Str→Nat→PR
 | n+3,s,p=>if s= "value" then cn ts (prs n) p else if s= "kind" then .out else if s= "turn" then .out
  else if s= "piece" then .out else if s= "path" then .out else if s= "change" then .out
  else match eG s rR with
   | some s'=>rQ ts (prs (n+1)) s' p
   | none=>eR ts s p
 | _,_,_=>.out
end
def lP (K:W.Frag) (ad:Ads) (n:Nat):Sp:=fun vs H Q E=>∃ (x lw:Addr) (ts:List Tk) (p:Nat) (s:Str),vs=[.ref x,.str s]∧RowAt K ad.WordRow H x lw ts p∧Rdd K ad x lw ts H Q E (prs ts n s p)
def yl (K:W.Frag) (ad:Ads) (n:Nat):Sp:=fun vs H Q E=>∃ (x lw:Addr) (ts:List Tk) (p:Nat) (s c:Str),vs=[.ref x,.str s,.str c]∧RowAt K ad.WordRow H x lw ts p∧Rdd K ad x lw ts H Q E (jM ts (prs ts n s) c p)
theorem Rdd.step {K:W.Frag} {ad:Ads} {x lw:Addr} {ts:List Tk} {H H3:Hp} {Q Q':VK} {E:XK} {r:PR} {f:Dt→Nat→PR} (q:Rdd K ad x lw ts H Q E (r.bind f)) (b:But x H H3)
  (k:∀ v p y H4,But x H3 H4→RowAt K ad.WordRow H4 x lw ts p→IsP K H4 v y→Rdd K ad x lw ts H Q E (f v p)→Q' y H4):Rdd K ad x lw ts H3 Q' E r:=by
 cases r with
 | ok v p=>exact fun y H4 b4 hR hv=>k v p y H4 b4 hR hv q
 | err=>exact fun H4 b4=>q H4 (b.trans b4)
 | out=>exact q
theorem fB {ts:List Tk} {m:Str} {p:Nat} {f:Nat→PR} (h:am ts p=aG m):rB ts m p f=f (p+1):=if_pos h
theorem pi {ts:List Tk} {m:Str} {p:Nat} {f:Nat→PR} (h:¬ am ts p=aG m):rB ts m p f=.err:=if_neg h
theorem RowAt.mut {K:W.Frag} {C:Addr} {H:Hp} {x lw:Addr} {ts:List Tk} {p:Nat} (h:RowAt K C H x lw ts p):Mut (H x):=by
 obtain ⟨dx,ws,hx,_⟩:=h;rw [hx];exact True.intro
theorem RowAt.put {K:W.Frag} {C:Addr} {H:Hp} {x lw l:Addr} {ts:List Tk} {p:Nat} {zs:List V} (h:RowAt K C H x lw ts p) (hl:H l=some (.lst zs)) (ys:List V) (no:lw≠l):RowAt K C (upd H l (.lst ys)) x lw ts p:=by
 obtain ⟨dx,ws,hx,h0,hp,hlx,h5⟩:=h;have nx:x≠l:=fK hx hl (by intro c;cases c);exact ⟨dx,ws,by rw [ag nx];exact hx,by rw [ag no];exact h0,hp.but hl But.put,hlx,h5⟩
theorem mS (T:Tx K mg ad) (n:Nat) {f fp:Addr} {fd fdp:FuncData} (F:Gn K mg "list_read" cU ["row","sort","closing"] f fd) (IW:Gn K mg "part_read" bK ["row","sort"] fp fdp)
  (Jh:FnOk P w K mg base (CXE P w) (n+4) fp fdp ["row","sort"] (lP K ad n)):FnOk P w K mg base (CXE P w) (n+4+1) f fd ["row","sort","closing"] (yl K ad n):=by
 obtain ⟨f1,d1,IY⟩:=T.m_WordRow_comes;have Jk:=bX (P:=P) (w:=w) (base:=base) T IY;obtain ⟨f2,d2,IT⟩:=T.m_WordRow_take_mark;have Ja:=bo (P:=P) (w:=w) (base:=base) T IT;refine F.F.okW gS (fun vs H Q E h=>?_) (fun cdv A outer s H vs Q E hr h=>?_)
 ·obtain ⟨x,lw,ts,p,s,c,rfl,_⟩:=h
  rfl
 obtain ⟨x,lw,ts,p,s,c,rfl,hR,q⟩:=h;refine ⟨_,(@pss_cons _ _ _ _ _ (@ps_set _ _ 3 _ _ _ _ gS.nd rfl (Or.inl rfl) (@pe_lst _ _ _ _ pa_nil) (by rfl) (.inl rfl)) (@pss_cons _ _ _ _ _ (uP fun ok=>jn (jx ok.frames rfl ok.frf) (@pt_not _ _ _ _ (@pt_val _ _ _ (pe_meth (pv 0) T.c_WordRow IY.meth Jk (hr.mono (by first | decide | lia)) IY.b .nil iL (@pa1 _ _ _ (pv 2) (by rfl))) (by intro _;rfl)))
    (@pss_cons _ _ _ _ _ (@ps_if _ _ _ _ _ _ _ _ (pt_cmpR op_gt (pe_callB (bg (K:=K) rfl) rfl T.z_len boot_len (@pa1 _ _ _ (pv 3) (by rfl))) pe_int (nomark _)) (@pss_one _ _ _ (@ps_expr _ _ _ _ (pe_meth (pv 0) T.c_WordRow IT.meth Ja (hr.mono (by first | decide | lia)) IT.b .nil (wing_on rfl rfl rfl) (@pa1 _ _ _ pe_str (by rfl))) (by rfl))) pss_nil) (@pss_one _ _ _ (@ps_expr _ _ _ _ (pe_bm PySem.F.plainAttrs_list PySem.F.slot_list_append PySem.F.type_list_append bU (pv 3) (@pa1 _ _ _ (pe_call Jh (hr.mono (by first | decide | lia)) rfl IW.m IW.F.kp IW.b .nil (wing_on rfl rfl rfl) (@pa2 _ _ _ _ _ (pv 0) (pv 1) (by rfl) (by rfl))) (by rfl))) (by rfl))))) (@pss_cons _ _ _ _ _ (@ps_expr _ _ _ _ (pe_meth (pv 0) T.c_WordRow IT.meth Ja (hr.mono (by first | decide | lia)) IT.b .nil (wing_on rfl rfl rfl) (@pa1 _ _ _ (pv 2) (by rfl))) (by rfl)) (@pss_one _ _ _ (@ps_ret _ _ _ _ (pe_callTy (aQ (K:=K) rfl) rfl T.z_tuple boot_tuple (@pa1 _ _ _ (pv 3) (by rfl)))))))),?_⟩
 refine ⟨(by show 0≤sizeLine;decide),fun l hl=>?_⟩;have hxl:l≠x:=by
  obtain ⟨dx,_,hx,_⟩:=hR;exact fun c=>by rw [c,hx] at hl;cases hl
 have hwl:lw≠l:=by
  obtain ⟨dx,_,_,h0,_⟩:=hR;exact ah h0 hl
 refine ⟨fun m σ H'=>∃ (p':Nat) (fs:List Dt) (ys:List V),But x H H'∧RowAt K ad.WordRow H' x lw ts p'∧H' l=some (.lst ys)∧IsPs K H' fs ys∧fs.length+m≤ts.length+1∧Rdd K ad x lw ts H Q E (cR ts (prs ts n s) c m p' fs)∧σ=[some (.ref x),some (.str s),some (.str c),some (.ref l)],
  ⟨ts.length+1,p,[],[],But.same (aj hl _),hR.same (aj hl _),ac,.nil,aB3 (Nat.zero_add _),q,rfl⟩,?_⟩
 rintro m σ H1 ⟨p',fs,ys,b1,hR1,f1',hp,hm,q1,rfl⟩
 cases m with
 | zero=>exact q1.elim
 | succ m =>
 obtain ⟨dx,ws,hx,hl0,hp0,hlx0,h5⟩:=id hR1;have ly:=hp.length;refine ⟨_,rfl,x,dx,_,rfl,hx,aT lw p' (by decide +kernel) (by decide +kernel),_,rfl,x,lw,ts,p',c,rfl,hR1,fun H2 g2=>?_⟩;have R2:=hR1.same g2;have f2':=g2 _ _ f1';have hp2:=hp.same g2
 by_cases hc:am ts p'=aG c
 ·rw [decide_eq_true hc];simp only [cR] at q1;rw [if_pos hc] at q1;refine ⟨_,rfl,aH ⟨_,rfl,x,dx,_,rfl,g2 _ _ hx,aT lw p' (by decide +kernel) (by decide +kernel),_,rfl,x,lw,ts,p',c,rfl,R2,fun _ H3 b3 hR3=>?_,fun h=>absurd hc h⟩⟩;refine ⟨_,rfl,l,ys,_,rfl,SqL.of (b3 _ _ hxl f2'),cf R2.mut b3 hp2,fun v H4 g4 hv=>?_⟩;exact q1 v H4 (((b1.trans (But.same g2)).trans b3).trans (But.same g4)) (hR3.same g4) hv
 ·rw [decide_eq_false hc];simp only [cR] at q1;rw [if_neg hc] at q1;refine ⟨_,rfl,aL ⟨fun σ' H'=>∃ (p':Nat) (fs:List Dt) (ys:List V),But x H H'∧RowAt K ad.WordRow H' x lw ts p'∧H' l=some (.lst ys)∧IsPs K H' fs ys∧fs.length+m≤ts.length+1∧Rdd K ad x lw ts H Q E (cR ts (prs ts n s) c m p' fs)∧σ'=[some (.ref x),some (.str s),some (.str c),some (.ref l)],fun σ' H' r=>⟨m,by lia,r⟩,?_⟩⟩;refine ⟨_,rfl,l,_,rfl,.inl (SqL.of f2'),_,_,rfl,rfl,_,rfl,?_⟩;have b2:But x H H2:=b1.trans (But.same g2);refine aK (fun c0=>?_) (fun c0=>?_)
  ·have pos:0 < fs.length:=by have:=of_decide_eq_true c0;lia
   rw [if_pos pos] at q1;refine ⟨_,rfl,x,dx,_,rfl,g2 _ _ hx,aT lw p' (by decide +kernel) (by decide +kernel),x,lw,ts,p',",",rfl,R2,fun hcm H3 b3 R3=>?_,fun hcm H3 g3=>?_⟩
   ·rw [fB hcm] at q1;refine ⟨_,rfl,.inl ⟨rfl,_,SqL.of (b3 _ _ hxl f2')⟩,_,rfl,_,rfl,x,lw,ts,p' + 1,s,rfl,R3,q1.step (b2.trans b3) fun v p4 y H4 b4 R4 hv q4=>?_⟩;have f4:=b4 _ _ hxl (b3 _ _ hxl f2');refine ⟨l,ys,y,rfl,rfl,f4,aAj (show ys.length < 100001 by have:=h5.1;lia) (by decide),p4,fs++[v],ys++[y],fun b o nb eb=>?_,R4.put f4 _ hwl,ac,((cf R3.mut b4 (cf R2.mut b3 hp2)).but f4 But.put).append (.cons (hv.but f4 But.put) .nil),by rw [aAk];simp only [aAe,aAI];lia,q4,rfl⟩;rw [ag (ah eb hl)];exact b4 _ _ nb ((b2.trans b3) _ _ nb eb)
   ·rw [pi hcm] at q1;exact q1 H3 (b2.trans (But.same g3))
  ·have pos:¬ 0 < fs.length:=fun h=>c0 (decide_eq_true (by lia));rw [if_neg pos] at q1;refine ⟨_,rfl,.inl ⟨rfl,_,SqL.of f2'⟩,_,rfl,_,rfl,x,lw,ts,p',s,rfl,R2,q1.step b2 fun v p4 y H4 b4 R4 hv q4=>?_⟩;have f4:=b4 _ _ hxl f2';refine ⟨l,ys,y,rfl,rfl,f4,aAj (show ys.length < 100001 by have:=h5.1;lia) (by decide),p4,fs++[v],ys++[y],fun b o nb eb=>?_,R4.put f4 _ hwl,ac,((cf R2.mut b4 hp2).but f4 But.put).append (.cons (hv.but f4 But.put) .nil),by rw [aAk];simp only [aAe,aAI];lia,q4,rfl⟩;rw [ag (ah eb hl)];exact b4 _ _ nb (b2 _ _ nb eb)
def IP (K:W.Frag) (ad:Ads) (n:Nat):Sp:=fun vs H Q E=>∃ (x lw:Addr) (ts:List Tk) (p:Nat),vs=[.ref x]∧RowAt K ad.WordRow H x lw ts p∧Rdd K ad x lw ts H Q E (cn ts (prs ts n) p)
def brL:List (Str×Str×Str×Str):=[("[","list","value","]"),("{","record","entry","}"),("(","rows","value",")")]
theorem vL {ts:List Tk} {rd:Str→Nat→PR} {p i:Nat} {b:Str×Str×Str×Str} (hb:brL[i]?=some b) (no:∀ j a,j < i→brL[j]?=some a→¬ am ts p=aG a.1) (h:am ts p=aG b.1) :
  cn ts rd p=(jM ts (rd b.2.2.1) b.2.2.2 (p+1)).bind fun v q=>.ok (mk2 b.2.1 v) q:=by
 unfold cn
 match i,hb with
 | 0,hb=>cases hb;rw [if_pos h]
 | 1,hb=>cases hb;rw [if_neg (no 0 _ (by lia) rfl),if_pos h]
 | 2,hb=>cases hb;rw [if_neg (no 0 _ (by lia) rfl),if_neg (no 1 _ (by lia) rfl),if_pos h]
 | n+3,hb=>simp [brL] at hb
theorem vM {ts:List Tk} {rd:Str→Nat→PR} {p:Nat} (no:∀ j a,j < 3→brL[j]?=some a→¬ am ts p=aG a.1):cn ts rd p=if (am ts p).1= "number" then eR ts "number" p else eR ts "text" p:=by
 unfold cn;rw [if_neg (no 0 _ (by lia) rfl),if_neg (no 1 _ (by lia) rfl),if_neg (no 2 _ (by lia) rfl)]
theorem vN {K:W.Frag} {H:Hp} (k:Key):IsP K H (kDt k) (kV k):=by
 cases k with
 | inl i=>exact .int
 | inr z=>exact .str
theorem kI (T:Tx K mg ad) (n:Nat) {f fl:Addr} {fd fdl:FuncData} (F:Gn K mg "value_read" dQ ["row"] f fd) (Jp:Gn K mg "list_read" cU ["row","sort","closing"] fl fdl)
  (JO:FnOk P w K mg base (CXE P w) (n+4+1) fl fdl ["row","sort","closing"] (yl K ad n)):FnOk P w K mg base (CXE P w) (n+4+2) f fd ["row"] (IP K ad n):=by
 obtain ⟨f1,d1,IY⟩:=T.m_WordRow_comes;have Jk:=bX (P:=P) (w:=w) (base:=base) T IY;obtain ⟨f2,d2,IT⟩:=T.m_WordRow_take_mark;have Ja:=bo (P:=P) (w:=w) (base:=base) T IT;obtain ⟨f3,d3,IV⟩:=T.m_WordRow_take;have Jd:=cm (P:=P) (w:=w) (base:=base) T IV;obtain ⟨f4,d4,IU⟩:=T.m_WordRow_coming;have Jb:=bj (P:=P) (w:=w) (base:=base) T IU;obtain ⟨c_BRACKETED,tr,tt⟩:=T.BRACKETED;refine F.F.okW bF (fun vs H Q E h=>?_) (fun cdv A outer s H vs Q E hr h=>?_)
 ·obtain ⟨x,lw,ts,p,rfl,_⟩:=h
  rfl
 obtain ⟨x,lw,ts,p,rfl,hR,q⟩:=h;refine ⟨_,(@pss_cons _ _ _ _ _ (uP fun ok=>ps_for (jx ok.frames rfl ok.frf) rfl (pi_tupN (K:=K) rfl (dD rfl c_BRACKETED)) (lW rfl (aJ (ao (i:=1) bF.nd rfl (Or.inl rfl)) (aJ (ao (i:=2) bF.nd rfl (Or.inl rfl)) (aJ (ao (i:=3) bF.nd rfl (Or.inl rfl)) (aJ (ao (i:=4) bF.nd rfl (Or.inl rfl)) du)))))
    (@pss_one _ _ _ (@ps_if _ _ _ _ _ _ _ _ (@pt_val _ _ _ (pe_meth (pv 0) T.c_WordRow IY.meth Jk (hr.mono (by first | decide | lia)) IY.b .nil iL (@pa1 _ _ _ (pv 1) (by rfl))) (by intro _;rfl)) (@pss_cons _ _ _ _ _ (@ps_expr _ _ _ _ (pe_meth (pv 0) T.c_WordRow IT.meth Ja (hr.mono (by first | decide | lia)) IT.b .nil (wing_on rfl rfl rfl) (@pa1 _ _ _ (pv 1) (by rfl))) (by rfl)) (@pss_one _ _ _ (@ps_ret _ _ _ _ (@pe_tupPK _ K _ _ _ _ rfl (@pa2 _ _ _ _ _ (pv 2) (pe_call JO (hr.mono (by first | decide | lia)) rfl Jp.m Jp.F.kp Jp.b .nil (wing_on rfl rfl rfl) (@pa3 _ _ _ _ _ _ _ (pv 0) (pv 3) (pv 4) (by rfl) (by rfl) (by rfl))) (by rfl) (by rfl)))))) pss_nil))) (@pss_cons _ _ _ _ _ (@ps_if _ _ _ _ _ _ _ _ (pt_cmpR op_eq (@pe_ix _ _ _ _ _ _ _ (ix_tupDN (K:=K) rfl) (pe_meth (pv 0) T.c_WordRow IU.meth Jb (hr.mono (by first | decide | lia)) IU.b .nil iL (@pa1 _ _ _ pe_int (by rfl))) pe_int (fun _ _=>rfl)) pe_str (nomark _)) (@pss_one _ _ _ (@ps_ret _ _ _ _ (pe_meth (pv 0) T.c_WordRow IV.meth Jd (hr.mono (by first | decide | lia)) IV.b .nil (wing_on rfl rfl rfl) (@pa1 _ _ _ pe_str (by rfl))))) pss_nil) (@pss_one _ _ _ (@ps_ret _ _ _ _ (pe_meth (pv 0) T.c_WordRow IV.meth Jd (hr.mono (by first | decide | lia)) IV.b .nil (wing_on rfl rfl rfl) (@pa1 _ _ _ pe_str (by rfl))))))),?_⟩
 obtain ⟨dx,ws,hx,hl0,hp0,hlx0,h5⟩:=id hR;have tt':∀ (i:Nat) (b:Str×Str×Str×Str),brL[i]?=some b→∀ H',SqT K H' (291+i) [.str b.1,.str b.2.1,.str b.2.2.1,.str b.2.2.2]:=by
  intro i b hb H'
  match i,hb with
  | 0,hb=>cases hb;exact tt (291,["[","list","value","]"]) (by simp) H'
  | 1,hb=>cases hb;exact tt (292,["{","record","entry","}"]) (by simp) H'
  | 2,hb=>cases hb;exact tt (293,["(","rows","value",")"]) (by simp) H'
  | n+3,hb=>simp [brL] at hb
 refine ⟨294,rfl,⟨_,tr _⟩,lY (K:=K) (xs:=([291,292,293]:List Addr).map V.ref) (fun i σ H'=>Same H H'∧(∀ j a,j < i→brL[j]?=some a→¬ am ts p=aG a.1)∧∃ v1 v2 v3 v4,σ=[some (.ref x),v1,v2,v3,v4]) ⟨Same.refl H,fun j a h=>absurd h (aBL _),_,_,_,_,rfl⟩ (fun i σ H' _ _=>tr H') ?_ ?_⟩
 ·rintro i y σ H1 hy ⟨g1,no,v1,v2,v3,v4,rfl⟩;obtain ⟨b,hb,rfl⟩:∃ b,brL[i]?=some b∧y=.ref (291+i):=by
   match i,hy with
   | 0,hy=>cases hy;exact ⟨_,rfl,rfl⟩
   | 1,hy=>cases hy;exact ⟨_,rfl,rfl⟩
   | 2,hy=>cases hy;exact ⟨_,rfl,rfl⟩
   | n+3,hy=>simp at hy
  refine ⟨_,_,rfl,tt' i b hb H1,rfl,_,_,rfl,_,_,rfl,_,_,rfl,_,_,rfl,rfl,?_⟩;refine ⟨_,rfl,x,dx,_,rfl,g1 _ _ hx,aT lw p (by decide +kernel) (by decide +kernel),_,rfl,x,lw,ts,p,b.1,rfl,hR.same g1,fun H2 g2=>?_⟩;have g12:=g1.trans g2
  by_cases hc:am ts p=aG b.1
  ·rw [decide_eq_true hc];rw [vL hb no hc] at q;refine ⟨_,rfl,aL ⟨_,rfl,x,dx,_,rfl,g12 _ _ hx,aT lw p (by decide +kernel) (by decide +kernel),_,rfl,x,lw,ts,p,b.1,rfl,hR.same g12,fun _ H3 b3 R3=>?_,fun h=>absurd hc h⟩⟩;refine ⟨_,rfl,_,rfl,_,rfl,_,rfl,x,lw,ts,p+1,b.2.2.1,b.2.2.2,rfl,R3,q.step ((But.same g12).trans b3) fun v p4 y H4 b4 R4 hv q4=>?_⟩;exact ⟨[.str b.2.1,v],.cons .str (.cons hv .nil),sz2,fun y5 H5 g5 hv5=>q4 y5 H5 ((((But.same g12).trans b3).trans b4).trans (But.same g5)) (R4.same g5) hv5⟩
  ·rw [decide_eq_false hc];refine ⟨_,rfl,aH ⟨g12,fun j a hj ha=>?_,_,_,_,_,rfl⟩⟩;rcases aB8.mp hj with h | h
   ·exact no j a h ha
   ·subst h;rw [hb] at ha
    cases ha
    exact hc
 ·rintro σ H1 ⟨g1,no,v1,v2,v3,v4,rfl⟩;rw [vM no] at q;refine ⟨_,rfl,x,dx,_,rfl,g1 _ _ hx,aT lw p (by decide +kernel) (by decide +kernel),x,lw,ts,p,0,rfl,hR.same g1,fun v hv=>?_⟩;rw [aCm] at hv;have hv':IsD K H1 (.tup [.str (am ts p).1,kDt (am ts p).2]) v:=hv;refine ⟨_,_,_,hv',rfl,at0 _ _,fun v1 hv1=>?_⟩;obtain rfl:v1=.str (am ts p).1:=by cases hv1;rfl
  have tk:∀ {s0:Str} {Q':VK},Rdd K ad x lw ts H Q E (eR ts s0 p)→(∀ y H',Q y H'→Q' y H')→((am ts p).1=s0→∀ H',But x H1 H'→RowAt K ad.WordRow H' x lw ts (p+1)→Q' (kV (am ts p).2) H')∧(¬ (am ts p).1=s0→E (.ref ad.BadText) none H1):=fun {s0 Q'} q hQ=>by
   unfold eR at q;refine ⟨fun e H' b' R'=>?_,fun e=>?_⟩
   ·rw [if_pos e] at q;exact hQ _ _ (q _ H' ((But.same g1).trans b') R' (vN _))
   ·rw [if_neg e] at q;exact q H1 (But.same g1)
  refine ⟨rfl,_,rfl,?_⟩
  by_cases hn:(am ts p).1= "number"
  ·rw [if_pos hn] at q;rw [hn];obtain ⟨a1,a2⟩:=tk (Q':=Q) q (fun _ _ h=>h);exact fW ⟨_,rfl,x,dx,_,rfl,g1 _ _ hx,aT lw p (by decide +kernel) (by decide +kernel),x,lw,ts,p,"number",rfl,hR.same g1,a1,a2⟩
  ·rw [if_neg hn] at q;obtain ⟨a1,a2⟩:=tk (Q':=Q) q (fun _ _ h=>h);exact dh (bS hn) ⟨_,rfl,x,dx,_,rfl,g1 _ _ hx,aT lw p (by decide +kernel) (by decide +kernel),x,lw,ts,p,"text",rfl,hR.same g1,a1,a2⟩
theorem vO {ts:List Tk} {p:Nat} (h:∀ t∈ts,t.1= "word" →∃ s,t.2=Sum.inr s) (e:(am ts p).1= "word"):∃ s:Str,(am ts p).2=Sum.inr s:=by
 unfold am at e ⊢
 cases hp:ts[p]? with
 | none =>
  rw [hp] at e;exact absurd (show (Str.ofString "end")=Str.ofString "word" from e) (by decide +kernel)
 | some t =>
  rw [hp] at e;exact h t (aAn hp) e
theorem Rdd.word {K:W.Frag} {ad:Ads} {x lw:Addr} {ts:List Tk} {H H1:Hp} {Q:VK} {E:XK} {p:Nat} {f:Str→Nat→PR} (q:Rdd K ad x lw ts H Q E (lO ts p f)) (b:But x H H1) (h:∀ t∈ts,t.1= "word" →∃ s,t.2=Sum.inr s) :
  (∃ s,(am ts p).1= "word" ∧kV (am ts p).2=.str s∧Rdd K ad x lw ts H Q E (f s (p+1)))∨(¬ (am ts p).1= "word" ∧E (.ref ad.BadText) none H1):=by
 by_cases e:(am ts p).1= "word"
 ·obtain ⟨s,hs⟩:=vO h e;refine .inl ⟨s,e,by rw [hs];rfl,?_⟩;unfold lO at q
  generalize am ts p=t at q e hs
  obtain ⟨w,kk⟩:=t;obtain rfl:kk=Sum.inr s:=hs;obtain rfl:w= "word" :=e;dsimp only at q;rw [if_pos rfl] at q;exact q
 ·refine .inr ⟨e,?_⟩;unfold lO at q
  generalize am ts p=t at q e
  obtain ⟨w,kk⟩:=t
  cases kk with
  | inl i=>exact q H1 b
  | inr s =>
   dsimp only at q;rw [if_neg e] at q;exact q H1 b
def HP (K:W.Frag) (ad:Ads) (n:Nat):Sp:=fun vs H Q E=>∃ (x lw:Addr) (ts:List Tk) (p:Nat) (s:Str),vs=[.ref x,.str s]∧RowAt K ad.WordRow H x lw ts p∧Rdd K ad x lw ts H Q E (rQ ts (prs ts n) s p)
theorem mU (T:Tx K mg ad) (n:Nat) {f fp:Addr} {fd fdp:FuncData} (F:Gn K mg "pair_read" eZ ["row","sort"] f fd) (IW:Gn K mg "part_read" bK ["row","sort"] fp fdp)
  (Jh:FnOk P w K mg base (CXE P w) (n+4) fp fdp ["row","sort"] (lP K ad n)):FnOk P w K mg base (CXE P w) (n+4+1) f fd ["row","sort"] (HP K ad n):=by
 obtain ⟨f2,d2,IT⟩:=T.m_WordRow_take_mark;have Ja:=bo (P:=P) (w:=w) (base:=base) T IT;obtain ⟨f3,d3,IV⟩:=T.m_WordRow_take;have Jd:=cm (P:=P) (w:=w) (base:=base) T IV;refine F.F.okW gR (fun vs H Q E h=>?_) (fun cdv A outer s H vs Q E hr h=>?_)
 ·obtain ⟨x,lw,ts,p,s,rfl,_⟩:=h
  rfl
 obtain ⟨x,lw,ts,p,s,rfl,hR,q⟩:=h;refine ⟨_,(@pss_cons _ _ _ _ _ (@ps_set _ _ 2 _ _ _ _ gR.nd rfl (Or.inl rfl) (pe_meth (pv 0) T.c_WordRow IV.meth Jd (hr.mono (by first | decide | lia)) IV.b .nil (wing_on rfl rfl rfl) (@pa1 _ _ _ pe_str (by rfl))) (by rfl) (.inl rfl)) (@pss_cons _ _ _ _ _ (@ps_expr _ _ _ _ (pe_meth (pv 0) T.c_WordRow IT.meth Ja (hr.mono (by first | decide | lia)) IT.b .nil (wing_on rfl rfl rfl) (@pa1 _ _ _ pe_str (by rfl))) (by rfl)) (@pss_one _ _ _ (@ps_ret _ _ _ _ (@pe_tupPK _ K _ _ _ _ rfl (@pa2 _ _ _ _ _ (pv 2) (pe_call Jh (hr.mono (by first | decide | lia)) rfl IW.m IW.F.kp IW.b .nil (wing_on rfl rfl rfl) (@pa2 _ _ _ _ _ (pv 0) (pv 1) (by rfl) (by rfl))) (by rfl) (by rfl))))))),?_⟩;obtain ⟨dx,ws,hx,hl0,hp0,hlx0,h5⟩:=id hR;rcases q.word (But.refl _ _) h5.2 with ⟨wd,ht,e2,q1⟩ | ⟨hn,he⟩
 rotate_left
 ·exact ⟨_,rfl,x,dx,_,rfl,hx,aT lw p (by decide +kernel) (by decide +kernel),x,lw,ts,p,"word",rfl,hR,fun h=>absurd h hn,fun _=>he⟩
 refine ⟨_,rfl,x,dx,_,rfl,hx,aT lw p (by decide +kernel) (by decide +kernel),x,lw,ts,p,"word",rfl,hR,fun _ H1 b1 R1=>?_,fun h=>absurd ht h⟩;rw [e2];obtain ⟨dx1,ws1,hx1,_⟩:=id R1;refine ⟨_,rfl,x,dx1,_,rfl,hx1,aT lw _ (by decide +kernel) (by decide +kernel),x,lw,ts,p+1,":",rfl,R1,fun hcm H2 b2 R2=>?_,fun hcm H2 g2=>?_⟩
 ·rw [fB hcm] at q1;refine ⟨_,rfl,_,rfl,_,rfl,x,lw,ts,p+1+1,s,rfl,R2,q1.step (b1.trans b2) fun v p4 y H4 b4 R4 hv q4=>?_⟩;exact ⟨[.str wd,v],.cons .str (.cons hv .nil),sz2,fun y5 H5 g5 hv5=>q4 y5 H5 (((b1.trans b2).trans b4).trans (But.same g5)) (R4.same g5) hv5⟩
 ·rw [pi hcm] at q1;exact q1 H2 (b1.trans (But.same g2))
theorem mV (T:Tx K mg ad) (n:Nat) {f:Addr} {fd:FuncData} (IW:Gn K mg "part_read" bK ["row","sort"] f fd)
  (Jh:FnOk P w K mg base (CXE P w) (n+4) f fd ["row","sort"] (lP K ad n)) (KW:FnOk P w K mg base (CXE P w) (n+1+4) f fd ["row","sort"] (lP K ad (n+1))):FnOk P w K mg base (CXE P w) (n+3+4) f fd ["row","sort"] (lP K ad (n+3)):=by
 obtain ⟨f1,d1,Jp⟩:=T.list_read;have JO:=mS (P:=P) (w:=w) (base:=base) T n Jp IW Jh;obtain ⟨f2,d2,JQ⟩:=T.form_read;have Kz:FnOk P w K mg base (CXE P w) 1 f2 d2 ["row","sort","word"] (fun _ _ _ _=>False):=bu fun _ _ _ _ h=>h;obtain ⟨f3,d3,Jw⟩:=T.value_read;have Kv:=kI (P:=P) (w:=w) (base:=base) T n Jw Jp JO;obtain ⟨f4,d4,JB⟩:=T.pair_read;have KC:=mU (P:=P) (w:=w) (base:=base) T (n+1) JB IW KW;obtain ⟨f5,d5,JP⟩:=T.turn_read;have KJ:FnOk P w K mg base (CXE P w) 1 f5 d5 ["row"] (fun _ _ _ _=>False):=bu fun _ _ _ _ h=>h;obtain ⟨f6,d6,Jq⟩:=T.path_read;have Ka:FnOk P w K mg base (CXE P w) 1 f6 d6 ["row"] (fun _ _ _ _=>False):=bu fun _ _ _ _ h=>h;obtain ⟨f7,d7,JN⟩:=T.kind_read;have KI:FnOk P w K mg base (CXE P w) 1 f7 d7 ["row"] (fun _ _ _ _=>False):=bu fun _ _ _ _ h=>h;obtain ⟨f8,d8,IV⟩:=T.m_WordRow_take;have Jd:=cm (P:=P) (w:=w) (base:=base) T IV;obtain ⟨a_PAIR,c_PAIR_SORTS,k_PAIR⟩:=T.PAIR_SORTS;refine IW.F.okW gQ (fun vs H Q E h=>?_) (fun cdv A outer s H vs Q E hr h=>?_)
 ·obtain ⟨x,lw,ts,p,s,rfl,_⟩:=h
  rfl
 obtain ⟨x,lw,ts,p,s,rfl,hR,q⟩:=h;refine ⟨_,(@pss_cons _ _ _ _ _ (@ps_if _ _ _ _ _ _ _ _ (pt_cmpR op_eq (pv 1) pe_str (nomark _)) (@pss_one _ _ _ (@ps_ret _ _ _ _ (pe_call Kv (hr.mono (by first | decide | lia)) rfl Jw.m Jw.F.kp Jw.b .nil (wing_on rfl rfl rfl) (@pa1 _ _ _ (pv 0) (by rfl))))) pss_nil) (@pss_cons _ _ _ _ _ (@ps_if _ _ _ _ _ _ _ _ (pt_cmpR op_eq (pv 1) pe_str (nomark _)) (@pss_one _ _ _ (@ps_ret _ _ _ _ (pe_call KI (hr.mono (by first | decide | lia)) rfl JN.m JN.F.kp JN.b .nil (wing_on rfl rfl rfl) (@pa1 _ _ _ (pv 0) (by rfl))))) pss_nil) (@pss_cons _ _ _ _ _ (@ps_if _ _ _ _ _ _ _ _ (pt_cmpR op_eq (pv 1) pe_str (nomark _)) (@pss_one _ _ _ (@ps_ret _ _ _ _ (pe_call KJ (hr.mono (by first | decide | lia)) rfl JP.m JP.F.kp JP.b .nil (wing_on rfl rfl rfl) (@pa1 _ _ _ (pv 0) (by rfl))))) pss_nil) (@pss_cons _ _ _ _ _ (@ps_if _ _ _ _ _ _ _ _ (pt_cmpR op_eq (pv 1) pe_str (nomark _)) (@pss_one _ _ _ (@ps_ret _ _ _ _ (pe_call Kz (hr.mono (by first | decide | lia)) rfl JQ.m JQ.F.kp JQ.b .nil (wing_on rfl rfl rfl) (@pa3 _ _ _ _ _ _ _ (pv 0) pe_str (pe_meth (pv 0) T.c_WordRow IV.meth Jd (hr.mono (by first | decide | lia)) IV.b .nil (wing_on rfl rfl rfl) (@pa1 _ _ _ pe_str (by rfl))) (by rfl) (by rfl) (by rfl))))) pss_nil) (@pss_cons _ _ _ _ _ (@ps_if _ _ _ _ _ _ _ _ (pt_cmpR op_eq (pv 1) pe_str (nomark _)) (@pss_one _ _ _ (@ps_ret _ _ _ _ (pe_call Ka (hr.mono (by first | decide | lia)) rfl Jq.m Jq.F.kp Jq.b .nil (wing_on rfl rfl rfl) (@pa1 _ _ _ (pv 0) (by rfl))))) pss_nil) (@pss_cons _ _ _ _ _ (@ps_if _ _ _ _ _ _ _ _ (pt_cmpR op_eq (pv 1) pe_str (nomark _)) (@pss_cons _ _ _ _ _ (@ps_set _ _ 2 _ _ _ _ gQ.nd rfl (Or.inl rfl) (pe_call Ka (hr.mono (by first | decide | lia)) rfl Jq.m Jq.F.kp Jq.b .nil (wing_on rfl rfl rfl) (@pa1 _ _ _ (pv 0) (by rfl))) (by rfl) (.inl rfl)) (@pss_one _ _ _ (@ps_ret _ _ _ _ (@pe_tupPK _ K _ _ _ _ rfl (@pa2 _ _ _ _ _ (pv 2) (pe_call Jh (hr.mono (by first | decide | lia)) rfl IW.m IW.F.kp IW.b .nil (wing_on rfl rfl rfl) (@pa2 _ _ _ _ _ (pv 0) pe_str (by rfl) (by rfl))) (by rfl) (by rfl)))))) pss_nil) (@pss_cons _ _ _ _ _ (@ps_if _ _ _ _ _ _ _ _ (pt_cmpR (BC (K:=K) rfl) (pv 1) (dD rfl c_PAIR_SORTS) rfl) (@pss_one _ _ _ (@ps_ret _ _ _ _ (pe_call KC (hr.mono (by first | decide | lia)) rfl JB.m JB.F.kp JB.b .nil (wing_on rfl rfl rfl) (@pa2 _ _ _ _ _ (pv 0) (xz (K:=K) rfl (dD rfl c_PAIR_SORTS) (pv 1) (fun _ _=>rfl)) (by rfl) (by rfl))))) pss_nil) (@pss_one _ _ _ (@ps_ret _ _ _ _ (pe_meth (pv 0) T.c_WordRow IV.meth Jd (hr.mono (by first | decide | lia)) IV.b .nil (wing_on rfl rfl rfl) (@pa1 _ _ _ (pv 1) (by rfl)))))))))))),?_⟩;obtain ⟨dx,ws,hx,hl0,hp0,hlx0,h5⟩:=id hR;simp only [prs] at q;refine ⟨_,rfl,rfl,_,rfl,?_⟩
 by_cases h1:s= "value"
 ·rw [if_pos h1] at q;subst h1;exact fW ⟨_,rfl,x,lw,ts,p,rfl,hR,q⟩
 rw [if_neg h1] at q;refine dh (bS h1) ⟨_,rfl,rfl,_,rfl,?_⟩
 by_cases h2:s= "kind"
 ·rw [if_pos h2] at q;exact q.elim
 rw [if_neg h2] at q;refine dh (bS h2) ⟨_,rfl,rfl,_,rfl,?_⟩
 by_cases h3:s= "turn"
 ·rw [if_pos h3] at q;exact q.elim
 rw [if_neg h3] at q;refine dh (bS h3) ⟨_,rfl,rfl,_,rfl,?_⟩
 by_cases h4:s= "piece"
 ·rw [if_pos h4] at q;exact q.elim
 rw [if_neg h4] at q;refine dh (bS h4) ⟨_,rfl,rfl,_,rfl,?_⟩
 by_cases h5':s= "path"
 ·rw [if_pos h5'] at q;exact q.elim
 rw [if_neg h5'] at q;refine dh (bS h5') ⟨_,rfl,rfl,_,rfl,?_⟩
 by_cases h6:s= "change"
 ·rw [if_pos h6] at q;exact q.elim
 rw [if_neg h6] at q;refine dh (bS h6) ⟨_,rfl,s,a_PAIR,rR,rfl,rfl,k_PAIR,_,rfl,?_⟩
 cases hl:eG s rR with
 | some s' =>
  rw [hl] at q;exact aL ⟨_,rfl,_,rfl,s,a_PAIR,rR,s',rfl,rfl,k_PAIR,hl,x,lw,ts,p,s',rfl,hR,q⟩
 | none =>
  rw [hl] at q;refine aH ⟨_,rfl,x,dx,_,rfl,hx,aT lw p (by decide +kernel) (by decide +kernel),_,rfl,x,lw,ts,p,s,rfl,hR,fun e H' b' R'=>?_,fun e=>?_⟩
  ·dsimp only at q;unfold eR at q;rw [if_pos e] at q;exact q _ H' b' R' (vN _)
  ·dsimp only at q;unfold eR at q;rw [if_neg e] at q;exact q H (But.refl _ _)
theorem jZ (T:Tx K mg ad) {f:Addr} {fd:FuncData} (D:Gn K mg "part_read" bK ["row","sort"] f fd):∀ n,FnOk P w K mg base (CXE P w) (n+4) f fd ["row","sort"] (lP K ad n)
 | 0=>bu fun vs H Q E z=>by obtain ⟨_,_,_,_,_,_,_,h⟩:=z;exact h
 | 1=>bu fun vs H Q E z=>by obtain ⟨_,_,_,_,_,_,_,h⟩:=z;exact h
 | 2=>bu fun vs H Q E z=>by obtain ⟨_,_,_,_,_,_,_,h⟩:=z;exact h
 | n+3=>mV T n D (jZ T D n) (jZ T D (n+1))
def dj (n:Nat) (s:Str) (cs:List Nat):Option Dt:=match dI cs with
 | none=>none
 | some toks=>if fQ toks≤40 then (match prs (toks.map toTk) n s 0 with
  | .ok v q=>if am (toks.map toTk) q=kC then some v else none
  | _=>none) else none
def HQ (n:Nat) (s:Str) (cs:List Nat):Prop:=∀ toks,dI cs=some toks→fQ toks≤40→prs (toks.map toTk) n s 0≠.out
def pj (K:W.Frag) (ad:Ads):Sp:=fun vs H Q E=>∃ z s:Str,vs=[.str z,.str s]∧z.length≤100000∧HQ 40 s z.cps.toList∧(∀ v,dj 40 s z.cps.toList=some v→∀ y H',Same H H'→IsP K H' v y→Q y H')∧(dj 40 s z.cps.toList=none→∀ H',Same H H'→E (.ref ad.BadText) none H')
theorem pq (T:Tx K mg ad) {f:Addr} {fd:FuncData} (F:Gn K mg "read_all" gp ["text","sort"] f fd):FnOk P w K mg base (CXE P w) 45 f fd ["text","sort"] (pj K ad):=by
 obtain ⟨f1,d1,JA⟩:=T.m_WordRow_init;have Kk:=i3 (P:=P) (w:=w) (base:=base) T JA;obtain ⟨f2,d2,IW⟩:=T.part_read;have Jh:=jZ (P:=P) (w:=w) (base:=base) T IW 40;obtain ⟨f3,d3,IU⟩:=T.m_WordRow_coming;have Jb:=bj (P:=P) (w:=w) (base:=base) T IU;obtain ⟨c_END,s_END⟩:=T.END;refine F.F.okW fj (fun vs H Q E h=>?_) (fun cdv A outer s H vs Q E hr h=>?_)
 ·obtain ⟨z,s,rfl,_⟩:=h
  rfl
 obtain ⟨z,s,rfl,hz,ho,q1,q2⟩:=h;refine ⟨_,(@pss_cons _ _ _ _ _ (@ps_set _ _ 2 _ _ _ _ fj.nd rfl (Or.inl rfl) (wF JA.makes Kk (hr.mono (by first | decide | lia)) rfl T.o_WordRow JA.b .nil (wing_on rfl rfl rfl) (@pa1 _ _ _ (pv 0) (by rfl))) (by rfl) (.inl rfl)) (@pss_cons _ _ _ _ _ (@ps_set _ _ 3 _ _ _ _ fj.nd rfl (Or.inl rfl) (pe_call Jh (hr.mono (by first | decide | lia)) rfl IW.m IW.F.kp IW.b .nil (wing_on rfl rfl rfl) (@pa2 _ _ _ _ _ (pv 2) (pv 1) (by rfl) (by rfl))) (by rfl) (.inl rfl)) (@pss_cons _ _ _ _ _ (@ps_if _ _ _ _ _ _ _ _ (pt_cmpR (xi (K:=K) rfl hr.units) (pe_meth (pv 2) T.c_WordRow IU.meth Jb (hr.mono (by first | decide | lia)) IU.b .nil iL (@pa1 _ _ _ pe_int (by rfl))) (dD rfl c_END) (nomark _)) (@pss_one _ _ _ (ps_raiseW rfl rfl rfl rfl T.x_BadText rfl (@pa1 _ _ _ pe_str (by rfl)))) pss_nil) (@pss_one _ _ _ (@ps_ret _ _ _ _ (pv 3)))))),?_⟩;refine ⟨_,rfl,?_⟩;intro x dx nx ndx nex;have free:∀ {H':Hp},But x (upd (upd H dx (.own x)) x (.ins ad.WordRow dx [])) H'→Same H H':=fun b c o e=>b c o (ah e nx) (by rw [ag (ah e nx),ag (ah e ndx)];exact e);refine ⟨x,dx,z,rfl,ac,hz,fun toks hL hB l H1 hl b1 R1=>⟨rfl,?_⟩,fun h H1 g1=>q2 ?_ H1 (free (But.same g1))⟩
 ·have hno:=ho toks hL hB;refine ⟨_,rfl,_,rfl,x,l,_,0,s,rfl,R1,?_⟩;have hr':dj 40 s z.cps.toList=(match prs (toks.map toTk) 40 s 0 with
   | .ok v q=>if am (toks.map toTk) q=kC then some v else none
   | _=>none):=by
   unfold dj;rw [hL];dsimp only;rw [if_pos hB]
  revert hr' hno
  generalize prs (toks.map toTk) 40 s 0=r
  intro hno hr'
  cases r with
  | out=>exact absurd rfl hno
  | err=>exact fun H2 b2=>q2 hr' H2 (free (b1.trans b2))
  | ok v p =>
   intro y H2 b2 R2 hv;obtain ⟨dx2,ws2,hx2,_⟩:=id R2;refine ⟨_,rfl,x,dx2,_,rfl,hx2,aT l _ (by decide +kernel) (by decide +kernel),x,l,_,p,0,rfl,R2,fun v3 hv3=>?_⟩;rw [aCm] at hv3;refine ⟨tkD (am (toks.map toTk) p),tkD kC,hv3,.tup (s_END _ aAd H2) (.cons .str (.cons .str .nil)),vj _,_,rfl,?_⟩;rw [show eqD (tkD (am (toks.map toTk) p)) (tkD kC)=decide (am (toks.map toTk) p=kC) from vi _ _ (Sum.inr "")];dsimp only at hr'
   by_cases he:am (toks.map toTk) p=kC
   ·rw [if_pos he] at hr';rw [decide_eq_true he];exact aH ⟨_,rfl,q1 v hr' y H2 (free (b1.trans b2)) hv⟩
   ·rw [if_neg he] at hr';rw [decide_eq_false he];exact aL ⟨sz1,q2 hr' H2 (free (b1.trans b2))⟩
 ·unfold dj
  cases hL:dI z.cps.toList with
  | none=>rfl
  | some toks =>
   dsimp only;rw [if_neg (h toks hL)]
def cp (cs:List Nat):Option (List Tk):=(dI cs).map (List.map toTk)
theorem qN (r:List Nat):cp (32 :: r)=cp r:=by
 unfold cp;rw [jK];have e:cw (32 :: r)=some 1:=by
  simp only [cw];rw [if_neg (by decide),if_neg (by decide +kernel),if_neg (by decide +kernel)]
 rw [e]
 rfl
theorem tM (c:Nat) (w r:List Nat):(c :: (w++r)).take (w.length+1)=c :: w:=by simp
theorem tN (c:Nat) (w r:List Nat):(c :: (w++r)).drop (w.length+1)=r:=by simp
theorem gL {c:Nat} {w r:List Nat} {d:Dt} (hc:¬ c=32) (hw:cw (c :: (w++r))=some (w.length+1)) (hm:mkW (c :: w)=some d):cp (c :: (w++r))=(cp r).map (toTk d :: ·):=by
 unfold cp;rw [jK,hw];dsimp only;rw [if_neg hc,tM,tN,hm]
 cases dI r <;> rfl
theorem tO {c:Nat} (r:List Nat) (h:c∈[40,41,91,93,123,125,44,58,59,47]):cp (c :: r)=(cp r).map (aG ⟨#[c]⟩ :: ·):=by
 have key:¬ c=32∧¬ c=34∧¬ aC letS c=true∧¬ (c=45∨aC figS c=true)∧(!(Builtin.Str.occurrences marksS (bW [c]) 0 marksS.length 1).isEmpty)=true:=by
  revert c
  decide +kernel
 obtain ⟨a,b,c1,d,e⟩:=key;refine gL (w:=[]) (d:=mk2 "mark" (.str (bW [c]))) a ?_ (by unfold mkW;rw [if_pos e]);simp only [cw];rw [if_neg b,if_neg c1,if_neg d]
 rfl
theorem rS {L:Str} {w r:List Nat} (h:w.all (aC L)=true) (hr:∀ c,r.head?=some c→aC L c=false):bD L (w++r)=w.length:=by
 induction w with
 | nil =>
  cases r with
  | nil=>rfl
  | cons c r =>
   show bD L (c :: r)=0;unfold bD;rw [aA0,if_neg (by rw [hr c rfl];decide)]
   rfl
 | cons c w ih =>
  rw [aA9,aAs] at h;show bD L (c :: (w++r))=w.length+1;unfold bD;rw [aA0,if_pos h.1,aAe];exact congrArg Nat.succ (ih h.2)
theorem qO {c:Nat} (h:aC letS c=true):¬ c=34∧¬ c=32:=by
 constructor <;> (rintro rfl;revert h;decide +kernel)
theorem vP {c:Nat} (h:aC figS c=true):¬ c=34∧¬ c=32∧¬ aC letS c=true:=by
 have e:figS.cps.toList=[48,49,50,51,52,53,54,55,56,57]:=by decide +kernel
 have h':c∈[48,49,50,51,52,53,54,55,56,57]:=by
  rw [← e];exact of_decide_eq_true h
 clear h e
 revert c
 decide +kernel
theorem tP {c:Nat} {w r:List Nat} (h:(c :: w).all (aC letS)=true) (hr:∀ c,r.head?=some c→aC letS c=false):cw (c :: (w++r))=some (w.length+1):=by
 have hc:aC letS c=true:=by rw [aA9,aAs] at h;exact h.1
 simp only [cw];rw [if_neg (qO hc).1,if_pos hc];exact congrArg some (rS (w:=c :: w) h hr)
theorem tQ {c:Nat} {w r:List Nat} {d:Dt} (h:(c :: w).all (aC letS)=true) (hr:∀ c,r.head?=some c→aC letS c=false) (hm:mkW (c :: w)=some d):cp (c :: (w++r))=(cp r).map (toTk d :: ·) :=
 gL (by rw [aA9,aAs] at h;exact (qO h.1).2) (tP h hr) hm
theorem vQ {c:Nat} {w r:List Nat} (hc:c=45∨aC figS c=true) (h:w.all (aC figS)=true) (hr:∀ c,r.head?=some c→aC figS c=false):cw (c :: (w++r))=some (w.length+1):=by
 have n34:¬ c=34∧¬ c=32∧¬ aC letS c=true:=by
  rcases hc with rfl | hc
  ·decide +kernel
  ·exact vP hc
 simp only [cw];rw [if_neg n34.1,if_neg n34.2.2,if_pos hc,rS h hr,Nat.add_comm]
theorem tR {b r:List Nat} (h:b.all (fun c=>!(c == 34))=true):cw (34 :: ((b++[34])++r))=some ((b++[34]).length+1):=by
 simp only [cw];rw [if_pos trivial];have e:((b++[34])++r).findIdx? (· == 34)=some b.length:=by
  induction b with
  | nil=>rfl
  | cons c b ih =>
   rw [aA9,aAs] at h;have hc:(c == 34)=false:=by simpa using h.1
   show (c :: ((b++[34])++r)).findIdx? _=_;rw [aBS,hc,ih h.2]
   rfl
 rw [e,aAk]
 rfl
abbrev pz (s:Str):Tk:=(("word" : Str),Sum.inr s)
abbrev rV (s:Str):Tk:=(("text" : Str),Sum.inr s)
abbrev xE (n:Int):Tk:=(("number" : Str),Sum.inl n)
theorem vR {w:List Nat} {t:Tk} (h:(mkW w).map toTk=some t):∃ d,mkW w=some d∧toTk d=t:=aAh.mp h
def j3 (L:Str) (r:List Nat):Prop:=∀ c,r.head?=some c→aC L c=false
theorem BQ {c:Nat} {w r:List Nat} {t:Tk} (h:(c :: w).all (aC letS)=true) (hr:j3 letS r) (hm:(mkW (c :: w)).map toTk=some t):cp (c :: (w++r))=(cp r).map (t :: ·):=by
 obtain ⟨d,hd,rfl⟩:=vR hm;exact tQ h hr hd
theorem BR {c:Nat} {w r:List Nat} {t:Tk} (hc:c=45∨aC figS c=true) (h:w.all (aC figS)=true) (hr:j3 figS r) (hm:(mkW (c :: w)).map toTk=some t):cp (c :: (w++r))=(cp r).map (t :: ·):=by
 obtain ⟨d,hd,rfl⟩:=vR hm;exact gL (by
  rcases hc with rfl | hc
  ·decide
  ·exact (vP hc).2.1) (vQ hc h hr) hd
theorem BS {b r:List Nat} {t:Tk} (h:b.all (fun c=>!(c == 34))=true) (hm:(mkW (34 :: (b++[34]))).map toTk=some t):cp (34 :: ((b++[34])++r))=(cp r).map (t :: ·):=by
 obtain ⟨d,hd,rfl⟩:=vR hm;exact gL (by decide) (tR h) hd
theorem ni {L:Str} {c:Nat} {r:List Nat} (h:aC L c=false):j3 L (c :: r):=fun d hd=>by
 cases hd
 exact h
abbrev markL:List Str:=["(",")","[","]","{","}",",",":",";","/"]
def tokS (z:Str):Tk:=((mkW z.cps.toList).map toTk).getD kC
def pA (z:Str):Prop:=∀ r,j3 letS r→j3 figS r→cp (z.cps.toList++r)=(cp r).map (tokS z :: ·)
def HdM (ws:List Str):Prop:=∀ w,ws.head?=some w→w∈markL
inductive GL:List Str→Prop
 | nil:GL []
 | mark {m:Str} {ws:List Str}:m∈markL→GL ws→GL (m :: ws)
 | word {w:Str} {ws:List Str}:pA w→HdM ws→GL ws→GL (w :: ws)
def aM:List Str→List Nat→List Nat
 | w :: ws,b :: bs=>w.cps.toList++(List.replicate b 32++aM ws bs)
 | _,_=>[]
theorem cS (r:List Nat):∀ b:Nat,cp (List.replicate b 32++r)=cp r
 | 0=>rfl
 | b+1=>by
  rw [aBa,aB9,qN];exact cS r b
theorem cA:∀ m∈markL,tokS m=aG m∧∃ c∈[40,41,91,93,123,125,44,58,59,47],m=⟨#[c]⟩∧aC letS c=false∧aC figS c=false:=by decide +kernel
theorem vS {m:Str} (h:m∈markL) (r:List Nat):cp (m.cps.toList++r)=(cp r).map (tokS m :: ·):=by
 obtain ⟨e,c,hc,rfl,_⟩:=cA m h;rw [e];exact tO r hc
theorem vT {ws:List Str} (h:HdM ws):∀ (b:Nat) (bs:List Nat),j3 letS (List.replicate b 32++aM ws bs)∧j3 figS (List.replicate b 32++aM ws bs)
 | b+1,bs=>by
  rw [aBa,aB9];exact ⟨ni (by decide +kernel),ni (by decide +kernel)⟩
 | 0,bs=>by
  rw [List.replicate_zero,List.nil_append]
  cases ws with
  | nil=>exact ⟨(fun c h=>by cases h),fun c h=>by cases h⟩
  | cons w ws =>
   cases bs with
   | nil=>exact ⟨(fun c h=>by cases h),fun c h=>by cases h⟩
   | cons b bs =>
    obtain ⟨_,c,_,rfl,h1,h2⟩:=cA w (h w rfl);exact ⟨ni h1,ni h2⟩
theorem GL.lex {ws:List Str} (h:GL ws):∀ bs:List Nat,bs.length=ws.length→cp (aM ws bs)=some (ws.map tokS):=by
 induction h with
 | nil =>
  intro bs hb;obtain rfl:=aCb.mp hb
  rfl
 | mark hm h ih =>
  intro bs hb
  cases bs with
  | nil=>cases hb
  | cons b bs =>
   simp only [aM];rw [vS hm,cS,ih bs (Nat.succ.inj hb)]
   rfl
 | word hw hd h ih =>
  intro bs hb
  cases bs with
  | nil=>cases hb
  | cons b bs =>
   simp only [aM];obtain ⟨n1,n2⟩:=vT hd b bs;rw [hw _ n1 n2,cS,ih bs (Nat.succ.inj hb)]
   rfl
def GW (ws:List Str):Prop:=∀ r,HdM r→GL r→GL (ws++r)
def GM (ws:List Str):Prop:=∀ r,GL r→GL (ws++r)
theorem GM.gw {a:List Str} (h:GM a):GW a:=fun r _ g=>h r g
theorem GW.one {w:Str} (h:pA w):GW [w]:=fun _ hr g=>.word h hr g
theorem GM.one {m:Str} (h:m∈markL):GM [m]:=fun _ g=>.mark h g
theorem GW.mk {a:List Str} {m:Str} (h:GW a) (hm:m∈markL):GM (a++[m]):=fun r g=>by
 rw [aAZ];exact h _ (fun w e=>by cases e;exact hm) (.mark hm g)
theorem GM.app {a b:List Str} (h:GM a) (g:GM b):GM (a++b):=fun r k=>by
 rw [aAZ];exact h _ (g _ k)
theorem GM.then {a b:List Str} (h:GM a) (g:GW b):GW (a++b):=fun r hr k=>by
 rw [aAZ];exact h _ (g _ hr k)
theorem GW.gl {a:List Str} (h:GW a):GL a:=by
 have:=h [] (fun w e=>by cases e) .nil
 rwa [aA2] at this
def bA:List (List Str)→List Str
 | []=>[]
 | [x]=>x
 | x :: y :: r=>(x++[("," : Str)])++bA (y :: r)
theorem GW.sep:∀ {wss:List (List Str)},(∀ x∈wss,GW x)→GW (bA wss)
 | [],_=>fun _ _ g=>g
 | [x],h=>h x aAd
 | x :: y :: r,h=>((h x aAd).mk (m:= ",") (by decide +kernel)).then (GW.sep fun z hz=>h z (aAi _ hz))
def blk (w:Str):Nat:=if w= "," ∨w= ":" ∨w= ";" then 1 else 0
def bq (ws:List Str):List Nat:=aM ws (ws.map blk)
def aY (ws:List Str):Str:=bW (bq ws)
theorem cI (w:Str) (ws:List Str):bq (w :: ws)=(w.cps.toList++List.replicate (blk w) 32)++bq ws:=by
 unfold bq;rw [aAt];simp only [aM];rw [aAZ]
theorem cB:∀ (a b:List Str),bq (a++b)=bq a++bq b
 | [],_=>rfl
 | w :: a,b=>by
  rw [aB9,cI,cI,cB a b];simp only [aAZ]
theorem ir {w:Str} (h:blk w=0):bq [w]=w.cps.toList:=by
 rw [cI,h];show (_++[])++[]=_;rw [aA2,aA2]
theorem mW:bq ["("]=[40]∧bq [")"]=[41]∧bq [","]=[44,32]∧bq [":"]=[58,32]∧(Str.ofString ", ").cps.toList=[44,32]∧(Str.ofString ": ").cps.toList=[58,32]∧(Str.ofString "(").cps.toList=[40]∧(Str.ofString ")").cps.toList=[41]:=by decide +kernel
theorem bH (a b:Str):(a++b).cps.toList=a.cps.toList++b.cps.toList:=by
 show (a.cps++b.cps).toList=_;rw [aBP]
theorem cJ (cs:List Nat):(bW cs).cps.toList=cs:=rfl
theorem pB:∀ wss:List (List Str),(Str.join (Str.ofString ", ") (wss.map aY)).cps.toList=bq (bA wss)
 | []=>rfl
 | [x]=>rfl
 | x :: y :: r=>by
  have:=pB (y :: r);rw [aAt] at this;rw [aAt,aAt,PyProof.Rows.join_cons_cons,bH,bH,this];simp only [bA];rw [cB,cB,mW.2.2.1,mW.2.2.2.2.1]
  rfl
theorem qP {w:Str} (hw:blk w=0) (ws:List Str):w++Str.ofString ": " ++aY ws=aY ([w,":"]++ws):=by
 apply cv;show _=bq _;rw [bH,bH,cB,cI w [":"],hw,mW.2.2.2.1,mW.2.2.2.2.2.1];simp [aY,bW]
theorem j4 {c:Nat} {w:List Nat} (hc:aC marksS c=false):¬ (!(Builtin.Str.occurrences marksS (bW (c :: w)) 0 marksS.length 1).isEmpty)=true:=by
 rw [StrLaws.found_iff];rintro ⟨i,_,h2⟩;rw [StrLaws.subAt_eq,beq_iff_eq] at h2;have hm:c∈(marksS.cps.toList.drop i).take (bW (c :: w)).length:=by
  rw [h2];exact aAd
 have:=decide_eq_true (aBM (aBK hm));unfold aC at hc;rw [hc] at this
 cases this
theorem vU {c:Nat} (h:aC letS c=true):aC marksS c=false:=by
 have h':c∈letS.cps.toList:=of_decide_eq_true h
 clear h
 revert c
 decide +kernel
theorem pC {c:Nat} (h:c=45∨aC figS c=true):aC marksS c=false∧aC letS c=false∧c≠34:=by
 rcases h with rfl | h
 ·decide +kernel
 have h':c∈figS.cps.toList:=of_decide_eq_true h
 clear h
 revert c
 decide +kernel
def NmC (z:Str):Prop:=z.cps.toList.all (aC letS)=true∧1≤z.length∧z.length≤8
theorem NmC.tok {z:Str} (h:NmC z):(mkW z.cps.toList).map toTk=some (pz z):=by
 obtain ⟨h1,h2,h3⟩:=h;have hl:=aq z;have ez:=fu z
 cases e:z.cps.toList with
 | nil=>rw [e] at hl;simp at hl;lia
 | cons c w =>
  rw [e] at h1 hl ez;have hc:aC letS c=true:=by rw [aA9,aAs] at h1;exact h1.1
  unfold mkW;rw [if_neg (j4 (vU hc)),if_neg (fun x=>(qO hc).1 (Option.some.inj x.1)),if_pos ⟨⟨c,rfl,hc⟩,by lia⟩,ez]
  rfl
theorem NmC.tk {z:Str} (h:NmC z):tokS z=pz z:=by
 unfold tokS;rw [h.tok]
 rfl
theorem NmC.good {z:Str} (h:NmC z):pA z:=by
 intro r n1 _;have ht:=h.tok;rw [h.tk];obtain ⟨h1,h2,h3⟩:=h;have hl:=aq z
 cases e:z.cps.toList with
 | nil=>rw [e] at hl;simp at hl;lia
 | cons c w =>
  rw [e] at h1 ht;exact BQ h1 n1 ht
theorem NmC.bk {z:Str} (h:NmC z):blk z=0:=by
 unfold blk;refine if_neg ?_;rintro (rfl | rfl | rfl)
 ·exact absurd h.1 (by decide +kernel)
 ·exact absurd h.1 (by decide +kernel)
 ·exact absurd h.1 (by decide +kernel)
theorem iu {i:Int} (h:i.natAbs < 10 ^ 60):∃ c w,dG i=c :: w∧(c=45∨aC figS c=true)∧w.all (aC figS)=true∧((dG i).dropWhile (· == 45)).length≤60:=by
 have af:∀ {l:List Nat},NumText.AllDigits l→l.all (aC figS)=true:=fun {l} hd=>aAC.mpr fun c hc=>by
  have:=hd c hc;rw [show aC figS c=eL c from rj c ▸ (StrLaws.found_one figS c).symm];exact decide_eq_true this
 have hl:=qu 59 i.natAbs h;have hn:(dg i.natAbs).dropWhile (· == 45)=dg i.natAbs:=by
  cases e:dg i.natAbs with
  | nil=>rfl
  | cons d t =>
   have hd:=c8 i.natAbs d (by rw [e];exact aAd);rw [aBm,if_neg (by simp;lia)]
 by_cases hi:i < 0
 ·have e:dG i=45 :: dg i.natAbs:=by unfold dG;rw [if_pos hi]
  refine ⟨45,dg i.natAbs,e,.inl rfl,af (c8 _),?_⟩;rw [e,aBm,if_pos (by rfl),hn];exact hl
 ·have e:dG i=dg i.natAbs:=by unfold dG;rw [if_neg hi]
  cases ed:dg i.natAbs with
  | nil=>exact absurd ed (uR _)
  | cons d t =>
   have hall:=af (c8 i.natAbs);rw [ed,aA9,aAs] at hall;refine ⟨d,t,by rw [e,ed],.inr hall.1,hall.2,?_⟩;rw [e,hn];exact hl
theorem rW {i:Int} (h:i.natAbs < 10 ^ 60):(mkW (dG i)).map toTk=some (xE i):=by
 obtain ⟨c,w,e,hc,_,hl⟩:=iu h;obtain ⟨m1,m2,m3⟩:=pC hc;have hd:=xA i;rw [e] at hl hd ⊢;unfold mkW;rw [if_neg (j4 m1),if_neg (fun x=>m3 (Option.some.inj x.1)),if_neg (fun x=>by
  obtain ⟨⟨d,e1,e2⟩,_⟩:=x
  cases e1
  rw [m2] at e2
  cases e2),if_pos hl,hd]
 rfl
theorem eT {i:Int} (h:i.natAbs < 10 ^ 60):tokS (jF i)=xE i:=by
 unfold tokS;rw [gH,rW h]
 rfl
theorem vV {i:Int} (h:i.natAbs < 10 ^ 60):pA (jF i):=by
 intro r _ n2;rw [eT h,gH];have ht:=rW h;obtain ⟨c,w,e,hc,hw,hl⟩:=iu h;rw [e] at ht ⊢;exact BR hc hw n2 ht
theorem xF {i:Int} (h:i.natAbs < 10 ^ 60):blk (jF i)=0:=by
 unfold blk;obtain ⟨c,w,e,hc,hw,hl⟩:=iu h;have m1:=(pC hc).1;refine if_neg fun x=>?_;have key:∀ z:Str,(z= "," ∨z= ":" ∨z= ";")→∀ c w,z.cps.toList=c :: w→aC marksS c=true:=by
  rintro z (rfl | rfl | rfl) c w e
  ·rw [show c=44 from by cases e;rfl];decide +kernel
  ·rw [show c=58 from by cases e;rfl];decide +kernel
  ·rw [show c=59 from by cases e;rfl];decide +kernel
 have:=key _ x c w ((gH i).trans e);rw [m1] at this
 cases this
def upT (L:Str):Tk→Bool
 | (w,.inr s)=>decide (w= "mark") && !(Builtin.Str.occurrences L s 0 L.length 1).isEmpty
 | (_,.inl _)=>false
theorem ym (L:Str) (d:Dt):upB L d=upT L (toTk d):=by
 unfold upB toTk
 split <;> first | rfl | (rename_i h;split <;> first | rfl | (rename_i w s;exact absurd rfl (h w s)))
def stT (p:Int×Int) (t:Tk):Int×Int :=
 (if p.2+(if upT "([{" t=true then 1 else 0) - (if upT ")]}" t=true then 1 else 0) > p.1 then p.2+(if upT "([{" t=true then 1 else 0) - (if upT ")]}" t=true then 1 else 0) else p.1,
  p.2+(if upT "([{" t=true then 1 else 0) - (if upT ")]}" t=true then 1 else 0))
theorem HR (p:Int×Int) (d:Dt):eM p d=stT p (toTk d):=by
 unfold eM stT;rw [ym,ym]
theorem xG (toks:List Dt):fQ toks=((toks.map toTk).foldl stT (0,0)).1:=by
 unfold fQ;rw [List.foldl_map]
 congr 2
 funext p d
 exact HR p d
theorem vW (L s:Str):upT L (pz s)=false:=by
 show (decide (("word" : Str)= "mark") && !(Builtin.Str.occurrences L s 0 L.length 1).isEmpty)=false;rw [decide_eq_false (by decide +kernel)]
 rfl
theorem vX (L s:Str):upT L (rV s)=false:=by
 show (decide (("text" : Str)= "mark") && !(Builtin.Str.occurrences L s 0 L.length 1).isEmpty)=false;rw [decide_eq_false (by decide +kernel)]
 rfl
theorem xH (L:Str) (n:Int):upT L (xE n)=false:=rfl
theorem xI {p:Int×Int} {t:Tk} (h1:upT "([{" t=true) (h2:upT ")]}" t=false):stT p t=(max p.1 (p.2+1),p.2+1):=by
 unfold stT;rw [h1,h2];simp only [if_true,aAH,if_false]
 congr 1
 ·split <;> lia
 ·lia
theorem vY {p:Int×Int} {t:Tk} (h1:upT "([{" t=false) (h2:upT ")]}" t=true) (h:p.2≤p.1+1):stT p t=(p.1,p.2 - 1):=by
 unfold stT;rw [h1,h2];simp only [if_true,aAH,if_false]
 congr 1
 ·split <;> lia
 ·lia
theorem xJ {p:Int×Int} {t:Tk} (h1:upT "([{" t=false) (h2:upT ")]}" t=false) (h:p.2≤p.1):stT p t=p:=by
 unfold stT;rw [h1,h2];simp only [aAH,if_false];obtain ⟨a,b⟩:=p;simp at h ⊢;lia
theorem lQ {cs:List Nat} {ts:List Tk} (h:cp cs=some ts):∃ toks,dI cs=some toks∧toks.map toTk=ts:=aAh.mp h
theorem xK {cs:List Nat} {s:Str} {ts:List Tk} {v:Dt} {q:Nat} (h:cp cs=some ts) (hd:(ts.foldl stT (0,0)).1≤40) (hp:prs ts 40 s 0=.ok v q) (he:am ts q=kC):dj 40 s cs=some v∧HQ 40 s cs:=by
 obtain ⟨toks,hL,rfl⟩:=lQ h;rw [← xG] at hd
 constructor
 ·unfold dj;rw [hL];dsimp only;rw [if_pos hd,hp];dsimp only;rw [if_pos he]
 ·intro t ht _;rw [hL] at ht
  cases ht
  rw [hp];exact fun c=>by cases c
theorem cx {T:List Tk} {p:Nat} {t:Tk} {l:List Tk} (h:T.drop p=t :: l):am T p=t∧T.drop (p+1)=l∧p < T.length:=by
 have hp:p < T.length:=by
  have:=congrArg List.length h;rw [aAJ,aAe] at this;lia
 rw [aA6 hp] at h;injection h with h1 h2
 refine ⟨?_,h2,hp⟩;unfold am;rw [aAm hp,h1]
 rfl
theorem BU {T:List Tk} {p:Nat} (h:T.drop p=[]):am T p=kC:=by
 unfold am;rw [aBs (List.drop_eq_nil_iff.mp h)]
 rfl
theorem vZ {T:List Tk} {p:Nat} {a b:List Tk} (h:T.drop p=a++b):T.drop (p+a.length)=b:=by
 rw [← List.drop_drop,h,List.drop_left]
theorem pD:∀ (x:List Str) (xs:List (List Str)),bA (x :: xs)=x++xs.flatMap fun y=>("," : Str) :: y
 | x,[]=>by
  show x=x++[];rw [aA2]
 | x,y :: r=>by
  show (x++[("," : Str)])++bA (y :: r)=_;rw [pD y r,aAZ]
  rfl
abbrev Rd (T:List Tk) (rd:Nat→PR) (it:Dt×List Str):Prop:=∀ q r,T.drop q=it.2.map tokS++r→rd q=.ok it.1 (q+it.2.length)
abbrev dU (its:List (Dt×List Str)):List Str:=its.flatMap fun it=>("," : Str) :: it.2
theorem BV:tokS "," = aG "," :=(cA "," (by decide +kernel)).1
theorem pE {T:List Tk} {rd:Nat→PR} {cl:Str} (hc:cl∈markL) (hn:¬ ("," : Str)=cl):∀ (its:List (Dt×List Str)) (m p:Nat) (fs:List Dt) (rest:List Tk),its.length < m→(∀ it∈its,Rd T rd it)→0 < fs.length→T.drop p=(dU its++[cl]).map tokS++rest →
  cR T rd cl m p fs=.ok (.tup (fs++its.map (·.1))) (p+(dU its).length+1)
 | _,0,_,_,_,h,_,_,_=>absurd h (aBL _)
 | [],m+1,p,fs,rest,h,hr,h0,hT=>by
  obtain ⟨e1,_,_⟩:=cx (t:=tokS cl) (l:=rest) hT;simp only [cR];rw [e1,(cA cl hc).1,if_pos rfl,aBw,aA2]
  rfl
 | it :: its,m+1,p,fs,rest,h,hr,h0,hT=>by
  have e0:(dU (it :: its)++[cl]).map tokS++rest=tokS "," :: (it.2.map tokS++((dU its++[cl]).map tokS++rest)):=by
   simp [dU]
  rw [e0] at hT;obtain ⟨e1,hT1,_⟩:=cx hT;rw [BV] at e1;have hr1:=hr it aAd (p+1) _ hT1;have hT2:=vZ hT1;rw [aAa] at hT2;simp only [cR];rw [e1,if_neg (fun c=>hn (by injection c with _ c;injection c)),if_pos h0,fB e1,hr1];show cR T rd cl m _ (fs++[it.1])=_;rw [pE hc hn its m (p+1+it.2.length) (fs++[it.1]) rest (Nat.lt_of_succ_lt_succ h) (fun x hx=>hr x (aAi _ hx)) (by simp) hT2]
  congr 1
  ·simp
  ·simp only [dU,aBZ,aAk,aAe];lia
theorem wa {T:List Tk} {p:Nat} {a b:List Tk} (h:T.drop p=a++b):a.length≤T.length:=by
 have:=congrArg List.length h;rw [aAJ,aAk] at this;lia
theorem wc (its:List (Dt×List Str)):its.length≤(dU its).length:=by
 induction its with
 | nil=>exact aAx _
 | cons it its ih=>simp only [dU,aBZ,aAk,aAe] at ih ⊢;lia
theorem j5 {T:List Tk} {rd:Nat→PR} {cl:Str} (hc:cl∈markL) (hn:¬ ("," : Str)=cl) {its:List (Dt×List Str)} {p:Nat} {rest:List Tk} (hr:∀ it∈its,Rd T rd it) (hh:∀ it∈its,∃ w r,it.2=w :: r∧¬ tokS w=aG cl)
  (hT:T.drop p=(bA (its.map (·.2))++[cl]).map tokS++rest):jM T rd cl p=.ok (.tup (its.map (·.1))) (p+(bA (its.map (·.2))).length+1):=by
 unfold jM
 cases its with
 | nil =>
  obtain ⟨e1,_,_⟩:=cx (t:=tokS cl) (l:=rest) hT;simp only [cR];rw [e1,(cA cl hc).1,if_pos rfl]
  rfl
 | cons it its =>
  have es:bA ((it :: its).map (·.2))=it.2++dU its:=by
   rw [aAt,pD];simp [dU,List.flatMap_map]
  have hlen:=wa hT;rw [es] at hT hlen ⊢;have e0:((it.2++dU its)++[cl]).map tokS++rest=it.2.map tokS++((dU its++[cl]).map tokS++rest):=by simp
  rw [e0] at hT;obtain ⟨w,r,ew,hw⟩:=hh it aAd;have hr1:=hr it aAd p _ hT;have hT2:=vZ hT;rw [aAa] at hT2;rw [ew] at hT;obtain ⟨e1,_,_⟩:=cx hT;have tl:=wc its;simp only [aAa,aAk,aAe,aAI] at hlen;simp only [cR];rw [e1,if_neg hw,if_neg (show ¬ 0 < ([]:List Dt).length by decide),hr1];show cR T rd cl T.length _ ([]++[it.1])=_;rw [pE hc hn its T.length _ _ rest (by lia) (fun x hx=>hr x (aAi _ hx)) (by simp) hT2]
  congr 1
  simp only [aAk];lia
theorem pF {z:Str} (h:cu z=true):1≤z.length∧z.length≤8:=by
 unfold cu at h;simp only [aAs,decide_eq_true_eq] at h;exact ⟨h.1.1.1,h.1.1.2⟩
theorem sZ2 {a b:Dt} (ha:Sz a) (hb:Sz b):Sz (.tup [a,b]):=.tup (fun x hx=>by
 rcases aAp.mp hx with rfl | hx
 ·exact ha
 ·obtain rfl:=aAE.mp hx;exact hb) (by show 2≤20;decide)
theorem mX {w:Str} {l:List Dt} (hw:w.length≤100) (h:∀ x∈l,Sz x) (hl:l.length≤20):Sz (.tup [.str w,.tup l]):=sZ2 (.str w hw) (.tup h hl)
theorem rX {B:Nat}:∀ {l:List Dt},(∀ x∈l,x.dep≤B)→dE l≤B
 | [],_=>aAx _
 | d :: l,h=>by
  simp only [dE];have h1:=h d aAd;have h2:=rX fun x hx=>h x (aAi _ hx);lia
theorem j6 {B:Nat} {w:Str} {l:List Dt} (h:∀ x∈l,x.dep≤B):(Dt.tup [.str w,.tup l]).dep≤B+2:=by
 have:=rX h;simp only [Dt.dep,dE];lia
theorem j7 {ws:List Str} (hw:eI ws=true):∀ z∈ws,cu z=true:=by
 unfold eI at hw;simp only [aAs] at hw;exact aAC.mp hw.1.2
theorem HS:∀ {a c:Nat} {d:Dt},FK a c d→∀ {e:Dt},FV d e→Sz e∧e.dep≤3*a:=by
 intro a c d h
 induction h with
 | text i h0 h1 =>
  intro e hv
  cases hv with
  | text hl ok=>exact ⟨.str _ (by lia),aAx _⟩
 | choice ws hw ho =>
  intro e hv
  generalize he:ws.map Dt.str=l at hv
  cases hv with
  | @choice ws' z hz =>
   have:z∈ws:=by
    have hz':Dt.str z∈ws'.map Dt.str:=aAr.mpr ⟨z,hz,rfl⟩;rw [← he] at hz';obtain ⟨y,hy,e⟩:=aAr.mp hz';rw [← Dt.str.inj e];exact hy
   exact ⟨.str _ (by have:=(pF (j7 hw z this)).2;lia),aAx _⟩
 | number i j h0 h1 h2 =>
  intro e hv
  cases hv with
  | number _ _=>exact ⟨.int _,aAx _⟩
 | list hk h0 h1 ih =>
  intro e hv
  cases hv with
  | list hvs hl =>
   exact ⟨mX (by decide +kernel) (fun x hx=>(ih (hvs x hx)).1) (by lia),by have:=j6 (w:= "list") fun x hx=>(ih (hvs x hx)).2;lia⟩
 | rows hk kl h0 h1 ih =>
  intro e hv
  cases hv with
  | rows hvs hl _ =>
   exact ⟨mX (by decide +kernel) (fun x hx=>(ih (hvs x hx)).1) (by lia),by have:=j6 (w:= "rows") fun x hx=>(ih (hvs x hx)).2;lia⟩
 | @rcd gs hg hs hn h8 ih =>
  intro e hv;have e1:gs.map prG=(gs.map nk).map prD:=by rw [aAL];rfl
  rw [e1] at hv
  generalize he:(gs.map nk).map prD=l at hv
  cases hv with
  | @rcd fs gs' hnm hv =>
   have ef:=mP he;subst ef;have len:gs'.length=gs.length:=by have:=congrArg List.length hnm;simpa using this
   have each:∀ x∈gs'.map prD,Sz x∧x.dep≤3*ck (gs.map (·.2.2.1))+1:=by
    intro x hx;obtain ⟨g,hg',rfl⟩:=aAr.mp hx;obtain ⟨i,hi⟩:=aBu hg';have il:i < gs.length:=by have:=(aAc.mp hi).1;lia
    have hgi:gs[i]?=some gs[i]:=aAm il;have hfi:(gs.map nk)[i]?=some (nk gs[i]):=by rw [aAg,hgi];rfl
    have v1:=hv i _ _ hfi hi;have m1:gs[i]∈gs:=aBt il;have r1:=ih _ m1 v1;have mx:gs[i].2.2.1≤ck (gs.map (·.2.2.1)):=eK (aAr.mpr ⟨_,m1,rfl⟩);have nm:g.1=gs[i].1:=by
     have h1:(gs'.map (·.1))[i]?=some g.1:=by rw [aAg,hi];rfl
     rw [hnm,aAg,hfi] at h1;exact (Option.some.inj h1).symm
    refine ⟨sZ2 (.str _ (by rw [nm];have:=(pF (hn _ m1).1).2;lia)) r1.1,?_⟩;have:=r1.2;simp only [prD,Dt.dep,dE];lia
   refine ⟨mX (by decide +kernel) (fun x hx=>(each x hx).1) (by rw [aAa];lia),?_⟩;have:=j6 (w:= "record") fun x hx=>(each x hx).2;lia
theorem wg {fs:List (Str×Dt)} {e:Dt} (h:FV (.tup [.str "record",.tup (fs.map prD)]) e):∃ gs:List (Str×Dt),e=.tup [.str "record",.tup (gs.map prD)]∧gs.map (·.1)=fs.map (·.1)∧∀ (i:Nat) (f g:Str×Dt),fs[i]?=some f→gs[i]?=some g→FV f.2 g.2:=by
 generalize he:fs.map prD=l at h
 cases h with
 | @rcd fs' gs hnm hv =>
  have ef:=mP he;subst ef;exact ⟨gs,rfl,hnm,hv⟩
theorem wj {l:List Dt} (h:Asc l):vC l=true:=by
 unfold vC;rw [aBl];refine aAC.mpr fun p hp=>?_;obtain ⟨i,hi⟩:=aBu hp;obtain ⟨h1,h2⟩:=aA1.mp hi;rw [List.getElem?_drop] at h2;rcases h with ⟨ns,rfl,pw⟩ | ⟨ss,rfl,pw⟩
 ·rw [aAg] at h1 h2;obtain ⟨x,hx,e1⟩:=aAh.mp h1;obtain ⟨y,hy,e2⟩:=aAh.mp h2;obtain ⟨ix,rfl⟩:=aAc.mp hx;obtain ⟨iy,rfl⟩:=aAc.mp hy;have:=aB2.mp pw i (1+i) ix iy (by lia);show ltD p.1 p.2=true;rw [← e1,← e2];exact decide_eq_true this
 ·rw [aAg] at h1 h2;obtain ⟨x,hx,e1⟩:=aAh.mp h1;obtain ⟨y,hy,e2⟩:=aAh.mp h2;obtain ⟨ix,rfl⟩:=aAc.mp hx;obtain ⟨iy,rfl⟩:=aAc.mp hy;have:=aB2.mp pw i (1+i) ix iy (by lia);show ltD p.1 p.2=true;rw [← e1,← e2];exact decide_eq_true this
theorem HU:∀ {a c:Nat} {d:Dt},FK a c d→∀ {e:Dt},FV d e→∀ n,a≤n→ofN n d e=true:=by
 intro a c d h
 induction h with
 | text i h0 h1 =>
  intro e hv n hn;obtain ⟨n,rfl⟩:∃ m,n=m+1:=⟨n - 1,by lia⟩
  cases hv with
  | @text _ z hl ok =>
   rw [mO];show (decide ((z.length:Int)≤i) && z.cps.toList.all okC)=true;rw [decide_eq_true hl,aAU];exact aAC.mpr ok
 | choice ws hw ho =>
  intro e hv n hn;obtain ⟨n,rfl⟩:∃ m,n=m+1:=⟨n - 1,by lia⟩;rw [lL]
  generalize he:ws.map Dt.str=l at hv ⊢
  cases hv with
  | @choice ws' z hz=>exact aB4.mpr ⟨.str z,aAr.mpr ⟨z,hz,rfl⟩,a7 _⟩
 | number i j h0 h1 h2 =>
  intro e hv n hn;obtain ⟨n,rfl⟩:∃ m,n=m+1:=⟨n - 1,by lia⟩
  cases hv with
  | @number _ _ x a1 a2 =>
   rw [ip];show (decide (i≤x) && decide (x≤j))=true;rw [decide_eq_true a1,decide_eq_true a2]
   rfl
 | @list _ _ k i hk h0 h1 ih =>
  intro e hv n hn;obtain ⟨n,rfl⟩:∃ m,n=m+1:=⟨n - 1,by lia⟩
  cases hv with
  | @list _ _ vs hvs hl =>
   rw [rJ];show (eqD (.str "list") (.str "list") && (decide ((vs.length:Int)≤i) && vs.all (ofN n k)))=true;rw [a7,decide_eq_true hl,aAU,aAU];exact aAC.mpr fun x hx=>ih (hvs x hx) n (by lia)
 | @rows _ _ z l i hk kl h0 h1 ih =>
  intro e hv n hn;obtain ⟨n,rfl⟩:∃ m,n=m+1:=⟨n - 1,by lia⟩
  cases hv with
  | @rows _ _ _ vs hvs hl asc =>
   rw [rK];show ((eqD (.str "rows") (.str "rows") && (decide ((vs.length:Int)≤i) && vs.all (ofN n (.tup [.str "record",.tup l])))) && vC (vs.map fun v=>fJ v z))=true;rw [a7,decide_eq_true hl,wj asc,aAU,aAU,Bool.and_true];exact aAC.mpr fun x hx=>ih (hvs x hx) n (by lia)
 | @rcd gs hg hs hn' h8 ih =>
  intro e hv n hn;obtain ⟨n,rfl⟩:∃ m,n=m+1:=⟨n - 1,by lia⟩;have e1:gs.map prG=(gs.map nk).map prD:=by rw [aAL];rfl
  rw [e1] at hv ⊢;obtain ⟨ks,rfl,hnm,hv⟩:=wg hv;have len:ks.length=gs.length:=by have:=congrArg List.length hnm;simpa using this
  rw [iq];show (eqD (.str "record") (.str "record") && (decide ((ks.map prD).length=((gs.map nk).map prD).length) && ((ks.map prD).zip ((gs.map nk).map prD)).all (prF (ofN n))))=true;rw [a7,decide_eq_true (by simp only [aAa];exact len),aAU,aAU];refine aAC.mpr fun p hp=>?_;obtain ⟨i,hi⟩:=aBu hp;obtain ⟨h1,h2⟩:=aA1.mp hi;rw [aAg] at h1 h2;obtain ⟨x,hx,ex⟩:=aAh.mp h1;obtain ⟨y,hy,ey⟩:=aAh.mp h2;have v1:=hv i y x hy hx;have hy':=hy;rw [aAg] at hy';obtain ⟨g,hgi,eg⟩:=aAh.mp hy';have m1:g∈gs:=aAn hgi;have mx:g.2.2.1≤ck (gs.map (·.2.2.1)):=eK (aAr.mpr ⟨_,m1,rfl⟩);subst eg;have r1:=ih _ m1 v1 n (by lia);have nm:x.1=(nk g).1:=by
   have q1:(ks.map (·.1))[i]?=some x.1:=by rw [aAg,hx];rfl
   rw [hnm,aAg,hy] at q1;exact (Option.some.inj q1).symm
  obtain ⟨p1,p2⟩:=p;subst ex;subst ey;show (eqD (.str x.1) (.str (nk g).1) && ofN n (nk g).2 x.2)=true;rw [nm,a7,aAU];exact r1
def quo (z:Str):Str:=Str.ofString "\"" ++z++Str.ofString "\""
theorem rY:(Str.ofString "\"").cps.toList=[34]∧(Str.ofString "\"").length=1:=by decide +kernel
theorem mY (z:Str):(quo z).cps.toList=34 :: (z.cps.toList++[34]):=by
 unfold quo;rw [bH,bH,rY.1]
 rfl
theorem rZ (z:Str):(quo z).length=z.length+2:=by
 unfold quo;rw [aAu,aAu,rY.2];lia
theorem sh {z:Str} (h:okT z):(mkW (34 :: (z.cps.toList++[34]))).map toTk=some (rV z):=by
 have e:((34 :: (z.cps.toList++[34])).drop 1).dropLast=z.cps.toList:=by simp
 unfold mkW;rw [e,if_neg (j4 (by decide +kernel)),if_pos ⟨rfl,aAC.mpr h⟩,fu]
 rfl
theorem eU {z:Str} (h:okT z):tokS (quo z)=rV z:=by
 unfold tokS;rw [mY,sh h]
 rfl
theorem wk {z:Str} (h:okT z):pA (quo z):=by
 intro r _ _;rw [eU h,mY];exact BS (aAC.mpr fun c hc=>by
  have:=h c hc;unfold okC at this;simp only [aAs,aBY,decide_eq_false_iff_not] at this
  simpa using this.1.2) (sh h)
theorem xL (z:Str):blk (quo z)=0:=by
 unfold blk;refine if_neg fun x=>?_;have key:∀ y:Str,(y= "," ∨y= ":" ∨y= ";")→y.cps.toList.head?≠some 34:=by
  rintro y (rfl | rfl | rfl) <;> decide +kernel
 exact key _ x (by rw [mY];rfl)
def enc (a:Str) (ws:List Str) (b:Str):List Str:=([a]++ws)++[b]
theorem jg (a:Str) (ws:List Str) (b:Str):(enc a ws b).length=ws.length+2:=by simp [enc]
theorem GW.en {a b:Str} {ws:List Str} (ha:a∈markL) (hb:b∈markL) (h:GW ws):GM (enc a ws b):=((GM.one ha).then h).mk hb
abbrev G3:=Str×Dt×List Str
abbrev pr3 (g:G3):Dt:=.tup [.str g.1,g.2.1]
abbrev fw3 (g:G3):List Str:=[g.1,":"]++g.2.2
inductive VW:Nat→Dt→List Str→Prop
 | int (n:Nat) (i:Int):i.natAbs < 10 ^ 35→VW n (.int i) [jF i]
 | str (n:Nat) (z:Str):okT z→z.length≤60→VW n (.str z) [quo z]
 | list {n:Nat} {its:List (Dt×List Str)}:its.length≤8→(∀ it∈its,VW n it.1 it.2)→VW (n+1) (mk2 "list" (.tup (its.map (·.1)))) (enc "[" (bA (its.map (·.2))) "]")
 | rows {n:Nat} {its:List (Dt×List Str)}:its.length≤8→(∀ it∈its,VW n it.1 it.2)→VW (n+1) (mk2 "rows" (.tup (its.map (·.1)))) (enc "(" (bA (its.map (·.2))) ")")
 | rcd {n:Nat} {gs:List G3}:gs.length≤8→(∀ g∈gs,NmC g.1)→(∀ g∈gs,VW n g.2.1 g.2.2)→VW (n+1) (mk2 "record" (.tup (gs.map pr3))) (enc "{" (bA (gs.map fw3)) "}")
theorem cC {i:Int} (h:i.natAbs < 10 ^ 35):i.natAbs < 10 ^ 60:=aAj h (by decide +kernel)
theorem VW.gw {n:Nat} {d:Dt} {ws:List Str} (h:VW n d ws):GW ws:=by
 induction h with
 | int n i hi=>exact GW.one (vV (cC hi))
 | str n z hz _=>exact GW.one (wk hz)
 | list h8 hk ih=>exact (GW.en (by decide +kernel) (by decide +kernel) (GW.sep fun x hx=>by
   obtain ⟨it,h,rfl⟩:=aAr.mp hx;exact ih it h)).gw
 | rows h8 hk ih=>exact (GW.en (by decide +kernel) (by decide +kernel) (GW.sep fun x hx=>by
   obtain ⟨it,h,rfl⟩:=aAr.mp hx;exact ih it h)).gw
 | rcd h8 hz hk ih=>exact (GW.en (by decide +kernel) (by decide +kernel) (GW.sep fun x hx=>by
   obtain ⟨g,h,rfl⟩:=aAr.mp hx;exact (GW.mk (a:=[g.1]) (m:= ":") (GW.one (hz g h).good) (by decide +kernel)).then (ih g h))).gw
def BD (n:Nat) (ws:List Str):Prop:=∀ p:Int×Int,p.2≤p.1→((ws.map tokS).foldl stT p).2=p.2∧p.1≤((ws.map tokS).foldl stT p).1∧((ws.map tokS).foldl stT p).1≤max p.1 (p.2+n)
theorem BD.nil (n:Nat):BD n []:=fun p _=>⟨rfl,aBD _,by show p.1≤_;lia⟩
theorem BD.app {n:Nat} {a b:List Str} (h:BD n a) (g:BD n b):BD n (a++b):=fun p hp=>by
 obtain ⟨h1,h2,h3⟩:=h p hp;rw [aAo,aBA];obtain ⟨g1,g2,g3⟩:=g ((a.map tokS).foldl stT p) (by lia);lia
theorem BD.flat {n:Nat} {w:Str} (h1:upT "([{" (tokS w)=false) (h2:upT ")]}" (tokS w)=false):BD n [w]:=fun p hp=>by
 show (stT p (tokS w)).2=_∧_≤(stT p (tokS w)).1∧(stT p (tokS w)).1≤_;rw [xJ h1 h2 hp];lia
theorem BD.sep {n:Nat}:∀ {wss:List (List Str)},(∀ x∈wss,BD n x)→BD n (bA wss)
 | [],_=>BD.nil n
 | [x],h=>h x aAd
 | x :: y :: r,h=>((h x aAd).app (BD.flat (w:= ",") (by decide +kernel) (by decide +kernel))).app (BD.sep fun z hz=>h z (aAi _ hz))
theorem NmC.bd {n:Nat} {z:Str} (h:NmC z):BD n [z]:=by
 refine BD.flat ?_ ?_ <;> (rw [h.tk];exact vW _ _)
theorem BW {n:Nat} {i:Int} (h:i.natAbs < 10 ^ 60):BD n [jF i]:=by
 refine BD.flat ?_ ?_ <;> (rw [eT h];exact xH _ _)
theorem BX {n:Nat} {z:Str} (h:okT z):BD n [quo z]:=by
 refine BD.flat ?_ ?_ <;> (rw [eU h];exact vX _ _)
theorem BD.en {n:Nat} {a b:Str} {ws:List Str} (a1:upT "([{" (tokS a)=true) (a2:upT ")]}" (tokS a)=false) (b1:upT "([{" (tokS b)=false) (b2:upT ")]}" (tokS b)=true) (h:BD n ws):BD (n+1) (enc a ws b):=fun p hp=>by
 unfold enc;rw [aAo,aAo,aBA,aBA];have e1:([a].map tokS).foldl stT p=(max p.1 (p.2+1),p.2+1):=xI a1 a2;rw [e1];obtain ⟨g1,g2,g3⟩:=h (max p.1 (p.2+1),p.2+1) (by show p.2+1≤max p.1 (p.2+1);lia)
 revert g1 g2 g3
 generalize (ws.map tokS).foldl stT (max p.1 (p.2+1),p.2+1)=r
 intro g1 g2 g3;have e2:([b].map tokS).foldl stT r=(r.1,r.2 - 1):=vY b1 b2 (by dsimp only at g1 g2 g3;lia);rw [e2];dsimp only at g1 g2 g3 ⊢;lia
theorem VW.bd {n:Nat} {d:Dt} {ws:List Str} (h:VW n d ws):BD n ws:=by
 induction h with
 | int n i hi=>exact BW (cC hi)
 | str n z hz _=>exact BX hz
 | list h8 hk ih=>exact BD.en (by decide +kernel) (by decide +kernel) (by decide +kernel) (by decide +kernel) (BD.sep fun x hx=>by
   obtain ⟨it,h,rfl⟩:=aAr.mp hx;exact ih it h)
 | rows h8 hk ih=>exact BD.en (by decide +kernel) (by decide +kernel) (by decide +kernel) (by decide +kernel) (BD.sep fun x hx=>by
   obtain ⟨it,h,rfl⟩:=aAr.mp hx;exact ih it h)
 | rcd h8 hz hk ih=>exact BD.en (by decide +kernel) (by decide +kernel) (by decide +kernel) (by decide +kernel) (BD.sep fun x hx=>by
   obtain ⟨g,h,rfl⟩:=aAr.mp hx;exact ((hz g h).bd.app (BD.flat (w:= ":") (by decide +kernel) (by decide +kernel))).app (ih g h))
theorem HV (z m:Str):¬ pz z=aG m:=fun c=>absurd (show (Str.ofString "word")=Str.ofString "mark" from congrArg Prod.fst c) (by decide +kernel)
theorem tS {T:List Tk} {p:Nat} {z:Str} {f:Str→Nat→PR} (h:am T p=pz z):lO T p f=f z (p+1):=by
 unfold lO;rw [h];exact if_pos rfl
def bc (ws:List Str):Nat:=(ws.map fun w=>w.length+3).sum
theorem bE (a b:List Str):bc (a++b)=bc a+bc b:=by simp [bc]
theorem bv (w:Str) (a:List Str):bc (w :: a)=w.length+3+bc a:=by simp [bc]
theorem eV (ws:List Str):ws.length≤bc ws:=by
 induction ws with
 | nil=>exact aAl _
 | cons w ws ih=>rw [bv,aAe];lia
theorem pG {w:Str} {ws:List Str} (h:w∈ws):w.length+3≤bc ws:=by
 induction ws with
 | nil=>cases h
 | cons x ws ih =>
  rw [bv];rcases aAp.mp h with rfl | h
  ·lia
  ·have:=ih h;lia
theorem HW:(Str.ofString ",").length=1∧(Str.ofString "(").length=1∧(Str.ofString ")").length=1∧(Str.ofString ":").length=1:=by decide +kernel
theorem gM:∀ wss:List (List Str),bc (bA wss)≤(wss.map fun x=>bc x+4).sum
 | []=>aAl _
 | [x]=>by simp [bA]
 | x :: y :: r=>by
  have:=gM (y :: r);simp only [bA];rw [bE,bE,bv,HW.1,aAt,aBv];simp only [bc,aBw,List.sum_nil] at this ⊢;lia
theorem gh:∀ (ws:List Str) (bs:List Nat),(∀ b∈bs,b≤2)→(aM ws bs).length≤bc ws
 | [],_,_=>by simp [aM]
 | _ :: _,[],_=>by simp [aM]
 | w :: ws,b :: bs,h=>by
  have:=gh ws bs fun x hx=>h x (aAi _ hx);have hb:=h b aAd;simp only [aM];rw [aAk,aAk,aAP,bv,aq];lia
theorem pH {z:Str} (h:cu z=true):NmC z:=by
 unfold cu at h;simp only [aAs,decide_eq_true_eq] at h;refine ⟨?_,h.1.1.1,h.1.1.2⟩;rw [← h.2]
 congr 1
 funext c
 exact (StrLaws.found_one letS c).symm
theorem xM {i:Int} (h:i.natAbs < 10 ^ 35):(jF i).length≤36:=by
 rw [← aq,gH];have:=qu 34 i.natAbs h;unfold dG
 split
 ·rw [aAe];lia
 ·lia
theorem HX {i:Int} (h1:-1000000000000000000000000000000≤i) (h2:i≤1000000000000000000000000000000):i.natAbs < 10 ^ 35:=aBp (show i.natAbs≤1000000000000000000000000000000 by lia) (by decide +kernel)
theorem dm (T:List Tk) (n p:Nat):prs T (n+3) "value" p=cn T (prs T n) p:=by
 simp only [prs];rw [if_pos trivial]
theorem tT (T:List Tk) (n p:Nat):prs T (n+3) "entry" p=rQ T (prs T (n+1)) "value" p:=by
 simp only [prs];rw [if_neg (by decide +kernel),if_neg (by decide +kernel),if_neg (by decide +kernel),if_neg (by decide +kernel),if_neg (by decide +kernel),if_neg (by decide +kernel)]
 rfl
theorem pI (i:Int) (m:Str):¬ xE i=aG m:=fun c=>absurd (show (Str.ofString "number")=Str.ofString "mark" from congrArg Prod.fst c) (by decide +kernel)
theorem pJ (z m:Str):¬ rV z=aG m:=fun c=>absurd (show (Str.ofString "text")=Str.ofString "mark" from congrArg Prod.fst c) (by decide +kernel)
theorem VW.head {n:Nat} {d:Dt} {ws:List Str} (h:VW n d ws):∃ w r,ws=w :: r∧¬ tokS w=aG "]" ∧¬ tokS w=aG ")" :=by
 cases h with
 | int _ _ hi=>exact ⟨_,_,rfl,by rw [eT (cC hi)];exact pI _ _,by rw [eT (cC hi)];exact pI _ _⟩
 | str _ _ hz _=>exact ⟨_,_,rfl,by rw [eU hz];exact pJ _ _,by rw [eU hz];exact pJ _ _⟩
 | list=>exact ⟨_,_,rfl,by decide +kernel,by decide +kernel⟩
 | rows=>exact ⟨_,_,rfl,by decide +kernel,by decide +kernel⟩
 | rcd=>exact ⟨_,_,rfl,by decide +kernel,by decide +kernel⟩
theorem j8 {T:List Tk} {p:Nat} {a b:Str} {ws:List Str} {rest:List Tk} (hT:T.drop p=(enc a ws b).map tokS++rest):am T p=tokS a∧T.drop (p+1)=(ws++[b]).map tokS++rest:=by
 have e0:(enc a ws b).map tokS++rest=tokS a :: ((ws++[b]).map tokS++rest):=by simp [enc]
 rw [e0] at hT;obtain ⟨e1,hT1,_⟩:=cx hT;exact ⟨e1,hT1⟩
theorem fC:tokS "[" = aG "[" ∧tokS "{" = aG "{" ∧tokS "(" = aG "(" ∧¬ aG "{" = aG "[" ∧¬ aG "(" = aG "[" ∧¬ aG "(" = aG "{" :=by decide +kernel
theorem VW.parse {k:Nat} {d:Dt} {ws:List Str} (h:VW k d ws):∀ (T:List Tk) (m:Nat),5*k+3≤m→Rd T (prs T m "value") (d,ws):=by
 induction h with
 | int n i hi =>
  intro T m hm q r hT;obtain ⟨m,rfl⟩:=aAS (show 3≤m by lia);obtain ⟨e,_,_⟩:=cx (t:=tokS (jF i)) (l:=r) hT;rw [eT (cC hi)] at e;rw [dm];unfold cn eR;rw [e,if_neg (pI _ _),if_neg (pI _ _),if_neg (pI _ _),if_pos rfl,if_pos rfl]
  rfl
 | str n z hz _ =>
  intro T m hm q r hT;obtain ⟨m,rfl⟩:=aAS (show 3≤m by lia);obtain ⟨e,_,_⟩:=cx (t:=tokS (quo z)) (l:=r) hT;rw [eU hz] at e;rw [dm];unfold cn eR;rw [e,if_neg (pJ _ _),if_neg (pJ _ _),if_neg (pJ _ _),if_neg (show ¬ (Str.ofString "text")=Str.ofString "number" by decide +kernel),if_pos rfl]
  rfl
 | @list n its h8 hk ih =>
  intro T m hm q r hT;obtain ⟨m,rfl⟩:=aAS (show 3≤m by lia);obtain ⟨e,hT1⟩:=j8 hT;rw [fC.1] at e;rw [dm];unfold cn;rw [e,if_pos rfl,j5 (its:=its) (cl:= "]") (by decide +kernel) (by decide +kernel) (fun it hit=>ih it hit T m (by lia)) (fun it hit=>by
   obtain ⟨w,r,e,h1,_⟩:=(hk it hit).head;exact ⟨w,r,e,h1⟩) hT1]
  show PR.ok _ _=PR.ok _ (q+(enc _ _ _).length);rw [jg]
  congr 1
  lia
 | @rows n its h8 hk ih =>
  intro T m hm q r hT;obtain ⟨m,rfl⟩:=aAS (show 3≤m by lia);obtain ⟨e,hT1⟩:=j8 hT;rw [fC.2.2.1] at e;rw [dm];unfold cn;rw [e,if_neg fC.2.2.2.2.1,if_neg fC.2.2.2.2.2,if_pos rfl,j5 (its:=its) (cl:= ")") (by decide +kernel) (by decide +kernel) (fun it hit=>ih it hit T m (by lia)) (fun it hit=>by
   obtain ⟨w,r,e,_,h1⟩:=(hk it hit).head;exact ⟨w,r,e,h1⟩) hT1]
  show PR.ok _ _=PR.ok _ (q+(enc _ _ _).length);rw [jg]
  congr 1
  lia
 | @rcd n gs h8 hz hk ih =>
  intro T m hm q r hT;obtain ⟨m,rfl⟩:=aAS (show 6≤m by lia);obtain ⟨e,hT1⟩:=j8 hT;rw [fC.2.1] at e;have es:gs.map fw3=(gs.map fun g=>(pr3 g,fw3 g)).map (·.2):=by rw [aAL];rfl
  rw [es] at hT1;rw [dm];unfold cn;rw [e,if_neg fC.2.2.2.1,if_pos rfl,j5 (its:=gs.map fun g=>(pr3 g,fw3 g)) (cl:= "}") (by decide +kernel) (by decide +kernel) (fun it hit=>by
   obtain ⟨g,hg,rfl⟩:=aAr.mp hit;intro q r hT;have e0:(fw3 g).map tokS++r=tokS g.1 :: (tokS ":" :: (g.2.2.map tokS++r)):=by simp
   rw [show ((pr3 g,fw3 g):Dt×List Str).2=fw3 g from rfl,e0] at hT;obtain ⟨a1,hT1,_⟩:=cx hT;obtain ⟨a2,hT2,_⟩:=cx hT1;rw [tT];unfold rQ;rw [tS (a1.trans (hz g hg).tk),fB (a2.trans (cA ":" (by decide +kernel)).1),ih g hg T (m+1) (by lia) _ _ hT2];show PR.ok (Dt.tup [Dt.str g.1,g.2.1]) _=_
   congr 1
   simp;lia) (fun it hit=>by
   obtain ⟨g,hg,rfl⟩:=aAr.mp hit;exact ⟨g.1,_,rfl,by rw [(hz g hg).tk];exact HV _ _⟩) hT1]
  show PR.ok (mk2 "record" (Dt.tup ((gs.map fun g=>(pr3 g,fw3 g)).map (·.1)))) _=_;rw [← es,aAL];show PR.ok _ _=PR.ok _ (q+(enc _ _ _).length);rw [jg]
  congr 1
  lia
theorem VW.read {n:Nat} {d:Dt} {ws:List Str} (h:VW n d ws) (hn:n≤5) {cs:List Nat} {b:Nat} {bs:List Nat} (hb:bs.length=ws.length) (hc:cs=List.replicate b 32++aM ws bs):dj 40 "value" cs=some d:=by
 have hl:=h.gw.gl.lex bs hb;rw [← cS (aM ws bs) b,← hc] at hl;have hd:=(h.bd (0,0) (aBD _)).2.2;have hp:=h.parse (ws.map tokS) 40 (by lia) 0 [] (by simp);refine (xK hl ?_ hp ?_).1
 ·dsimp only at hd;lia
 ·exact BU (aA3 (by simp))
theorem qQ {n:Nat} {B:Nat}:∀ vs:List Dt,(∀ v∈vs,∃ ws,VW n v ws∧bc ws≤B)→∃ its:List (Dt×List Str),its.map (·.1)=vs∧(∀ it∈its,VW n it.1 it.2)∧((its.map (·.2)).map fun x=>bc x+4).sum≤vs.length*(B+4)
 | [],_=>⟨[],rfl,(fun _ h=>nomatch h),aAx _⟩
 | v :: vs,h=>by
  obtain ⟨ws,hw,hl⟩:=h v aAd;obtain ⟨its,e1,e2,e3⟩:=qQ vs fun x hx=>h x (aAi _ hx);refine ⟨(v,ws) :: its,by rw [aAt,e1],fun it hit=>?_,?_⟩
  ·rcases aAp.mp hit with rfl | hit
   ·exact hw
   ·exact e2 it hit
  ·rw [aAt,aAt,aBv,aAe,Nat.succ_mul];show bc ws+4+_≤_;lia
theorem j9 (a b:Str) (ws:List Str) (ha:a.length=1) (hb:b.length=1):bc (enc a ws b)=8+bc ws:=by
 unfold enc;rw [bE,bE,bv,bv,ha,hb,show bc []=0 from rfl];lia
theorem lR:(Str.ofString "[").length=1∧(Str.ofString "]").length=1∧(Str.ofString "(").length=1∧(Str.ofString ")").length=1∧(Str.ofString "{").length=1∧(Str.ofString "}").length=1:=by decide +kernel
theorem BY {z:Str} (h:NmC z):okT z:=fun c hc=>by
 have:=aAC.mp h.1 c hc;have h':c∈letS.cps.toList:=of_decide_eq_true this
 clear hc this
 revert c
 decide +kernel
theorem HY:∀ {a c:Nat} {d:Dt},FK a c d→∀ {e:Dt},FV d e→∀ n,a≤n→∃ ws,VW n e ws∧bc ws≤70*(c*8 ^ (a - 1)):=by
 intro a c d h;have one:∀ z:Str,bc [z]=z.length+3:=fun z=>by simp [bc]
 induction h with
 | text i h0 h1 =>
  intro e hv n hn
  cases hv with
  | @text _ z hl ok =>
   refine ⟨_,.str n z ok (by lia),?_⟩;rw [one,rZ];show _≤70*(1*1);lia
 | choice ws hw ho =>
  intro e hv n hn
  generalize he:ws.map Dt.str=l at hv
  cases hv with
  | @choice ws' z hz =>
   have hm:z∈ws:=by
    have hz':Dt.str z∈ws'.map Dt.str:=aAr.mpr ⟨z,hz,rfl⟩;rw [← he] at hz';obtain ⟨y,hy,e⟩:=aAr.mp hz';rw [← Dt.str.inj e];exact hy
   have nm:=pH (j7 hw z hm);have:=nm.2.2;refine ⟨_,.str n z (BY nm) (by lia),?_⟩;rw [one,rZ];show _≤70*(1*1);lia
 | number i j h0 h1 h2 =>
  intro e hv n hn
  cases hv with
  | @number _ _ x a1 a2 =>
   have hx:=HX (i:=x) (by lia) (by lia);have:=xM hx;refine ⟨_,.int n x hx,?_⟩;rw [one];show _≤70*(1*1);lia
 | @list a c k i hk h0 h1 ih =>
  intro e hv n hn;obtain ⟨n,rfl⟩:=aAS (show 1≤n by lia)
  cases hv with
  | @list _ _ vs hvs hl =>
   obtain ⟨its,e1,e2,e3⟩:=qQ vs fun v hv=>ih (hvs v hv) n (by lia);have l8:its.length≤8:=by
    have:=congrArg List.length e1;rw [aAa] at this;lia
   have lv:vs.length≤8:=by lia
   rw [← e1];refine ⟨_,.list l8 e2,?_⟩;have s:=gM (its.map (·.2));rw [j9 _ _ _ lR.1 lR.2.1];have p8:8 ^ (a+1 - 1)=8*8 ^ (a - 1):=by
    have:=hk.pos;rw [← aCl,show a+1 - 1=a - 1+1 by lia]
   rw [p8];have p1:1≤8 ^ (a - 1):=Nat.pow_pos (by decide)
   generalize 8 ^ (a - 1)=X at *
   have m1:=Nat.mul_le_mul_right (70*(c*X)+4) lv;have e4:(c+1)*(8*X)=8*(c*X)+8*X:=by rw [aCg,Nat.one_mul,aB0]
   rw [e4];lia
 | @rows a c z l i hk kl h0 h1 ih =>
  intro e hv n hn;obtain ⟨n,rfl⟩:=aAS (show 1≤n by lia)
  cases hv with
  | @rows _ _ _ vs hvs hl asc =>
   obtain ⟨its,e1,e2,e3⟩:=qQ vs fun v hv=>ih (hvs v hv) n (by lia);have l8:its.length≤8:=by
    have:=congrArg List.length e1;rw [aAa] at this;lia
   have lv:vs.length≤8:=by lia
   rw [← e1];refine ⟨_,.rows l8 e2,?_⟩;have s:=gM (its.map (·.2));rw [j9 _ _ _ lR.2.2.1 lR.2.2.2.1];have p8:8 ^ (a+1 - 1)=8*8 ^ (a - 1):=by
    have:=hk.pos;rw [← aCl,show a+1 - 1=a - 1+1 by lia]
   rw [p8];have p1:1≤8 ^ (a - 1):=Nat.pow_pos (by decide)
   generalize 8 ^ (a - 1)=X at *
   have m1:=Nat.mul_le_mul_right (70*(c*X)+4) lv;have e4:(c+1)*(8*X)=8*(c*X)+8*X:=by rw [aCg,Nat.one_mul,aB0]
   rw [e4];lia
 | @rcd gs hg hs hn' h8 ih =>
  intro e hv n hn;obtain ⟨n,rfl⟩:=aAS (show 1≤n by lia);have e1:gs.map prG=(gs.map nk).map prD:=by rw [aAL];rfl
  rw [e1] at hv;obtain ⟨ks,rfl,hnm,hv⟩:=wg hv;have key:∀ (gs:List G4) (ks:List (Str×Dt)),gs.length≤8→ks.map (·.1)=(gs.map nk).map (·.1)→(∀ g∈gs,cu g.1=true)→(∀ (i:Nat) (g:G4) (k:Str×Dt),gs[i]?=some g→ks[i]?=some k→∃ ws,VW n k.2 ws∧bc ws≤70*(g.2.2.2*8 ^ (g.2.2.1 - 1))) →
    ∃ g3:List G3,g3.map pr3=ks.map prD∧g3.length=gs.length∧(∀ g∈g3,NmC g.1)∧(∀ g∈g3,VW n g.2.1 g.2.2)∧((g3.map fw3).map fun x=>bc x+4).sum≤70*(eJ (gs.map (·.2.2.2))*8 ^ (ck (gs.map (·.2.2.1)) - 1))+19*gs.length:=by
   intro gs
   induction gs with
   | nil =>
    intro ks _ e _ _;obtain rfl:ks=[]:=by
     cases ks with
     | nil=>rfl
     | cons a b=>cases e
    exact ⟨[],rfl,rfl,(fun _ h=>nomatch h),(fun _ h=>nomatch h),aAx _⟩
   | cons g gs ihg =>
    intro ks l e hn hv
    cases ks with
    | nil=>cases e
    | cons k ks =>
     have e1:k.1=g.1:=(List.cons.inj e).1;obtain ⟨g3,a1,a2,a3,a4,a5⟩:=ihg ks (by rw [aAe] at l;lia) (List.cons.inj e).2 (fun x hx=>hn x (aAi _ hx)) fun i g' k' h1 h2=>hv (i+1) g' k' h1 h2;obtain ⟨ws,hw,hl⟩:=hv 0 g k rfl rfl;have nm:=pH (hn g aAd);refine ⟨(k.1,k.2,ws) :: g3,by rw [aAt,aAt,a1],by rw [aAe,aAe,a2],fun x hx=>?_,fun x hx=>?_,?_⟩
     ·rcases aAp.mp hx with rfl | hx
      ·show NmC k.1;rw [e1];exact nm
      ·exact a3 x hx
     ·rcases aAp.mp hx with rfl | hx
      ·exact hw
      ·exact a4 x hx
     ·rw [aAt,aAt,aBv,aAt,aAt,aAe];show bc ([k.1,":"]++ws)+4+_≤70*((g.2.2.2+eJ (gs.map (·.2.2.2)))*8 ^ (max g.2.2.1 (ck (gs.map (·.2.2.1))) - 1))+_;rw [bE,bv,bv,HW.2.2.2,show bc []=0 from rfl,e1];have:=nm.2.2;have q1:8 ^ (g.2.2.1 - 1)≤8 ^ (max g.2.2.1 (ck (gs.map (·.2.2.1))) - 1):=aBN (by decide) (by lia);have q2:8 ^ (ck (gs.map (·.2.2.1)) - 1)≤8 ^ (max g.2.2.1 (ck (gs.map (·.2.2.1))) - 1):=aBN (by decide) (by lia);have m1:=Nat.mul_le_mul_left g.2.2.2 q1;have m2:=Nat.mul_le_mul_left (eJ (gs.map (·.2.2.2))) q2;rw [aCg];lia
  obtain ⟨g3,a1,a2,a3,a4,a5⟩:=key gs ks h8 hnm (fun g hg=>(hn' g hg).1) (fun i g k h1 h2=>ih g (aAn h1) (hv i (nk g) k (by rw [aAg,h1];rfl) h2) n (by
   have:=eK (aBn (f:=fun g:G4=>g.2.2.1) (aAn h1));lia))
  show ∃ ws,VW (n+1) (mk2 "record" (.tup (ks.map prD))) ws∧_;rw [← a1];refine ⟨_,.rcd (by lia) a3 a4,?_⟩;have s:=gM (g3.map fw3);rw [j9 _ _ _ lR.2.2.2.2.1 lR.2.2.2.2.2];show _≤70*((eJ (gs.map (·.2.2.2))+1)*8 ^ ck (gs.map (·.2.2.1)))
  by_cases hm:ck (gs.map (·.2.2.1))=0
  ·have:gs=[]:=by
    cases gs with
    | nil=>rfl
    | cons g gs =>
     have p:=(hg g aAd).pos;have:=eK (l:=(g :: gs).map (·.2.2.1)) (aBn aAd);lia
   subst this;rw [show ((([]:List G4).map (·.2.2.2)))=[] from rfl] at a5 ⊢;simp only [aAI,eJ,Nat.zero_mul] at a5 ⊢;simp only [aBw,ck];lia
  ·have p8:8 ^ ck (gs.map (·.2.2.1))=8*8 ^ (ck (gs.map (·.2.2.1)) - 1):=by
    rw [← aCl,show (ck (gs.map (·.2.2.1)) - 1).succ=ck (gs.map (·.2.2.1)) by lia]
   rw [p8];have p1:1≤8 ^ (ck (gs.map (·.2.2.1)) - 1):=Nat.pow_pos (by decide)
   generalize 8 ^ (ck (gs.map (·.2.2.1)) - 1)=X at *
   generalize eJ (gs.map (·.2.2.2))=Y at *
   have e4:(Y+1)*(8*X)=8*(Y*X)+8*X:=by rw [aCg,Nat.one_mul,aB0]
   rw [e4]
   generalize Y*X=Z at *
   lia
theorem pK (sp:Str):∀ zs:List Str,(zs.map (·.length)).sum≤(Str.join sp zs).length
 | []=>aAx _
 | [x]=>by simp [Str.join]
 | x :: y :: r=>by
  have:=pK sp (y :: r);rw [PyProof.Rows.join_cons_cons,aAu,aAu];simp only [aAt,aBv] at this ⊢;lia
theorem kb (sp:Str) (zs:List Str):Txt.join sp zs=Str.join sp zs:=StrLaws.glued_eq_join sp zs
def kJ (_:W.Frag) (_:Ads):Sp:=fun vs H Q _=>∃ i:Int,vs=[.int i]∧i.natAbs < 10 ^ 70∧Q (.str (jF i)) H
theorem yn {i:Int} (h:i.natAbs < 10 ^ 70):i.natAbs.log2 < 1920:=by
 by_cases h0:i.natAbs=0
 ·rw [h0];decide
 ·exact (Nat.log2_lt h0).mpr (aAj h (by decide +kernel))
theorem kK (T:Tx K mg ad) {f:Addr} {fd:FuncData} (F:Gn K mg "figures_of" dO ["number"] f fd):FnOk P w K mg base CX0 1 f fd ["number"] (kJ K ad):=by
 refine F.F.ok kS (fun vs H Q E h=>?_) (fun cdv A outer s H vs Q E hr h=>?_)
 ·obtain ⟨i,rfl,_⟩:=h
  rfl
 obtain ⟨i,rfl,hi,q⟩:=h;refine ⟨_,(@pss_one _ _ _ (@ps_ret _ _ _ _ (pe_callTy call_str_int rfl T.z_str boot_str (@pa1 _ _ _ (pv 0) (by rfl))))),?_⟩;exact ⟨_,rfl,i,rfl,yn hi,q⟩
def tU (_:W.Frag) (_:Ads):Sp:=fun vs H Q _=>∃ z:Str,vs=[.str z]∧z.length≤100000∧Q (.str (Str.ofString "\"" ++z++Str.ofString "\"")) H
theorem dY {n:Nat} (h:n≤16000000):n≤sizeLine:=aAA h (by decide)
theorem xN {n:Nat} (h:n≤300000):n≤sizeLine:=aAA h (by decide)
theorem tV (T:Tx K mg ad) {f:Addr} {fd:FuncData} (F:Gn K mg "quoted" kn ["text"] f fd):FnOk P w K mg base CX0 1 f fd ["text"] (tU K ad):=by
 refine F.F.ok uc (fun vs H Q E h=>?_) (fun cdv A outer s H vs Q E hr h=>?_)
 ·obtain ⟨z,rfl,_⟩:=h
  rfl
 obtain ⟨z,rfl,hz,q⟩:=h;refine ⟨_,(@pss_one _ _ _ (@ps_ret _ _ _ _ (@pe_op _ _ _ _ _ _ _ _ op_add_str (@pe_op _ _ _ _ _ _ _ _ op_add_str pe_str (pv 0)) pe_str))),?_⟩;have l1:(Str.ofString "\"").length=1:=by decide +kernel
 exact ⟨_,rfl,_,_,rfl,rfl,xN (by lia),_,_,rfl,rfl,xN (by rw [aAu];lia),q⟩
def ke (K:W.Frag) (_:Ads):Sp:=fun vs H Q _=>∃ (l:Addr) (zs:List Str),vs=[.ref l]∧SqL K H l (zs.map V.str)∧zs.length≤1000∧(Str.join (Str.ofString ", ") zs).length≤7200000∧Q (.str (Str.join (Str.ofString ", ") zs)) H
theorem kg (T:Tx K mg ad) {f:Addr} {fd:FuncData} (F:Gn K mg "with_commas" cY ["texts"] f fd):FnOk P w K mg base CX0 1 f fd ["texts"] (ke K ad):=by
 refine F.F.ok ku (fun vs H Q E h=>?_) (fun cdv A outer s H vs Q E hr h=>?_)
 ·obtain ⟨l,zs,rfl,_⟩:=h
  rfl
 obtain ⟨l,zs,rfl,hl,hz,hj,q⟩:=h;refine ⟨_,(@pss_one _ _ _ (@ps_ret _ _ _ _ (pe_bm PySem.F.plainAttrs_str PySem.F.slot_str_join PySem.F.type_str_join gC pe_str (@pa1 _ _ _ (pv 0) (by rfl))))),?_⟩;have l1:(Str.ofString ", ").length=2:=by decide +kernel
 have js:=pK (Str.ofString ", ") zs;refine ⟨rfl,_,rfl,_,l,zs,rfl,rfl,.inl hl,by rw [l1];lia,?_⟩;rw [kb];exact q
def mZ (_:W.Frag) (_:Ads):Sp:=fun vs H Q _=>∃ a z:Str,vs=[.str a,.str z]∧a.length+z.length≤7200000∧Q (.str (a++Str.ofString ": " ++z)) H
theorem xP (a:Str):Str.empty++a=a:=by
 apply cv;show (#[]++a.cps).toList=_;simp
theorem m4 (T:Tx K mg ad) {f:Addr} {fd:FuncData} (F:Gn K mg "pair_text" eY ["word","text"] f fd):FnOk P w K mg base CX0 1 f fd ["word","text"] (mZ K ad):=by
 refine F.F.ok m9 (fun vs H Q E h=>?_) (fun cdv A outer s H vs Q E hr h=>?_)
 ·obtain ⟨a,z,rfl,_⟩:=h
  rfl
 obtain ⟨a,z,rfl,ha,q⟩:=h;refine ⟨_,(@pss_one _ _ _ (@ps_ret _ _ _ _ (xx (u7 (pv 0) (BB pe_str (u7 (pv 1) BA)))))),?_⟩;have l1:(Str.ofString ": ").length=2:=by decide +kernel
 have l0:Str.empty.length=0:=rfl;refine ⟨_,rfl,a,rfl,dY (by lia),dY (by rw [aAu];lia),_,rfl,dY (by lia),dY (by rw [aAu,aAu];lia),_,rfl,z,rfl,dY (by lia),dY (by rw [aAu,aAu,aAu];lia),dY (by rw [aAu,aAu,aAu];lia),?_⟩;rw [xP];exact q
def HZ (p:Str×Dt):Dt:=.tup [.str p.1,p.2]
def kh (q:(Str×Dt)×Str):Str:=q.1.1++Str.ofString ": " ++q.2
inductive VT:Nat→Dt→Str→Prop
 | int (n:Nat) (i:Int):i.natAbs < 10 ^ 70→VT n (.int i) (jF i)
 | str (n:Nat) (z:Str):z.length≤1000→VT n (.str z) (Str.ofString "\"" ++z++Str.ofString "\"")
 | list (n:Nat) (ds:List Dt) (zs:List Str):zs.length=ds.length→ds.length≤1000→(∀ (i:Nat) (d:Dt) (z:Str),ds[i]?=some d→zs[i]?=some z→VT n d z)→VT (n+1) (mk2 "list" (.tup ds)) (Str.ofString "[" ++Str.join (Str.ofString ", ") zs++Str.ofString "]")
 | rows (n:Nat) (ds:List Dt) (zs:List Str):zs.length=ds.length→ds.length≤1000→(∀ (i:Nat) (d:Dt) (z:Str),ds[i]?=some d→zs[i]?=some z→VT n d z)→VT (n+1) (mk2 "rows" (.tup ds)) (Str.ofString "(" ++Str.join (Str.ofString ", ") zs++Str.ofString ")")
 | record (n:Nat) (ps:List (Str×Dt)) (ys:List Str):ys.length=ps.length→ps.length≤1000→(∀ (i:Nat) (p:Str×Dt) (y:Str),ps[i]?=some p→ys[i]?=some y→VT n p.2 y)→VT (n+1) (mk2 "record" (.tup (ps.map HZ))) (Str.ofString "{" ++Str.join (Str.ofString ", ") ((ps.zip ys).map kh)++Str.ofString "}")
def sVT (K:W.Frag) (n:Nat):Sp:=fun vs H Q _=>∃ (d:Dt) (x:V) (z:Str),vs=[x]∧IsP K H d x∧VT n d z∧z.length≤7200000∧∀ H',Same H H'→Q (.str z) H'
theorem kL (T:Tx K mg ad) (n:Nat) {f:Addr} {fd:FuncData} (Jm:Gn K mg "value_text" cy ["value"] f fd) (Jn:∀ m,m < n→FnOk P w K mg base CX0 (m+3) f fd ["value"] (sVT K m)):FnOk P w K mg base CX0 (n+3) f fd ["value"] (sVT K n):=by
 obtain ⟨f1,d1,JX⟩:=T.figures_of;have Kq:=kK (P:=P) (w:=w) (base:=base) T JX;obtain ⟨f2,d2,Kt⟩:=T.quoted;have KU:=tV (P:=P) (w:=w) (base:=base) T Kt;obtain ⟨f3,d3,JG⟩:=T.with_commas;have JU:=kg (P:=P) (w:=w) (base:=base) T JG;obtain ⟨f4,d4,J7⟩:=T.pair_text;have KA:=m4 (P:=P) (w:=w) (base:=base) T J7;have Jn:FnOk P w K mg base CX0 (n+2) f fd ["value"] (fun vs H Q E=>∃ m,n=m+1∧sVT K m vs H Q E):=by
  cases n with
  | zero=>exact bu fun _ _ _ _ h=>by obtain ⟨m,h,_⟩:=h;cases h
  | succ m =>
   have g:=Jn m (aA5 m);exact g.imp fun vs H Q E h=>by obtain ⟨m',e,h⟩:=h;cases e;exact h
 refine Jm.F.ok sc_value_text (fun vs H Q E h=>?_) (fun cdv A outer s H vs Q E hr h=>?_)
 ·obtain ⟨d,x,z,rfl,_⟩:=h
  rfl
 obtain ⟨d,x,z,rfl,hd,vt,hz,q⟩:=h;refine ⟨_,(@pss_cons _ _ _ _ _ (@ps_if _ _ _ _ _ _ _ _ (@pt_val _ _ _ (pe_callB (call_isiN' (K:=K) rfl) rfl T.z_isinstance boot_isinstance (@pa2 _ _ _ _ _ (pv 0) (bz rfl T.z_int boot_int) (by rfl) (by rfl))) (by intro _;rfl)) (@pss_one _ _ _ (@ps_ret _ _ _ _ (pcl JX Kq (hr.mono (by lia)) rfl (@pa1 _ _ _ (pv 0) (by rfl))))) pss_nil) (@pss_cons _ _ _ _ _ (@ps_if _ _ _ _ _ _ _ _ (@pt_val _ _ _ (pe_callB (call_isiN' (K:=K) rfl) rfl T.z_isinstance boot_isinstance (@pa2 _ _ _ _ _ (pv 0) (bz rfl T.z_str boot_str) (by rfl) (by rfl))) (by intro _;rfl)) (@pss_one _ _ _ (@ps_ret _ _ _ _ (pcl Kt KU (hr.mono (by lia)) rfl (@pa1 _ _ _ (pv 0) (by rfl))))) pss_nil) (@pss_cons _ _ _ _ _ (@ps_if _ _ _ _ _ _ _ _ (pt_cmpR op_eq (@pi1 K _ _ _ _ _ _ _ rfl (pv 0)) pe_str (nomark _)) (@pss_cons _ _ _ _ _ (@ps_set _ _ 1 _ _ _ _ sc_value_text.nd rfl (Or.inl rfl) (pcl JG JU (hr.mono (by lia)) rfl (@pa1 _ _ _ (pe_comp rfl (cs0 (NL:=["name","own"]) rfl (by decide +kernel) (by decide +kernel)) (pi_tupN (K:=K) rfl (@pi1 K _ _ _ _ _ _ _ rfl (pv 0))) (fun _ _ _ _=>(jd (K:=K) (n:=2) rfl rfl (aJ (ao (i:=0) (show List.Nodup (α:=Str) ["name","own"] by decide +kernel) rfl (Or.inl rfl)) (aJ (ao (i:=1) (show List.Nodup (α:=Str) ["name","own"] by decide +kernel) rfl (Or.inl rfl)) du)))) (fun _ _ _ _=>(pcl J7 KA (hr.mono (by lia)) rfl (@pa2 _ _ _ _ _ (pv 0) (pcl Jm Jn (hr.mono (by lia)) rfl (@pa1 _ _ _ (pv 1) (by rfl))) (by rfl) (by rfl))))) (by rfl))) (by rfl) (.inl rfl)) (@pss_one _ _ _ (@ps_ret _ _ _ _ (@pe_op _ _ _ _ _ _ _ _ op_add_str (@pe_op _ _ _ _ _ _ _ _ op_add_str pe_str (pv 1)) pe_str)))) pss_nil) (@pss_cons _ _ _ _ _ (@ps_set _ _ 1 _ _ _ _ sc_value_text.nd rfl (Or.inl rfl) (pcl JG JU (hr.mono (by lia)) rfl (@pa1 _ _ _ (pe_comp rfl (cs0 (NL:=["item"]) rfl (by decide +kernel) (by decide +kernel)) (pi_tupN (K:=K) rfl (@pi1 K _ _ _ _ _ _ _ rfl (pv 0))) (fun _ _ _ _=>(ao (i:=0) (show List.Nodup (α:=Str) ["item"] by decide +kernel) rfl (Or.inl rfl))) (fun _ _ _ _=>(pcl Jm Jn (hr.mono (by lia)) rfl (@pa1 _ _ _ (pv 0) (by rfl))))) (by rfl))) (by rfl) (.inl rfl)) (@pss_cons _ _ _ _ _ (@ps_if _ _ _ _ _ _ _ _ (pt_cmpR op_eq (@pi1 K _ _ _ _ _ _ _ rfl (pv 0)) pe_str (nomark _)) (@pss_one _ _ _ (@ps_ret _ _ _ _ (@pe_op _ _ _ _ _ _ _ _ op_add_str (@pe_op _ _ _ _ _ _ _ _ op_add_str pe_str (pv 1)) pe_str))) pss_nil) (@pss_one _ _ _ (@ps_ret _ _ _ _ (@pe_op _ _ _ _ _ _ _ _ op_add_str (@pe_op _ _ _ _ _ _ _ _ op_add_str pe_str (pv 1)) pe_str)))))))),?_⟩;have mem_le:∀ {zs:List Str} {i:Nat} {y:Str},zs[i]?=some y→y.length≤(Str.join (Str.ofString ", ") zs).length:=fun h=>PySem.join_mem_le _ _ _ (aAn h);have l1:∀ s:String,s∈["[","]","(",")","{","}"]→(Str.ofString s).length=1:=by decide +kernel
 cases vt with
 | int _ i hi =>
  obtain rfl:=aX hd;exact ⟨_,rfl,_,_,_,rfl,.int_int,_,rfl,aL ⟨_,rfl,i,rfl,hi,q H (Same.refl H)⟩⟩
 | str _ z0 hz0 =>
  obtain rfl:=ay hd;refine ⟨_,rfl,_,_,_,rfl,.str_int,_,rfl,aH ⟨_,rfl,_,_,_,rfl,.str_str,_,rfl,aL ⟨_,rfl,z0,rfl,by lia,q H (Same.refl H)⟩⟩⟩
 | record m ps ys e1 e2 e3 =>
  obtain ⟨a,u1,u2,rfl,ha,hu1,hu2⟩:=fX hd;obtain rfl:=ay hu1;rw [aAu,aAu,l1 "{" (by simp),l1 "}" (by simp)] at hz;refine ⟨_,rfl,_,_,_,rfl,.tup_int ha,_,rfl,aH ⟨_,rfl,_,_,_,rfl,.tup_str ha,_,rfl,aH ?_⟩⟩;refine ⟨_,rfl,_,_,_,hd,rfl,at0 _ _,isS ?_⟩;refine ⟨rfl,_,rfl,fW ⟨_,rfl,_,_,_,hd,rfl,rfl,fun v2 hv2=>?_⟩⟩;obtain ⟨b,xs,rfl,hb,_,rb⟩:=hv2.unref;have lx:=rb.length;rw [aAa] at lx;refine ⟨b,rfl,⟨_,hb⟩,fun l hl=>?_⟩;refine cz (K:=K) (xs:=xs) (fun i zs σ H'=>zs=(((ps.zip ys).map kh).take i).map V.str∧Same H H'∧H' l=some (.lst zs)∧∃ w1 w2,σ=[w1,w2]) ⟨rfl,aj hl _,ac,_,_,rfl⟩ (fun i zs σ H' _ p=>p.2.1.tup hb) ?_ ?_
  ·rintro i y zs σ H1 N hy ⟨rfl,g1,f1',w1,w2,rfl⟩ next;obtain ⟨d0,hd0,hdy⟩:=rb.get' hy;rw [aAg] at hd0;obtain ⟨p0,hp0,rfl⟩:=aAh.mp hd0;have hi:=(aAc.mp hp0).1;obtain ⟨y0,hy0⟩:∃ y0,ys[i]?=some y0:=⟨_,aAm (by lia)⟩;have hz0:((ps.zip ys).map kh)[i]?=some (kh (p0,y0)):=by rw [aAg,(aA1 (z:=(p0,y0))).mpr ⟨hp0,hy0⟩];rfl
   obtain ⟨c,c1,c2,rfl,hc,hc1,hc2⟩:=fX (show IsP K H (.tup [.str p0.1,p0.2]) y from hdy);obtain rfl:=ay hc1;have ml:=mem_le hz0;rw [show (kh (p0,y0)).length=p0.1.length+(Str.ofString ": ").length+y0.length from by show (p0.1++Str.ofString ": " ++y0).length=_;rw [aAu,aAu]] at ml;refine ⟨c,_,rfl,g1.tup hc,rfl,_,_,rfl,_,_,rfl,rfl,?_⟩;refine ⟨_,rfl,_,rfl,m,rfl,p0.2,c2,y0,rfl,hc2.same g1,e3 i p0 y0 hp0 hy0,by lia,fun H2 g2=>?_⟩;refine ⟨_,_,rfl,by lia,g2 _ _ f1',?_,next _ _ _ ⟨?_,a8 hl (g1.trans g2),ac,_,_,rfl⟩⟩
   ·rw [aAa,aAz];exact ak (by lia)
   ·rw [aAD,hz0,aAo]
    rfl
  rintro zs σ H1 ⟨rfl,g1,f1',w1,w2,rfl⟩;have ll:((ps.zip ys).map kh).length=ps.length:=by rw [aAa,aBe,e1,aBH]
  rw [aAM (by lia)] at f1';refine ⟨l,_,rfl,SqL.of f1',by lia,by lia,?_⟩;refine ⟨_,rfl,_,_,rfl,rfl,?_,_,_,rfl,rfl,?_,q H1 g1⟩
  ·rw [l1 "{" (by simp)];exact dY (by lia)
  ·rw [aAu,l1 "{" (by simp),l1 "}" (by simp)];exact dY (by lia)
 | list m ds zs e1 e2 e3 =>
  obtain ⟨a,u1,u2,rfl,ha,hu1,hu2⟩:=fX hd;obtain rfl:=ay hu1;rw [aAu,aAu,l1 "[" (by simp),l1 "]" (by simp)] at hz;refine ⟨_,rfl,_,_,_,rfl,.tup_int ha,_,rfl,aH ⟨_,rfl,_,_,_,rfl,.tup_str ha,_,rfl,aH ?_⟩⟩;refine ⟨_,rfl,_,_,_,hd,rfl,at0 _ _,isS ?_⟩;refine ⟨rfl,_,rfl,dh (bS (by decide +kernel)) ⟨_,rfl,_,_,_,hd,rfl,rfl,fun v2 hv2=>?_⟩⟩;obtain ⟨b,xs,rfl,hb,_,rb⟩:=hv2.unref;have lx:=rb.length;refine ⟨b,rfl,⟨_,hb⟩,fun l hl=>?_⟩;refine cz (K:=K) (xs:=xs) (fun i ys σ H'=>ys=(zs.take i).map V.str∧Same H H'∧H' l=some (.lst ys)∧∃ w1,σ=[w1]) ⟨rfl,aj hl _,ac,_,rfl⟩ (fun i zs σ H' _ p=>p.2.1.tup hb) ?_ ?_
  ·rintro i y ys σ H1 N hy ⟨rfl,g1,f1',w1,rfl⟩ next;obtain ⟨d0,hd0,hdy⟩:=rb.get' hy;have hi:=(aAc.mp hd0).1;obtain ⟨z0,hz0⟩:∃ z0,zs[i]?=some z0:=⟨_,aAm (by lia)⟩;have ml:=mem_le hz0;refine ⟨_,rfl,m,rfl,d0,y,z0,rfl,hdy.same g1,e3 i d0 z0 hd0 hz0,by lia,fun H2 g2=>?_⟩;refine ⟨g2 _ _ f1',?_,next _ _ _ ⟨?_,a8 hl (g1.trans g2),ac,_,rfl⟩⟩
   ·rw [aAa,aAz];exact ak (by lia)
   ·rw [aAD,hz0,aAo]
    rfl
  rintro ys σ H1 ⟨rfl,g1,f1',w1,rfl⟩;rw [aAM (by lia)] at f1';refine ⟨l,zs,rfl,SqL.of f1',by lia,by lia,?_⟩;refine ⟨_,rfl,_,_,_,hd.same g1,rfl,at0 _ _,isS ?_⟩;refine ⟨rfl,_,rfl,fW ⟨_,rfl,_,_,rfl,rfl,?_,_,_,rfl,rfl,?_,q H1 g1⟩⟩
  ·rw [l1 "[" (by simp)];exact dY (by lia)
  ·rw [aAu,l1 "[" (by simp),l1 "]" (by simp)];exact dY (by lia)
 | rows m ds zs e1 e2 e3 =>
  obtain ⟨a,u1,u2,rfl,ha,hu1,hu2⟩:=fX hd;obtain rfl:=ay hu1;rw [aAu,aAu,l1 "(" (by simp),l1 ")" (by simp)] at hz;refine ⟨_,rfl,_,_,_,rfl,.tup_int ha,_,rfl,aH ⟨_,rfl,_,_,_,rfl,.tup_str ha,_,rfl,aH ?_⟩⟩;refine ⟨_,rfl,_,_,_,hd,rfl,at0 _ _,isS ?_⟩;refine ⟨rfl,_,rfl,dh (bS (by decide +kernel)) ⟨_,rfl,_,_,_,hd,rfl,rfl,fun v2 hv2=>?_⟩⟩;obtain ⟨b,xs,rfl,hb,_,rb⟩:=hv2.unref;have lx:=rb.length;refine ⟨b,rfl,⟨_,hb⟩,fun l hl=>?_⟩;refine cz (K:=K) (xs:=xs) (fun i ys σ H'=>ys=(zs.take i).map V.str∧Same H H'∧H' l=some (.lst ys)∧∃ w1,σ=[w1]) ⟨rfl,aj hl _,ac,_,rfl⟩ (fun i zs σ H' _ p=>p.2.1.tup hb) ?_ ?_
  ·rintro i y ys σ H1 N hy ⟨rfl,g1,f1',w1,rfl⟩ next;obtain ⟨d0,hd0,hdy⟩:=rb.get' hy;have hi:=(aAc.mp hd0).1;obtain ⟨z0,hz0⟩:∃ z0,zs[i]?=some z0:=⟨_,aAm (by lia)⟩;have ml:=mem_le hz0;refine ⟨_,rfl,m,rfl,d0,y,z0,rfl,hdy.same g1,e3 i d0 z0 hd0 hz0,by lia,fun H2 g2=>?_⟩;refine ⟨g2 _ _ f1',?_,next _ _ _ ⟨?_,a8 hl (g1.trans g2),ac,_,rfl⟩⟩
   ·rw [aAa,aAz];exact ak (by lia)
   ·rw [aAD,hz0,aAo]
    rfl
  rintro ys σ H1 ⟨rfl,g1,f1',w1,rfl⟩;rw [aAM (by lia)] at f1';refine ⟨l,zs,rfl,SqL.of f1',by lia,by lia,?_⟩;refine ⟨_,rfl,_,_,_,hd.same g1,rfl,at0 _ _,isS ?_⟩;refine ⟨rfl,_,rfl,dh (bS (by decide +kernel)) ⟨_,rfl,_,_,rfl,rfl,?_,_,_,rfl,rfl,?_,q H1 g1⟩⟩
  ·rw [l1 "(" (by simp)];exact dY (by lia)
  ·rw [aAu,l1 "(" (by simp),l1 ")" (by simp)];exact dY (by lia)
theorem lS (T:Tx K mg ad) {f:Addr} {fd:FuncData} (D:Gn K mg "value_text" cy ["value"] f fd):∀ n m,m < n→FnOk P w K mg base CX0 (m+3) f fd ["value"] (sVT K m)
 | 0,m,h=>absurd h (aBL _)
 | n+1,m,h=>kL T m D fun k hk=>lS T D n k (by lia)
theorem lT {z:Str} (h:blk z=0):aY [z]=z:=cv (ir h)
theorem iw {a b:Str} (ha:blk a=0) (hb:blk b=0) (wss:List (List Str)):a++Str.join (Str.ofString ", ") (wss.map aY)++b=aY (enc a (bA wss) b):=by
 apply cv;show _=bq _;unfold enc;rw [bH,bH,pB,cB,cB,ir ha,ir hb]
theorem iz:blk "[" = 0∧blk "]" = 0∧blk "(" = 0∧blk ")" = 0∧blk "{" = 0∧blk "}" = 0:=by decide +kernel
theorem VW.text {n:Nat} {d:Dt} {ws:List Str} (h:VW n d ws):VT n d (aY ws):=by
 induction h with
 | int n i hi =>
  rw [lT (xF (cC hi))];exact .int n i (aAj hi (by decide +kernel))
 | str n z hz hl =>
  rw [lT (xL z)];exact .str n z (by lia)
 | @list n its h8 hk ih =>
  rw [← iw iz.1 iz.2.1];refine .list n _ _ (by simp) (by rw [aAa];lia) fun i d z h1 h2=>?_;rw [aAg] at h1;obtain ⟨it,hit,rfl⟩:=aAh.mp h1;rw [aAg,aAg,hit] at h2
  cases h2
  exact ih it (aAn hit)
 | @rows n its h8 hk ih =>
  rw [← iw iz.2.2.1 iz.2.2.2.1];refine .rows n _ _ (by simp) (by rw [aAa];lia) fun i d z h1 h2=>?_;rw [aAg] at h1;obtain ⟨it,hit,rfl⟩:=aAh.mp h1;rw [aAg,aAg,hit] at h2
  cases h2
  exact ih it (aAn hit)
 | @rcd n gs h8 hz hk ih =>
  rw [← iw iz.2.2.2.2.1 iz.2.2.2.2.2];have e1:gs.map pr3=(gs.map fun g=>(g.1,g.2.1)).map HZ:=by rw [aAL];rfl
  have e2:(gs.map fw3).map aY=((gs.map fun g=>(g.1,g.2.1)).zip (gs.map fun g=>aY g.2.2)).map kh:=by
   clear ih hk h8 e1
   induction gs with
   | nil=>rfl
   | cons g gs ihg =>
    rw [aAt,aAt,aAt,aAt,aBU,aAt,ihg fun x hx=>hz x (aAi _ hx)]
    congr 1
    exact (qP (hz g aAd).bk g.2.2).symm
  rw [e1,e2];refine .record n _ _ (by simp) (by rw [aAa];lia) fun i p y h1 h2=>?_;rw [aAg] at h1 h2;obtain ⟨g,hg,rfl⟩:=aAh.mp h1;rw [hg] at h2
  cases h2
  exact ih g (aAn hg)
def bB (wss:List (List Str)):List Str:=wss.flatMap fun x=>x++[("," : Str)]
theorem iA:∀ (x:List Str) (r:List (List Str)),bB (x :: r)=bA (x :: r)++[("," : Str)]
 | x,[]=>by simp [bB,bA]
 | x,y :: r=>by
  have:=iA y r;show (x++[("," : Str)])++bB (y :: r)=((x++[("," : Str)])++bA (y :: r))++_;rw [this,aAZ (x++[("," : Str)])]
theorem ki (wss:List (List Str)) (x:List Str):bB (wss++[x])=bB wss++(x++[("," : Str)]):=by simp [bB]
theorem jh {K:W.Frag} {H:Hp} {l b:Addr} {xs ys:List Str} {Q:VK} (hl:H l=some (.lst (xs.map V.str))) (hb:H b=some (.lst (ys.map V.str))) (hn:xs.length+ys.length≤15000000) (q:∀ p H',H p=none→Same H H'→H' p=some (.lst ((xs++ys).map V.str))→Q (.ref p) H'):ICatS K (.ref l) (.ref b) H Q :=
 ⟨l,b,_,_,rfl,rfl,SqL.of hl,SqL.of hb,by rw [aAa,aAa];exact dY (by lia),fun p hp=>q p _ hp (aj hp _) (by rw [ac,aAo])⟩
theorem ji {K:W.Frag} {H:Hp} {l:Addr} {xs:List Str} (ys:List Str) {Q:VK} (hl:H l=some (.lst (xs.map V.str))) (hn:xs.length+ys.length≤15000000) (q:∀ p H',H p=none→Same H H'→H' p=some (.lst ((xs++ys).map V.str))→Q (.ref p) H'):∀ b,H b=none→ICatS K (.ref l) (.ref b) (upd H b (.lst (ys.map V.str))) Q:=fun b hb =>
 jh (by rw [ag (ah hl hb)];exact hl) ac hn fun p H' hp g h=>q p H' (by
  cases c:H p with
  | none=>rfl
  | some o=>rw [aj hb _ _ _ c] at hp;cases hp) ((aj hb _).trans g) h
theorem none_of {H H':Hp} {p:Addr} (g:Same H H') (h:H' p=none):H p=none:=by
 cases c:H p with
 | none=>rfl
 | some o=>rw [g _ _ c] at h;cases h
theorem sj {x:List Str}:∀ {wss:List (List Str)},x∈wss→bc x≤bc (bA wss)
 | [y],h=>by rw [aAE.mp h];exact aAl _
 | y :: z :: r,h=>by
  show _≤bc ((y++[("," : Str)])++bA (z :: r));rw [bE,bE];rcases aAp.mp h with rfl | h
  ·lia
  ·have:=sj h;lia
theorem tW (wss:List (List Str)) (i:Nat):(bB (wss.take i)).length≤(bA wss).length+1:=by
 have h:(bB (wss.take i)).length≤(bB wss).length:=by
  conv=>rhs;rw [← List.take_append_drop i wss]
  unfold bB;rw [List.flatMap_append,aAk];lia
 cases wss with
 | nil=>simp [bB]
 | cons x r =>
  rw [iA,aAk] at h;exact h
def xQ (K:W.Frag) (n:Nat):Sp:=fun vs H Q _=>∃ (d:Dt) (x:V) (ws:List Str),vs=[x]∧IsP K H d x∧VW n d ws∧bc ws≤7200000∧∀ l H',H l=none→Same H H'→H' l=some (.lst (ws.map V.str))→Q (.ref l) H'
theorem cK (T:Tx K mg ad) (n:Nat) {f:Addr} {fd:FuncData} (Jc:Gn K mg "_law_value_words" bn ["value"] f fd) (G:∀ m,n=m+1→FnOk P w K mg base CX0 (m+3) f fd ["value"] (xQ K m)):FnOk P w K mg base CX0 (n+3) f fd ["value"] (xQ K n):=by
 have Jl:FnOk P w K mg base CX0 (n+2) f fd ["value"] (fun vs H Q E=>∃ m,n=m+1∧xQ K m vs H Q E):=by
  cases n with
  | zero=>exact bu fun _ _ _ _ h=>by obtain ⟨m,h,_⟩:=h;cases h
  | succ m=>exact (G m rfl).imp fun vs H Q E h=>by obtain ⟨m',e,h⟩:=h;cases e;exact h
 refine Jc.F.ok sc_law_value_words (fun vs H Q E h=>?_) (fun cdv A outer s H vs Q E hr h=>?_)
 ·obtain ⟨d,x,ws,rfl,_⟩:=h
  rfl
 obtain ⟨d,x,ws,rfl,hx,vw,hz,q⟩:=h;refine ⟨_,(@pss_cons _ _ _ _ _ (@ps_if _ _ _ _ _ _ _ _ (@pt_val _ _ _ (pe_callB (call_isiN' (K:=K) rfl) rfl T.z_isinstance boot_isinstance (@pa2 _ _ _ _ _ (pv 0) (bz rfl T.z_str boot_str) (by rfl) (by rfl))) (by intro _;rfl)) (@pss_one _ _ _ (@ps_ret _ _ _ _ (@pe_lst _ _ _ _ (@pa1 _ _ _ (@pe_op _ _ _ _ _ _ _ _ op_add_str (@pe_op _ _ _ _ _ _ _ _ op_add_str pe_str (pv 0)) pe_str) (by rfl))))) pss_nil) (@pss_cons _ _ _ _ _ (@ps_if _ _ _ _ _ _ _ _ (@pt_val _ _ _ (pe_callB (call_isiN' (K:=K) rfl) rfl T.z_isinstance boot_isinstance (@pa2 _ _ _ _ _ (pv 0) (bz rfl T.z_int boot_int) (by rfl) (by rfl))) (by intro _;rfl)) (@pss_one _ _ _ (@ps_ret _ _ _ _ (@pe_lst _ _ _ _ (@pa1 _ _ _ (pe_callTy call_str_int rfl T.z_str boot_str (@pa1 _ _ _ (pv 0) (by rfl))) (by rfl))))) pss_nil) (@pss_cons _ _ _ _ _ (@ps_set _ _ 1 _ _ _ _ sc_law_value_words.nd rfl (Or.inl rfl) (@pe_lst _ _ _ _ pa_nil) (by rfl) (.inl rfl)) (@pss_cons _ _ _ _ _ (ps_for PassesOwn.never rfl (pi_tupN (K:=K) rfl (@pi1 K _ _ _ _ _ _ _ rfl (pv 0))) (ao (i:=2) sc_law_value_words.nd rfl (Or.inl rfl))
    (@pss_one _ _ _ (@ps_if _ _ _ _ _ _ _ _ (pt_cmpR op_eq (@pi1 K _ _ _ _ _ _ _ rfl (pv 0)) pe_str (nomark _)) (@pss_one _ _ _ (@ps_set _ _ 1 _ _ _ _ sc_law_value_words.nd rfl (Or.inl rfl) (@pe_op _ _ _ _ _ _ _ _ (cF (K:=K) rfl) (@pe_op _ _ _ _ _ _ _ _ (cF (K:=K) rfl) (@pe_op _ _ _ _ _ _ _ _ (cF (K:=K) rfl) (pv 1) (@pe_lst _ _ _ _ (@pa2 _ _ _ _ _ (@pi1 K _ _ _ _ _ _ _ rfl (pv 2)) pe_str (by rfl) (by rfl)))) (pcl Jc Jl (hr.mono (by lia)) rfl (@pa1 _ _ _ (@pi1 K _ _ _ _ _ _ _ rfl (pv 2)) (by rfl)))) (@pe_lst _ _ _ _ (@pa1 _ _ _ pe_str (by rfl)))) (by rfl) (.inl rfl))) (@pss_one _ _ _ (@ps_set _ _ 1 _ _ _ _ sc_law_value_words.nd rfl (Or.inl rfl) (@pe_op _ _ _ _ _ _ _ _ (cF (K:=K) rfl) (@pe_op _ _ _ _ _ _ _ _ (cF (K:=K) rfl) (pv 1) (pcl Jc Jl (hr.mono (by lia)) rfl (@pa1 _ _ _ (pv 2) (by rfl)))) (@pe_lst _ _ _ _ (@pa1 _ _ _ pe_str (by rfl)))) (by rfl) (.inl rfl)))))) (@pss_cons _ _ _ _ _ (@ps_set _ _ 3 _ _ _ _ sc_law_value_words.nd rfl (Or.inl rfl) (@jc _ _ _ _ _ _ (u1 hr.units) (@wW _ _ _ _ _ (@jy _ _ _ _ _ _ _ _ _ pe_str (@pe_lst _ _ _ _ (@pa2 _ _ _ _ _ pe_str pe_str (by rfl) (by rfl))) (@jy _ _ _ _ _ _ _ _ _ pe_str (@pe_lst _ _ _ _ (@pa2 _ _ _ _ _ pe_str pe_str (by rfl) (by rfl))) (@jy _ _ _ _ _ _ _ _ _ pe_str (@pe_lst _ _ _ _ (@pa2 _ _ _ _ _ pe_str pe_str (by rfl) (by rfl))) (@wV _ _)))) rfl rfl (List.cons_ne_nil _ _) (show 3≤15 by decide)) (@pi1 K _ _ _ _ _ _ _ rfl (pv 0)) (fun _ _=>rfl)) (by rfl) (.inl rfl)) (@pss_one _ _ _ (@ps_ret _ _ _ _ (@pe_op _ _ _ _ _ _ _ _ (cF (K:=K) rfl) (@pe_op _ _ _ _ _ _ _ _ (cF (K:=K) rfl) (@pe_lst _ _ _ _ (@pa1 _ _ _ (@pe_ix _ _ _ _ _ _ _ (aP (K:=K) rfl) (pv 3) pe_int (fun _ _=>rfl)) (by rfl))) (pe_slice (eE (K:=K) rfl) (pv 1) dB (po_some (pe_callB (kX rfl) rfl T.z_max boot_max (@pa2 _ _ _ _ _ pe_int (@pe_op _ _ _ _ _ _ _ _ dv (pe_callB (bg (K:=K) rfl) rfl T.z_len boot_len (@pa1 _ _ _ (pv 1) (by rfl))) pe_int) (by rfl) (by rfl)))))) (@pe_lst _ _ _ _ (@pa1 _ _ _ (@pe_ix _ _ _ _ _ _ _ (aP (K:=K) rfl) (pv 3) pe_int (fun _ _=>rfl)) (by rfl))))))))))),?_⟩
 have key:(∃ i:Int,d=.int i∧ws=[jF i]∧i.natAbs < 10 ^ 35)∨(∃ z:Str,d=.str z∧ws=[quo z]∧z.length≤60)∨∃ (m:Nat) (wd a b:Str) (ds:List Dt) (wss:List (List Str)),n=m+1∧d=.tup [.str wd,.tup ds]∧ws=enc a (bA wss) b∧((wd= "list" ∧a= "[" ∧b= "]")∨(wd= "rows" ∧a= "(" ∧b= ")")∨(wd= "record" ∧a= "{" ∧b= "}"))∧ds.length≤8∧wss.length=ds.length ∧
   ∀ (i:Nat) (e:Dt) (y:List Str),ds[i]?=some e→wss[i]?=some y→(¬ wd= "record" ∧VW m e y)∨(wd= "record" ∧∃ (z:Str) (e':Dt) (y':List Str),e=.tup [.str z,e']∧y=[z,":"]++y'∧VW m e' y'):=by
  cases vw with
  | int _ i hi=>exact .inl ⟨i,rfl,rfl,hi⟩
  | str _ z _ hl=>exact .inr (.inl ⟨z,rfl,rfl,hl⟩)
  | @list m its h8 hk=>exact .inr (.inr ⟨m,_,_,_,_,_,rfl,rfl,rfl,.inl ⟨rfl,rfl,rfl⟩,by rw [aAa];exact h8,by rw [aAa,aAa],fun i e y h1 h2=>by
    rw [aAg] at h1 h2;obtain ⟨it,hit,rfl⟩:=aAh.mp h1;rw [hit] at h2
    cases h2
    exact .inl ⟨by decide +kernel,hk it (aAn hit)⟩⟩)
  | @rows m its h8 hk=>exact .inr (.inr ⟨m,_,_,_,_,_,rfl,rfl,rfl,.inr (.inl ⟨rfl,rfl,rfl⟩),by rw [aAa];exact h8,by rw [aAa,aAa],fun i e y h1 h2=>by
    rw [aAg] at h1 h2;obtain ⟨it,hit,rfl⟩:=aAh.mp h1;rw [hit] at h2
    cases h2
    exact .inl ⟨by decide +kernel,hk it (aAn hit)⟩⟩)
  | @rcd m gs h8 hzs hk=>exact .inr (.inr ⟨m,_,_,_,_,_,rfl,rfl,rfl,.inr (.inr ⟨rfl,rfl,rfl⟩),by rw [aAa];exact h8,by rw [aAa,aAa],fun i e y h1 h2=>by
    rw [aAg] at h1 h2;obtain ⟨g,hg,rfl⟩:=aAh.mp h1;rw [hg] at h2
    cases h2
    exact .inr ⟨rfl,_,_,_,rfl,rfl,hk g (aAn hg)⟩⟩)
 rcases key with ⟨i,rfl,rfl,hi⟩ | ⟨z,rfl,rfl,hl⟩ | ⟨m,wd,a,b,ds,wss,rfl,rfl,rfl,ab,l8,lw,each⟩
 ·obtain rfl:=aX hx;exact ⟨_,rfl,_,_,_,rfl,.int_str,_,rfl,aH ⟨_,rfl,_,_,_,rfl,.int_int,_,rfl,aL ⟨_,rfl,i,rfl,yn (aAj hi (by decide +kernel)),sz1,fun l hl=>q l _ hl (aj hl _) ac⟩⟩⟩
 ·obtain rfl:=ay hx;refine ⟨_,rfl,_,_,_,rfl,.str_str,_,rfl,aL ⟨_,rfl,_,_,rfl,rfl,xN (by rw [rY.2];lia),_,_,rfl,rfl,xN (by rw [aAu,rY.2];lia),sz1,fun l hl=>q l _ hl (aj hl _) ac⟩⟩
 obtain ⟨ax,u1,u2,rfl,hax,hu1,hu2⟩:=fX hx;obtain rfl:=ay hu1;refine ⟨_,rfl,_,_,_,rfl,.tup_str hax,_,rfl,aH ⟨_,rfl,_,_,_,rfl,.tup_int hax,_,rfl,aH ?_⟩⟩;refine ⟨(by show 0≤sizeLine;decide),fun l hl=>?_⟩;have g1:Same H (upd H l (.lst [])):=aj hl _;have h1:(upd H l (.lst [])) l=some (.lst ((bB (wss.take 0)).map V.str)):=ac;dsimp only [jm]
 revert g1 h1
 generalize upd H l (.lst [])=H1
 intro g1 h1;have wl:=eV (enc a (bA wss) b);rw [jg] at wl;have cl:=tW wss;have win:∀ {y:List Str},y∈wss→bc y≤7200000:=fun hy=>by
  have h1:=sj hy;have h2:bc (bA wss)≤bc (enc a (bA wss) b):=by
   unfold enc;rw [bE,bE];lia
  lia
 refine ⟨_,rfl,_,_,_,hx.same g1,rfl,rfl,fun v2 hv2=>?_⟩;obtain ⟨bx,xs,rfl,hb,_,rb⟩:=hv2.unref;have lx:=rb.length;refine ⟨bx,rfl,⟨_,hb⟩,lY (K:=K) (xs:=xs) (fun i σ H'=>∃ l' v2,Same H1 H'∧H l'=none∧H' l'=some (.lst ((bB (wss.take i)).map V.str))∧σ=[some (.ref ax),some (.ref l'),v2,none]) ⟨l,_,Same.refl _,hl,h1,rfl⟩ (fun i σ H' _ p=>by obtain ⟨_,_,g,_⟩:=p;exact g.tup hb) ?_ ?_⟩
 ·rintro i y σ H2 hy ⟨l',v2,g2,hn,hl',rfl⟩;obtain ⟨d0,hd0,hdy⟩:=rb.get' hy;have il:=(aAc.mp hd0).1;obtain ⟨y0,hy0⟩:∃ y0,wss[i]?=some y0:=⟨_,aAm (by lia)⟩;have tk:wss.take (i+1)=wss.take i++[y0]:=by rw [aAD,hy0];rfl
  have wy:=win (aAn hy0);have ly:=eV y0;have ci:=cl i;have hx2:=(hx.same g1).same g2;refine ⟨_,rfl,_,_,_,hx2,rfl,at0 _ _,isS ?_⟩;refine ⟨rfl,_,rfl,?_⟩;rcases each i d0 y0 hd0 hy0 with ⟨nr,vw0⟩ | ⟨rfl,z,e',y',rfl,rfl,vw0⟩
  ·refine dh (bS nr) ⟨_,rfl,_,rfl,m,rfl,d0,y,y0,rfl,hdy.same g2,vw0,wy,fun b1 H4 hb1 g4 h4=>jh (g4 _ _ hl') h4 (by lia) fun p2 H5 hp2 g5 h5=>?_⟩;refine ⟨sz1,ji [("," : Str)] h5 (by simp only [aAk,aAe,aAI];lia) fun p3 H6 hp3 g6 h6=>?_⟩;refine ⟨p3,_,(g2.trans g4).trans (g5.trans g6),none_of (g1.trans ((g2.trans g4).trans g5)) hp3,?_,rfl⟩;rw [h6,tk,ki];simp
  ·have wy':bc y'≤7200000:=by
    rw [bE] at wy;lia
   have ly':=eV y';obtain ⟨c,c1,c2,rfl,hc,hc1,hc2⟩:=fX hdy;obtain rfl:=ay hc1;refine fW ⟨_,rfl,_,rfl,_,_,_,hdy.same g2,rfl,at0 _ _,isS ?_⟩;refine ⟨sz2,ji [z,":"] hl' (by simp only [aAe,aAI];lia) fun p1 H3 hp1 g3 h3=>?_⟩;refine ⟨_,rfl,_,_,_,(hdy.same g2).same g3,rfl,rfl,fun v5 hv5=>?_⟩;refine ⟨m,rfl,e',v5,y',rfl,hv5,vw0,wy',fun b1 H4 hb1 g4 h4=>jh (g4 _ _ h3) h4 (by simp only [aAk,aAe,aAI] at *;lia) fun p2 H5 hp2 g5 h5=>?_⟩;refine ⟨sz1,ji [("," : Str)] h5 (by simp only [aAk,aAe,aAI] at *;lia) fun p3 H6 hp3 g6 h6=>?_⟩;refine ⟨p3,_,((g2.trans g3).trans g4).trans (g5.trans g6),none_of (g1.trans (((g2.trans g3).trans g4).trans g5)) hp3,?_,rfl⟩;rw [h6,tk,ki];simp
 rintro σ H2 ⟨l',v2,g2,hn,hl',rfl⟩;rw [aAM (by lia)] at hl';intro p hp;refine ⟨sz2,fun l1 k1=>⟨sz2,fun l2 k2=>⟨sz2,fun l3 k3=>?_⟩⟩⟩;have n1:p≠l1:=ah ac k1;have n2:p≠l2:=fun c=>by rw [← c,ag n1,ac] at k2;cases k2
 have n12:l1≠l2:=ah ac k2;have n3:p≠l3:=fun c=>by rw [← c,ag n2,ag n1,ac] at k3;cases k3
 have n13:l1≠l3:=fun c=>by rw [← c,ag n12,ac] at k3;cases k3
 have n23:l2≠l3:=ah ac k3;refine ⟨by rw [ag n3,ag n2,ag n1,ac],[(Sum.inr "list",.ref l1),(Sum.inr "record",.ref l2),(Sum.inr "rows",.ref l3)],rfl,(by show 3≤15;decide),?_⟩;have S0:Same H2 (upd (upd (upd (upd H2 p (.dK [])) l1 (.lst [V.str "[",V.str "]"])) l2 (.lst [V.str "{",V.str "}"])) l3 (.lst [V.str "(",V.str ")"])):=(((aj hp _).trans (aj k1 _)).trans (aj k2 _)).trans (aj k3 _);obtain ⟨li,ev,el,ni⟩:∃ li,bV (cE [] [(Sum.inr "list",.ref l1),(Sum.inr "record",.ref l2),(Sum.inr "rows",.ref l3)]) (Sum.inr wd)=some (.ref li)∧(upd (upd (upd (upd H2 p (.dK [])) l1 (.lst [V.str "[",V.str "]"])) l2 (.lst [V.str "{",V.str "}"])) l3 (.lst [V.str "(",V.str ")"])) li=some (.lst [V.str a,V.str b])∧li≠p:=by
  rcases ab with ⟨rfl,rfl,rfl⟩ | ⟨rfl,rfl,rfl⟩ | ⟨rfl,rfl,rfl⟩
  ·exact ⟨l1,by rfl,by rw [ag n13,ag n12,ac],n1.symm⟩
  ·exact ⟨l3,by rfl,ac,n3.symm⟩
  ·exact ⟨l2,by rfl,by rw [ag n23,ac],n2.symm⟩
 revert S0 el
 generalize upd (upd (upd (upd H2 p (.dK [])) l1 (.lst [V.str "[",V.str "]"])) l2 (.lst [V.str "{",V.str "}"])) l3 (.lst [V.str "(",V.str ")"])=H3
 intro S0 el;have S1:Same H2 (upd H3 p (.dK (cE [] [(Sum.inr "list",.ref l1),(Sum.inr "record",.ref l2),(Sum.inr "rows",.ref l3)]))):=a8 hp S0;have el':(upd H3 p (.dK (cE [] [(Sum.inr "list",.ref l1),(Sum.inr "record",.ref l2),(Sum.inr "rows",.ref l3)]))) li=some (.lst ([a,b].map V.str)):=by rw [ag ni];exact el
 have ep:(upd H3 p (.dK (cE [] [(Sum.inr "list",.ref l1),(Sum.inr "record",.ref l2),(Sum.inr "rows",.ref l3)]))) p=some (.dK (cE [] [(Sum.inr "list",.ref l1),(Sum.inr "record",.ref l2),(Sum.inr "rows",.ref l3)])):=ac
 revert S1 el' ep
 generalize upd H3 p (.dK (cE [] [(Sum.inr "list",.ref l1),(Sum.inr "record",.ref l2),(Sum.inr "rows",.ref l3)]))=H4
 intro S1 el' ep;have S4:=(g1.trans g2).trans S1;refine ⟨_,rfl,_,_,_,hx.same S4,rfl,at0 _ _,isS ?_⟩;refine ⟨p,.ref li,rfl,ev ▸ DGet.k (k:=Sum.inr wd) ep,?_⟩;have hw4:=S1 _ _ hl';refine ⟨_,rfl,li,_,_,_,rfl,rfl,SqL.of el',rfl,sz1,fun q1 hq1=>?_⟩;have G1:=aj (H:=H4) hq1 (.lst [V.str a]);have cutE:nA ((bB wss).map V.str) none (some (if (((bB wss).map V.str).length:Int) - 1 > 0 then (((bB wss).map V.str).length:Int) - 1 else 0))=(bA wss).map V.str:=by
  cases wss with
  | nil=>rfl
  | cons y r =>
   rw [iA,aAo];have e:(if ((((bA (y :: r)).map V.str++[("," : Str)].map V.str).length:Nat):Int) - 1 > 0 then ((((bA (y :: r)).map V.str++[("," : Str)].map V.str).length:Nat):Int) - 1 else 0)=(((bA (y :: r)).map V.str).length:Int):=by
    simp only [aAk,aAa,aAe,aAI]
    split <;> lia
   rw [e];unfold nA;rw [HT.sIx_none,HT.sIx_nat];simp
 refine ⟨_,rfl,_,rfl,l',_,rfl,.inl (SqL.of (G1 _ _ hw4)),_,_,rfl,rfl,_,_,rfl,_,rfl,l',_,rfl,SqL.of (G1 _ _ hw4),fun q2 hq2=>?_⟩;rw [cutE];have nq:q1≠q2:=ah ac hq2;have G2:=G1.trans (aj hq2 (.lst ((bA wss).map V.str)));refine jh (xs:=[a]) (ys:=bA wss) (by rw [ag nq,ac];rfl) ac (by simp only [aAe,aAI];lia) fun p5 H5 hp5 g5 h5=>?_;have S5:=(S4.trans G2).trans g5;refine ⟨_,rfl,li,_,_,_,rfl,rfl,SqL.of (g5 _ _ (G2 _ _ el')),rfl,sz1,ji [b] h5 (by simp only [aAk,aAe,aAI];lia) fun p6 H6 hp6 g6 h6=>?_⟩;exact q p6 H6 (none_of S5 hp6) (S5.trans g6) h6
theorem sk (T:Tx K mg ad) {f:Addr} {fd:FuncData} (D:Gn K mg "_law_value_words" bn ["value"] f fd):∀ n,FnOk P w K mg base CX0 (n+3) f fd ["value"] (xQ K n)
 | 0=>cK T 0 D fun m h=>by cases h
 | n+1=>cK T (n+1) D fun m h=>by cases h;exact sk T D n
theorem wm (z:Str):∀ ws:List Str,inV (V.str z) (ws.map V.str)=decide (z∈ws)
 | []=>by simp [inV]
 | w :: ws=>by
  have ih:=wm z ws;have e:inV (V.str z) ((w :: ws).map V.str)=(eqV (V.str w) (V.str z) || inV (V.str z) (ws.map V.str)):=rfl;have e2:eqV (V.str w) (V.str z)=decide (w=z):=rfl;rw [e,ih,e2,aAX];simp only [Bool.or_eq_true,decide_eq_true_eq,aAp];exact ⟨fun h=>h.imp Eq.symm id,fun h=>h.imp Eq.symm id⟩
def bw (p:Str×Nat):Str:=p.1++bW (List.replicate p.2 32)
theorem kj:∀ zs:List Str,(Str.join (Str.ofString "") zs).cps.toList=zs.flatMap fun z=>z.cps.toList
 | []=>rfl
 | [x]=>by simp [Str.join]
 | x :: y :: r=>by
  have:=kj (y :: r);rw [PyProof.Rows.join_cons_cons,bH,bH,this];simp [show (Str.ofString "").cps.toList=[] from rfl]
theorem iB:∀ (ws:List Str) (bs:List Nat),(((ws.zip bs).map bw).flatMap fun z=>z.cps.toList)=aM ws bs
 | [],_=>by simp [aM]
 | _ :: _,[]=>by simp [aM]
 | w :: ws,b :: bs=>by
  rw [aBU,aAt,aBZ,iB ws bs];simp only [aM,bw,bH,cJ,aAZ]
theorem qR:∀ (ws:List Str) (bs:List Nat),(∀ b∈bs,b≤2)→(((ws.zip bs).map bw).map (·.length)).sum≤bc ws
 | [],_,_=>by simp
 | _ :: _,[],_=>by simp
 | w :: ws,b :: bs,h=>by
  have:=qR ws bs fun x hx=>h x (aAi _ hx);have hb:=h b aAd;rw [aBU,aAt,aAt,aBv,bv];have e:(bw (w,b)).length=w.length+b:=by
   unfold bw;rw [aAu,← aq (bW _),cJ,aAP]
  lia
theorem qS (w:Str):blk w≤2:=by
 unfold blk
 split <;> decide
theorem iC {z:Str} {n:Nat} (h:z.cps.toList=(List.replicate ((n:Nat):Int).toNat (Str.ofString " ").cps.toList).flatten):z=bW (List.replicate n 32):=by
 rw [aA8,show (Str.ofString " ").cps.toList=[32] by decide +kernel] at h;apply cv;rw [h,cJ]
 clear h
 induction n with
 | zero=>rfl
 | succ n ih=>rw [aBa,aBa,List.flatten_cons,ih];rfl
def m5 (K:W.Frag) (_:Ads):Sp:=fun vs H Q _=>∃ (l:Addr) (ws:List Str),vs=[.ref l]∧H l=some (.lst (ws.map V.str))∧bc ws≤7200000∧∀ H',Same H H'→Q (.str (aY ws)) H'
theorem m6 (T:Tx K mg ad) {f:Addr} {fd:FuncData} (F:Gn K mg "_law_tight" ff ["words"] f fd):FnOk P w K mg base CX0 1 f fd ["words"] (m5 K ad):=by
 refine F.F.ok nc (fun vs H Q E h=>?_) (fun cdv A outer s H vs Q E hr h=>?_)
 ·obtain ⟨l,ws,rfl,_⟩:=h
  rfl
 obtain ⟨l,ws,rfl,hl,hw,q⟩:=h;refine ⟨_,(@pss_one _ _ _ (@ps_ret _ _ _ _ (pe_bm PySem.F.plainAttrs_str PySem.F.slot_str_join PySem.F.type_str_join gC pe_str (@pa1 _ _ _ (pe_comp rfl (cs0 (NL:=["word"]) rfl (by decide +kernel) (by decide +kernel)) (pi_listN (K:=K) rfl (pv 0)) (fun _ _ _ _=>(ao (i:=0) (show List.Nodup (α:=Str) ["word"] by decide +kernel) rfl (Or.inl rfl))) (fun _ _ _ _=>(@pe_op _ _ _ _ _ _ _ _ op_add_str (pv 0) (@pe_op _ _ _ _ _ _ _ _ fV pe_str (pe_callTy kY rfl T.z_int boot_int (@pa1 _ _ _ (pe_cmpR (dH (K:=K) rfl) (pv 0) (@pe_lst _ _ _ _ (@pa3 _ _ _ _ _ _ _ pe_str pe_str pe_str (by rfl) (by rfl) (by rfl))) rfl) (by rfl))))))) (by rfl))))),?_⟩;have lw:=eV ws;refine ⟨rfl,_,rfl,l,rfl,⟨_,SqL.of hl⟩,fun p hp=>?_⟩;refine jC (K:=K) (xs:=ws.map V.str) (fun i zs σ H'=>zs=(((ws.zip (ws.map blk)).map bw).take i).map V.str∧Same H H'∧H' p=some (.lst zs)∧∃ w1,σ=[w1]) ⟨rfl,aj hp _,ac,_,rfl⟩ (fun i zs σ H' _ r=>SqL.of (r.2.1 _ _ hl)) ?_ ?_
 ·rintro i y zs σ H1 N hy ⟨rfl,g1,f1,w1,rfl⟩ next;rw [aAg] at hy;obtain ⟨z,hz,rfl⟩:=aAh.mp hy;have hzm:=pG (aAn hz);have hb0:((ws.zip (ws.map blk)).map bw)[i]?=some (bw (z,blk z)):=by
   rw [aAg,(aA1 (z:=(z,blk z))).mpr ⟨hz,by rw [aAg,hz];rfl⟩]
   rfl
  refine ⟨_,rfl,_,rfl,sz3,fun b hb=>?_⟩;have eb:(if inV (V.str z) ([(",": Str),":",";"].map V.str)=true then (1:Int) else 0)=((blk z:Nat):Int):=by
   rw [wm];unfold blk
   by_cases h:z= "," ∨z= ":" ∨z= ";"
   ·rw [if_pos (decide_eq_true (by simpa using h)),if_pos h]
    rfl
   ·rw [if_neg (by simpa using h),if_neg h]
    rfl
  refine ⟨b,[(",": Str),":",";"].map V.str,rfl,.inl (SqL.of ac),rfl,rfl,.inr ⟨_,rfl,_,_,rfl,rfl,by decide +kernel,by decide +kernel,?_,?_,fun z' hz'=>?_⟩⟩
  ·show (0:Int)≤if inV (V.str z) _=true then 1 else 0
   split <;> decide
  ·show (if inV (V.str z) _=true then (1:Int) else 0)≤100
   split <;> decide
  obtain rfl:z'=bW (List.replicate (blk z) 32):=iC (by rw [← eb];exact hz');have ll:(bW (List.replicate (blk z) 32)).length≤2:=by
   rw [← aq,cJ,aAP];exact qS z
  refine ⟨_,_,rfl,rfl,dY (by lia),?_⟩;have nb:p≠b:=ah f1 hb;refine ⟨by rw [ag nb];exact f1,?_,next _ _ _ ⟨?_,a8 hp (g1.trans (aj hb _)),ac,_,rfl⟩⟩
  ·rw [aAa,aAz,aAa,aBe,aAa];exact aBp (aB7 _ _) (aBp (show min ws.length ws.length≤7200000 by lia) (by decide))
  ·rw [aAD,hb0,aAo]
   rfl
 rintro zs σ H1 ⟨rfl,g1,f1,w1,rfl⟩;have ll:((ws.zip (ws.map blk)).map bw).length=ws.length:=by rw [aAa,aBe,aAa,aBH]
 rw [aAM (by rw [ll];exact aB3 (aAa _).symm)] at f1;have bl:=qR ws (ws.map blk) fun b hb=>by
  obtain ⟨z,_,rfl⟩:=aAr.mp hb;exact qS z
 refine ⟨_,p,(ws.zip (ws.map blk)).map bw,rfl,rfl,.inl (SqL.of f1),by rw [ll,show (Str.ofString "").length=0 from rfl];lia,?_⟩;rw [kb,show Str.join (Str.ofString "") ((ws.zip (ws.map blk)).map bw)=aY ws from cv ((kj _).trans (iB _ _))];exact q H1 g1
def m7 (K:W.Frag) (_:Ads):Sp:=fun vs H Q _=>∃ (l r:Addr) (n:Int) (ws:List Str),vs=[.ref l,.ref r]∧l≠r∧H l=some (.lst (ws.map V.str))∧H r=some (.lst [.int n])∧bc ws≤7200000 ∧
 ∀ (z:Str) (b:Nat) (bs:List Nat) (n':Int) H',But r H H'→H' r=some (.lst [.int n'])→bs.length=ws.length→z.cps.toList=List.replicate b 32++aM ws bs→z.length≤7200002→Q (.str z) H'
theorem m8 (T:Tx K mg ad) {f:Addr} {fd:FuncData} (F:Gn K mg "_law_loose" cV ["words","row"] f fd):FnOk P w K mg base CX0 2 f fd ["words","row"] (m7 K ad):=by
 obtain ⟨_,_,IR⟩:=T.law_digit;have IS:=aE (P:=P) (w:=w) (base:=base) T IR;refine F.F.ok ng (fun vs H Q E h=>?_) (fun cdv A outer s H vs Q E hr h=>?_)
 ·obtain ⟨l,r,n,ws,rfl,_⟩:=h
  rfl
 obtain ⟨l,r,n,ws,rfl,hlr,hl,hr0,hw,q⟩:=h;refine ⟨_,(@pss_one _ _ _ (@ps_ret _ _ _ _ (@pe_op _ _ _ _ _ _ _ _ op_add_str (@pe_op _ _ _ _ _ _ _ _ fV pe_str (pcl IR IS (hr.mono (by lia)) rfl (@pa2 _ _ _ _ _ (pv 1) pe_int (by rfl) (by rfl)))) (pe_bm PySem.F.plainAttrs_str PySem.F.slot_str_join PySem.F.type_str_join gC pe_str (@pa1 _ _ _ (pe_comp rfl (csR (sc:=ai cV) (NL:=["word"]) (N:=["words","row"]) (ρ:=[1]) (N':=["word","row"]) rfl rfl rfl (by decide +kernel) (by decide +kernel) (by decide +kernel) rfl (by decide +kernel)) (pi_listN (K:=K) rfl (pv 0)) (fun _ _ _ _=>(ao (i:=0) (show List.Nodup (α:=Str) ["word","row"] by decide +kernel) rfl (Or.inl rfl))) (fun _ _ _ _=>(@pe_op _ _ _ _ _ _ _ _ op_add_str (pv 0) (@pe_op _ _ _ _ _ _ _ _ fV pe_str (pcl IR IS (hr.mono (by lia)) rfl (@pa2 _ _ _ _ _ (pv 1) pe_int (by rfl) (by rfl))))))) (by rfl)))))),?_⟩;have lw:=eV ws;obtain ⟨m0,m1⟩:=mod_lt n (m:=3) (by decide);obtain ⟨b0,hb0⟩:∃ b0:Nat,n % 3=(b0:Int):=⟨(n % 3).toNat,by lia⟩;refine ⟨_,rfl,r,n,3,rfl,hr0,by decide,by decide,_,_,rfl,rfl,by decide +kernel,by decide +kernel,by lia,by lia,fun z0 hz0=>?_⟩;rw [hb0] at hz0 m1;obtain rfl:=iC hz0;have B1:But r H (upd H r (.lst [.int (n / 3)])):=But.put;have R1:(upd H r (.lst [.int (n / 3)])) r=some (.lst [.int (n / 3)]):=ac
 revert B1 R1
 generalize upd H r (.lst [.int (n / 3)])=H1
 generalize n / 3=n1
 intro B1 R1;refine ⟨rfl,_,rfl,l,rfl,⟨_,SqL.of (B1 _ _ hlr hl)⟩,fun p hp=>?_⟩;have npr:p≠r:=fun c=>by rw [c,R1] at hp;cases hp
 have hpH:H p=none:=by
  cases c:H p with
  | none=>rfl
  | some o=>rw [B1 _ _ npr c] at hp;cases hp
 refine jC (K:=K) (xs:=ws.map V.str) (fun i zs σ H'=>∃ (bs:List Nat) (k:Int),bs.length=i∧(∀ b∈bs,b≤2)∧zs=((((ws.take i).zip bs).map bw)).map V.str∧But r H H'∧H' r=some (.lst [.int k])∧H' p=some (.lst zs)∧∃ w1,σ=[w1,some (.ref r)]) ⟨[],n1,rfl,(fun _ h=>nomatch h),rfl,fz B1 hpH,by rw [ag (Ne.symm npr)];exact R1,ac,_,rfl⟩ (fun i zs σ H' _ ⟨_,_,_,_,_,g,_⟩=>SqL.of (g _ _ hlr hl)) ?_ ?_
 ·rintro i y zs σ H2 N hy ⟨bs,k,lb,hb2,rfl,g2,r2,f2,w1,rfl⟩ next;rw [aAg] at hy;obtain ⟨z,hz,rfl⟩:=aAh.mp hy;have hzm:=pG (aAn hz);have hi:=(aAc.mp hz).1;obtain ⟨k0,k1⟩:=mod_lt k (m:=3) (by decide);obtain ⟨c,hc⟩:∃ c:Nat,k % 3=(c:Int):=⟨(k % 3).toNat,by lia⟩;refine ⟨_,rfl,_,rfl,r,k,3,rfl,r2,by decide,by decide,_,_,rfl,rfl,by decide +kernel,by decide +kernel,by lia,by lia,fun z' hz'=>?_⟩;rw [hc] at hz';obtain rfl:=iC hz';have lc:(bW (List.replicate c 32)).length=c:=by rw [← aq,cJ,aAP]
  refine ⟨_,_,rfl,rfl,dY (by lia),?_⟩;refine ⟨by rw [ag npr];exact f2,?_,next _ _ _ ⟨bs++[c],k / 3,by rw [aAk,lb];rfl,fun b hb=>?_,?_,fz (g2.trans But.put) hpH,by rw [ag (Ne.symm npr),ac],ac,_,rfl⟩⟩
  ·rw [aAa,aAa,aBe,aAz];exact aBp (show min (min i ws.length) bs.length≤7200000 by lia) (by decide)
  ·rcases aAK.mp hb with h | h
   ·exact hb2 b h
   ·rw [aAE.mp h];lia
  ·rw [aAD,hz];show _=((((ws.take i)++[z]).zip (bs++[c])).map bw).map V.str;rw [List.zip_append (by rw [aAz,lb];lia),aAo,aAo]
   rfl
 rintro zs σ H2 ⟨bs,k,lb,hb2,rfl,g2,r2,f2,w1,rfl⟩;rw [aAa] at lb;rw [aAM (by rw [aAa];exact aAl _)] at f2;have bl:=qR ws bs hb2;have sl:=gh ws bs hb2;have ll:((ws.zip bs).map bw).length=ws.length:=by rw [aAa,aBe,lb,aBH]
 refine ⟨_,p,(ws.zip bs).map bw,rfl,rfl,.inl (SqL.of f2),by rw [ll,show (Str.ofString "").length=0 from rfl];lia,?_⟩;have ej:(Str.join (Str.ofString "") ((ws.zip bs).map bw)).cps.toList=aM ws bs:=(kj _).trans (iB _ _);have lj:(Str.join (Str.ofString "") ((ws.zip bs).map bw)).length≤7200000:=by
  rw [← aq,ej];lia
 have l0:(bW (List.replicate b0 32)).length=b0:=by rw [← aq,cJ,aAP]
 rw [kb];refine ⟨_,_,rfl,rfl,dY (by lia),?_⟩;refine q _ b0 bs k H2 g2 r2 lb ?_ ?_
 ·rw [bH,ej,cJ]
 ·show (bW (List.replicate b0 32)++Str.join (Str.ofString "") ((ws.zip bs).map bw)).length≤_;rw [aAu];lia
def sm (K:W.Frag) (n:Nat):Sp:=fun vs H Q _=>∃ (d:Dt) (x y:V),vs=[x,y]∧IsP K H d x∧IsP K H d y∧Sz d∧d.dep≤n∧n≤55∧∀ H',Same H H'→Q (.bl true) H'
theorem BZ {l:List Dt} {x:Dt} (h:x∈l):x.dep≤dE l:=by
 induction l with
 | nil=>cases h
 | cons d l ih =>
  simp only [dE];rcases aAp.mp h with rfl | h
  ·lia
  ·have:=ih h;lia
theorem iQ (T:Tx K mg ad) (n:Nat) {f:Addr} {fd:FuncData} (Js:Gn K mg "_law_same" cL ["one","other"] f fd) (G:∀ m,n=m+1→FnOk P w K mg base CX0 (m+3) f fd ["one","other"] (sm K m)):FnOk P w K mg base CX0 (n+3) f fd ["one","other"] (sm K n):=by
 have JI:FnOk P w K mg base CX0 (n+2) f fd ["one","other"] (fun vs H Q E=>∃ m,n=m+1∧sm K m vs H Q E):=by
  cases n with
  | zero=>exact bu fun _ _ _ _ h=>by obtain ⟨m,h,_⟩:=h;cases h
  | succ m=>exact (G m rfl).imp fun vs H Q E h=>by obtain ⟨m',e,h⟩:=h;cases e;exact h
 refine Js.F.ok pT (fun vs H Q E h=>?_) (fun cdv A outer s H vs Q E hr h=>?_)
 ·obtain ⟨d,x,y,rfl,_⟩:=h
  rfl
 obtain ⟨d,x,y,rfl,hx,hy,sz,dp,n55,q⟩:=h;refine ⟨_,(@pss_cons _ _ _ _ _ (@ps_if _ _ _ _ _ _ _ _ (PW.pt (@pw_and _ _ _ _ _ _ _ (@pt_val _ _ _ (pe_callB (call_isiN' (K:=K) rfl) rfl T.z_isinstance boot_isinstance (@pa2 _ _ _ _ _ (pv 0) (bz rfl T.z_tuple boot_tuple) (by rfl) (by rfl))) (by intro _;rfl)) (@pw_and1 _ _ _ _ (@pt_val _ _ _ (pe_callB (call_isiN' (K:=K) rfl) rfl T.z_isinstance boot_isinstance (@pa2 _ _ _ _ _ (pv 1) (bz rfl T.z_tuple boot_tuple) (by rfl) (by rfl))) (by intro _;rfl))))) (@pss_one _ _ _ (@ps_ret _ _ _ _ (pe_and (pe_cmpR op_eq (pe_callB (call_lenDN (K:=K) rfl) rfl T.z_len boot_len (@pa1 _ _ _ (pv 0) (by rfl))) (pe_callB (call_lenDN (K:=K) rfl) rfl T.z_len boot_len (@pa1 _ _ _ (pv 1) (by rfl))) (nomark _)) (dr (pe_callB (call_allN (K:=K) rfl rfl) rfl T.z_all boot_all (@pa1 _ _ _ (pe_comp rfl (csR (sc:=ai cL) (NL:=["k"]) (N:=["one","other"]) (ρ:=[0,1]) (N':=["k","one","other"]) rfl rfl rfl (by decide +kernel) (by decide +kernel) (by decide +kernel) rfl (by decide +kernel)) (bf rfl T.z_range (@pa1 _ _ _ (pe_callB (call_lenDN (K:=K) rfl) rfl T.z_len boot_len (@pa1 _ _ _ (pv 0) (by rfl))) (by rfl))) (fun _ _ _ _=>(ao (i:=0) (show List.Nodup (α:=Str) ["k","one","other"] by decide +kernel) rfl (Or.inl rfl))) (fun _ _ _ _=>(pcl Js JI (hr.mono (by lia)) rfl (@pa2 _ _ _ _ _ (@pe_ix _ _ _ _ _ _ _ (eD (K:=K) rfl) (pv 1) (pv 0) (fun _ _=>rfl)) (@pe_ix _ _ _ _ _ _ _ (eD (K:=K) rfl) (pv 2) (pv 0) (fun _ _=>rfl)) (by rfl) (by rfl))))) (by rfl))))))) pss_nil) (@pss_one _ _ _ (@ps_ret _ _ _ _ (pe_and (pe_cmpR op_eq (pe_callB (call_isiN' (K:=K) rfl) rfl T.z_isinstance boot_isinstance (@pa2 _ _ _ _ _ (pv 0) (bz rfl T.z_str boot_str) (by rfl) (by rfl))) (pe_callB (call_isiN' (K:=K) rfl) rfl T.z_isinstance boot_isinstance (@pa2 _ _ _ _ _ (pv 1) (bz rfl T.z_str boot_str) (by rfl) (by rfl))) (nomark _)) (dr (pe_cmpR (je (K:=K) rfl hr.units) (pv 0) (pv 1) (nomark _))))))),?_⟩
 cases sz with
 | int i =>
  obtain rfl:=aX hx;obtain rfl:=aX hy;refine ⟨_,rfl,_,_,_,rfl,.int_tuple,_,rfl,aH ?_⟩;refine ⟨_,rfl,_,_,_,rfl,.int_str,_,rfl,_,_,_,rfl,.int_str,rfl,_,rfl,aL ?_⟩;refine ⟨_,rfl,_,rfl,.int i,.int i,.int,.int,(by show 0≤60;decide),?_⟩;rw [a7];exact q H (Same.refl H)
 | str z hz =>
  obtain rfl:=ay hx;obtain rfl:=ay hy;refine ⟨_,rfl,_,_,_,rfl,.str_tuple,_,rfl,aH ?_⟩;refine ⟨_,rfl,_,_,_,rfl,.str_str,_,rfl,_,_,_,rfl,.str_str,rfl,_,rfl,aL ?_⟩;refine ⟨_,rfl,_,rfl,.str z,.str z,.str,.str,(by show 0≤60;decide),?_⟩;rw [a7];exact q H (Same.refl H)
 | @tup l h1 h2 =>
  obtain ⟨a,xs,rfl,ha,_,ra⟩:=hx.unref;obtain ⟨b,ys,rfl,hb,_,rb⟩:=hy.unref;have lx:=ra.length;have ly:=rb.length;obtain ⟨m,rfl⟩:∃ m,n=m+1:=⟨n - 1,by simp only [Dt.dep] at dp;lia⟩;refine ⟨_,rfl,_,_,_,rfl,.tup_tuple ha,_,rfl,aL ⟨_,rfl,_,_,_,rfl,.tup_tuple hb,_,rfl,aL ?_⟩⟩;refine ⟨_,rfl,_,_,rfl,hx.d,_,rfl,_,_,rfl,hy.d,rfl,_,rfl,?_⟩;refine fW ⟨_,rfl,_,_,rfl,hx.d,_,rfl,by lia,by lia,fun p hp=>?_⟩;refine aU (lo:=0) (n:=((l.length:Nat):Int).toNat) (fun i ys σ H'=>ys=bls (List.replicate i true)∧Same H H'∧H' p=some (.lst ys)∧∃ w1,σ=[w1,some (.ref a),some (.ref b)]) ⟨rfl,aj hp _,ac,_,rfl⟩ ?_ ?_
  ·rintro i zs σ H1 N hi ⟨rfl,g1,f1,w1,rfl⟩ next;rw [aA8] at hi;obtain ⟨d0,hd0⟩:∃ d0,l[i]?=some d0:=⟨_,aAm hi⟩;have hm:=aAn hd0;have dl:=BZ hm;have e0:atI l (0+(i:Int))=some d0:=by rw [aCn];exact ce hd0
   refine ⟨_,rfl,_,rfl,_,_,_,hx.same g1,rfl,e0,fun v1 hv1=>?_⟩;refine ⟨_,rfl,_,rfl,_,_,_,hy.same g1,rfl,e0,fun v2 hv2=>?_⟩;refine ⟨m,rfl,d0,v1,v2,rfl,hv1,hv2,h1 d0 hm,by simp only [Dt.dep] at dp;lia,by lia,fun H2 g2=>?_⟩;refine ⟨g2 _ _ f1,?_,next _ _ _ ⟨?_,a8 hp (g1.trans g2),ac,_,rfl⟩⟩
   ·simp only [bls,aAa,aAP];exact ak (by lia)
   ·simp only [bls,List.replicate_succ',aAo]
    rfl
  rintro zs σ H1 ⟨rfl,g1,f1,w1,rfl⟩;refine ⟨p,_,rfl,rfl,SqL.of f1,?_⟩;have e:(List.replicate ((l.length:Nat):Int).toNat true).all id=true:=aAC.mpr fun x hx=>by
   rw [(List.mem_replicate.mp hx).2]
   rfl
  rw [e];exact q H1 g1
theorem pL (T:Tx K mg ad) {f:Addr} {fd:FuncData} (D:Gn K mg "_law_same" cL ["one","other"] f fd):∀ n,FnOk P w K mg base CX0 (n+3) f fd ["one","other"] (sm K n)
 | 0=>iQ T 0 D fun m h=>by cases h
 | n+1=>iQ T (n+1) D fun m h=>by cases h;exact pL T D n
def kM (K:W.Frag) (ad:Ads):Sp:=fun vs H Q E=>∃ (a ct:Nat) (d e:Dt) (x y:V),a≤5∧vs=[y,x]∧IsP K H d x∧IsP K H e y∧FK a ct d∧Sz e∧e.dep≤55∧(ofN 5 d e=true→∀ H',Same H H'→Q y H')∧(ofN 5 d e=false→∀ H',Same H H'→E (.ref ad.BadValue) none H')
theorem kN (T:Tx K mg ad) {f:Addr} {fd:FuncData} (F:Gn K mg "made_value" dM ["value","kind"] f fd):FnOk P w K mg base (CXE P w) 19 f fd ["value","kind"] (kM K ad):=by
 obtain ⟨_,_,Jt⟩:=T.is_of;obtain ⟨f4,d4,D4⟩:=T.holds_items;obtain ⟨f5,d5,D5⟩:=T.is_record_of;obtain ⟨f6,d6,D6⟩:=T.is_pair_of;have Jz:=jY (P:=P) (w:=w) (base:=base) T Jt D4 D5 D6 5;refine F.F.okW kP (fun vs H Q E h=>?_) (fun cdv A outer s H vs Q E hr h=>?_)
 ·obtain ⟨a,ct,d,e,x,y,_,rfl,_⟩:=h
  rfl
 obtain ⟨a,ct,d,e,x,y,ha,rfl,hd,he,fk,sz,dp,q1,q2⟩:=h;refine ⟨_,(@pss_cons _ _ _ _ _ (@ps_if _ _ _ _ _ _ _ _ (@pt_not _ _ _ _ (@pt_val _ _ _ (pcl Jt Jz (hr.mono (by lia)) rfl (@pa2 _ _ _ _ _ (pv 0) (pv 1) (by rfl) (by rfl))) (by intro _;rfl))) (@pss_one _ _ _ (ps_raiseW rfl rfl rfl rfl T.x_BadValue rfl (@pa1 _ _ _ pe_str (by rfl)))) pss_nil) (@pss_one _ _ _ (@ps_ret _ _ _ _ (pv 0)))),?_⟩;refine ⟨_,rfl,_,rfl,a,ct,d,e,x,y,ha,rfl,hd,he,fk,sz,dp,fun H1 g1=>⟨_,rfl,?_⟩⟩
 cases ho:ofN 5 d e with
 | true=>exact aH ⟨_,rfl,q1 ho H1 g1⟩
 | false=>exact aL ⟨sz1,q2 ho H1 g1⟩
def kO (K:W.Frag) (ad:Ads):Sp:=fun vs H Q E=>∃ (z:Str) (a ct:Nat) (d e:Dt) (x:V),a≤5∧vs=[.str z,x]∧z.length≤100000∧dj 40 "value" z.cps.toList=some e∧IsP K H d x∧FK a ct d∧Sz e∧e.dep≤55∧(ofN 5 d e=true→∀ y H',Same H H'→IsP K H' e y→Q y H')∧(ofN 5 d e=false→∀ H',Same H H'→E (.ref ad.BadValue) none H')
theorem fS (T:Tx K mg ad) {f:Addr} {fd:FuncData} (F:Gn K mg "read_value" dP ["text","kind"] f fd):FnOk P w K mg base (CXE P w) 46 f fd ["text","kind"] (kO K ad):=by
 obtain ⟨f1,d1,JJ⟩:=T.read_all;have KK:=pq (P:=P) (w:=w) (base:=base) T JJ;obtain ⟨f2,d2,Jy⟩:=T.made_value;have Ks:=kN (P:=P) (w:=w) (base:=base) T Jy;refine F.F.okW kT (fun vs H Q E h=>?_) (fun cdv A outer s H vs Q E hr h=>?_)
 ·obtain ⟨z,a,ct,d,e,x,_,rfl,_⟩:=h
  rfl
 obtain ⟨z,a,ct,d,e,x,ha,rfl,hz,hrd,hd,fk,sz,dp,q1,q2⟩:=h;refine ⟨_,(@pss_one _ _ _ (@ps_ret _ _ _ _ (pe_call Ks (hr.mono (by first | decide | lia)) rfl Jy.m Jy.F.kp Jy.b .nil (wing_on rfl rfl rfl) (@pa2 _ _ _ _ _ (pe_call KK (hr.mono (by first | decide | lia)) rfl JJ.m JJ.F.kp JJ.b .nil (wing_on rfl rfl rfl) (@pa2 _ _ _ _ _ (pv 0) pe_str (by rfl) (by rfl))) (pv 1) (by rfl) (by rfl))))),?_⟩;refine ⟨_,rfl,z,"value",rfl,hz,?_,fun v hv y H1 g1 hy=>?_,fun hn=>?_⟩
 ·intro toks h1 h2 h3;unfold dj at hrd;rw [h1] at hrd;dsimp only at hrd;rw [if_pos h2,h3] at hrd
  cases hrd
 ·rw [hrd] at hv
  cases hv
  exact ⟨_,rfl,a,ct,d,e,x,y,ha,rfl,hd.same g1,hy,fk,sz,dp,fun ho H2 g2=>q1 ho y H2 (g1.trans g2) (hy.same g2),fun ho H2 g2=>q2 ho H2 (g1.trans g2)⟩
 ·rw [hrd] at hn
  cases hn
def tX (K:W.Frag) (_:Ads):Sp:=fun vs H Q _=>∃ (z:Str) (a ct:Nat) (d e:Dt) (x:V),a≤5∧vs=[.str z,x]∧z.length≤100000∧dj 40 "value" z.cps.toList=some e∧IsP K H d x∧FK a ct d∧Sz e∧e.dep≤55∧(ofN 5 d e=true→∀ y H',Same H H'→IsP K H' e y→Q y H')∧(ofN 5 d e=false→∀ l H',Same H H'→H' l=some (.lst [.bl true,.bl true,.bl false])→Q (.ref l) H')
theorem tY (T:Tx K mg ad) {f:Addr} {fd:FuncData} (F:Gn K mg "_law_by" kq ["text","kind"] f fd):FnOk P w K mg base CX0 47 f fd ["text","kind"] (tX K ad):=by
 obtain ⟨f1,d1,IZ⟩:=T.read_value;have Jx:=fS (P:=P) (w:=w) (base:=base) T IZ;refine F.F.ok fE (fun vs H Q E h=>?_) (fun cdv A outer s H vs Q E hr h=>?_)
 ·obtain ⟨z,a,ct,d,e,x,_,rfl,_⟩:=h
  rfl
 obtain ⟨z,a,ct,d,e,x,ha,rfl,hz,hrd,hd,fk,sz,dp,q1,q2⟩:=h;refine ⟨_,(@pss_cons _ _ _ _ _ (@ps_set _ _ 2 _ _ _ _ fE.nd rfl (Or.inl rfl) pe_non (by rfl) (.inl rfl)) (@pss_cons _ _ _ _ _ (xh (i:=3) (j:=2) rfl rfl (wS Jx (hr.mono (by first | decide | lia)) rfl IZ.m IZ.F.kp IZ.b (@pa2 _ _ _ _ _ (pv 0) (pv 1) (by rfl) (by rfl))) T.x_HandError.m rfl fE.nd rfl rfl rfl (Or.inl rfl) (fun _=>(@pss_one _ _ _ (@ps_set _ _ 2 _ _ _ _ fE.nd rfl (Or.inl rfl) (@pe_lst _ _ _ _ (@pa3 _ _ _ _ _ _ _ (pe_callB (lh (K:=K) rfl) rfl T.z_isinstance boot_isinstance (@pa2 _ _ _ _ _ (pv 3) (dD rfl T.x_BadValue.m) (by rfl) (by rfl))) (pe_callB (qt (K:=K) rfl) rfl T.z_isinstance boot_isinstance (@pa2 _ _ _ _ _ (pv 3) (bz rfl T.z_ValueError Bq) (by rfl) (by rfl))) (pe_callB (lh (K:=K) rfl) rfl T.z_isinstance boot_isinstance (@pa2 _ _ _ _ _ (pv 3) (dD rfl T.x_BadText.m) (by rfl) (by rfl))) (by rfl) (by rfl) (by rfl))) (by rfl) (.inl rfl))))) (@pss_one _ _ _ (@ps_ret _ _ _ _ (pv 2))))),?_⟩;have kk:=T.kits;simp only [aAs] at kk;obtain ⟨⟨k1,k2⟩,k3⟩:=kk
 have X:=T.x_BadValue.k;refine ⟨_,rfl,_,rfl,z,a,ct,d,e,x,ha,rfl,hz,hrd,hd,fk,sz,dp,fun ho y H1 g1 hy=>⟨_,rfl,q1 ho y H1 g1 hy⟩,fun ho H1 g1=>⟨ad.BadValue,rfl,T.exk,fun ea hea=>?_⟩⟩;have he':=ac (H:=H1) (a:=ea) (o:=xO ea ad.BadValue);refine ⟨_,rfl,ea,_,_,_,rfl,he',X,beq_iff_eq.mp k1,_,rfl,ea,_,_,_,rfl,he',X,beq_iff_eq.mp k2,_,rfl,ea,_,_,_,rfl,he',X,beq_iff_eq.mp k3,sz3,fun l hl=>?_⟩;exact ⟨_,rfl,q2 ho l _ ((g1.trans (aj hea _)).trans (aj hl _)) ac⟩
abbrev B7 (K:W.Frag) (_:Ads):Sp:=Hw K
theorem B8 {a c:Nat} (ha:a≤5) (hc:c≤25):70*(c*8 ^ (a - 1))≤7200000:=by
 have h1:8 ^ (a - 1)≤8 ^ 4:=aBN (by decide) (by lia);have h2:=Nat.mul_le_mul hc h1;have h3:25*8 ^ 4=102400:=by decide
 lia
theorem pM:∀ (ws:List Str) (bs:List Nat),bs.length=ws.length→(bq ws).length≤(aM ws bs).length+ws.length
 | [],_,_=>aAx _
 | w :: ws,[],h=>by cases h
 | w :: ws,b :: bs,h=>by
  have:=pM ws bs (Nat.succ.inj h);rw [cI];simp only [aM];rw [aAk,aAk,aAk,aAk,aAP,aAP,aAe];have:blk w≤1:=by unfold blk;split <;> decide
  lia
theorem tZ {n:Nat} {e:Dt} {ws:List Str} {bs:List Nat} (h:VW n e ws) (hb:bs.length=ws.length):ws.length≤(aM ws bs).length:=by
 obtain ⟨toks,h1,h2⟩:=lQ (h.gw.gl.lex bs hb);have:=(rA _ _ _ h1).2;have h3:=congrArg List.length h2;rw [aAa,aAa] at h3;lia
theorem IQ (T:Tx K mg ad) {f:Addr} {fd:FuncData} (F:Gn K mg "law" sq ["script"] f fd):FnOk P w K mg base CX0 depth f fd ["script"] (B7 K ad):=by
 obtain ⟨f1,d1,Ko⟩:=T.law_own;have KR:=qI (P:=P) (w:=w) (base:=base) T Ko;obtain ⟨f2,d2,Je⟩:=T.law_kind;obtain ⟨e1,e2,D1⟩:=T.law_record_kind;obtain ⟨e3,e4,D2⟩:=T.law_rows_kind;have Jj:=lJ (P:=P) (w:=w) (base:=base) T Je D1 D2 5;obtain ⟨f3,d3,Ji⟩:=T.law_value;obtain ⟨e5,e6,D3⟩:=T.law_row_values;have Jr:=vB (P:=P) (w:=w) (base:=base) T Ji D3;obtain ⟨f4,d4,Jc⟩:=T.law_value_words;have Jl:=sk (P:=P) (w:=w) (base:=base) T Jc 5;obtain ⟨f5,d5,J4⟩:=T.law_tight;have KH:=m6 (P:=P) (w:=w) (base:=base) T J4;obtain ⟨f6,d6,J8⟩:=T.law_loose;have KD:=m8 (P:=P) (w:=w) (base:=base) T J8;obtain ⟨f7,d7,Jm⟩:=T.value_text;have Jn:=lS (P:=P) (w:=w) (base:=base) T Jm 6 5 (by decide);obtain ⟨f8,d8,Js⟩:=T.law_same;have JI:=pL (P:=P) (w:=w) (base:=base) T Js 55;obtain ⟨f9,d9,IZ⟩:=T.read_value;have Jx:=fS (P:=P) (w:=w) (base:=base) T IZ;obtain ⟨f10,d10,Jt⟩:=T.is_of;obtain ⟨e7,e8,D4⟩:=T.holds_items;obtain ⟨e9,e10,D5⟩:=T.is_record_of;obtain ⟨e11,e12,D6⟩:=T.is_pair_of;have Jz:=jY (P:=P) (w:=w) (base:=base) T Jt D4 D5 D6 5;obtain ⟨f11,d11,Kx⟩:=T.law_by
 have KS:=tY (P:=P) (w:=w) (base:=base) T Kx;refine F.F.ok sc_law (fun vs H Q E h=>?_) (fun cdv A outer s H vs Q E hr h=>?_)
 ·obtain ⟨a,ns,rfl,_⟩:=h
  rfl
 obtain ⟨a,ns,rfl,hS,h63,q⟩:=h;refine ⟨_,(@pss_cons _ _ _ _ _ (ps_for PassesOwn.never rfl (bf rfl T.z_range (@pa1 _ _ _ (pe_callB (call_min2 rfl) rfl T.z_min boot_min (@pa2 _ _ _ _ _ pe_int (@pe_op _ _ _ _ _ _ _ _ aB pe_int (pe_callB (bg (K:=K) rfl) rfl T.z_len boot_len (@pa1 _ _ _ (pv 0) (by rfl)))) (by rfl) (by rfl))) (by rfl))) (ao (i:=1) sc_law.nd rfl (Or.inl rfl))
    (@pss_one _ _ _ (ps_for PassesOwn.never rfl (bf rfl T.z_range (@pa1 _ _ _ pe_int (by rfl))) (ao (i:=2) sc_law.nd rfl (Or.inl rfl))
    (@pss_cons _ _ _ _ _ (@ps_set _ _ 3 _ _ _ _ sc_law.nd rfl (Or.inl rfl) (pcl Ko KR (hr.mono (by lia)) rfl (@pa3 _ _ _ _ _ _ _ (pv 0) (pv 1) (pv 2) (by rfl) (by rfl) (by rfl))) (by rfl) (.inl rfl)) (@pss_cons _ _ _ _ _ (@ps_set _ _ 4 _ _ _ _ sc_law.nd rfl (Or.inl rfl) (pcl Je Jj (hr.mono (by lia)) rfl (@pa3 _ _ _ _ _ _ _ (pv 3) pe_int (@pe_lst _ _ _ _ (@pa1 _ _ _ pe_int (by rfl))) (by rfl) (by rfl) (by rfl))) (by rfl) (.inl rfl)) (@pss_cons _ _ _ _ _ (@ps_set _ _ 5 _ _ _ _ sc_law.nd rfl (Or.inl rfl) (pcl Ji Jr (hr.mono (by lia)) rfl (@pa2 _ _ _ _ _ (pv 3) (pv 4) (by rfl) (by rfl))) (by rfl) (.inl rfl)) (@pss_cons _ _ _ _ _ (@ps_set _ _ 6 _ _ _ _ sc_law.nd rfl (Or.inl rfl) (pcl Jc Jl (hr.mono (by lia)) rfl (@pa1 _ _ _ (pv 5) (by rfl))) (by rfl) (.inl rfl)) (@pss_cons _ _ _ _ _ (@ps_set _ _ 7 _ _ _ _ sc_law.nd rfl (Or.inl rfl) (pcl J4 KH (hr.mono (by lia)) rfl (@pa1 _ _ _ (pv 6) (by rfl))) (by rfl) (.inl rfl)) (@pss_cons _ _ _ _ _ (@ps_set _ _ 8 _ _ _ _ sc_law.nd rfl (Or.inl rfl) (pcl J8 KD (hr.mono (by lia)) rfl (@pa2 _ _ _ _ _ (pv 6) (pv 3) (by rfl) (by rfl))) (by rfl) (.inl rfl)) (@pss_cons _ _ _ _ _ (@ps_if _ _ _ _ _ _ _ _ (pt_cmpR op_ne (pcl Jm Jn (hr.mono (by lia)) rfl (@pa1 _ _ _ (pv 5) (by rfl))) (pv 7) (nomark _)) (@pss_one _ _ _ (@ps_ret _ _ _ _ pe_bl)) pss_nil) (@pss_cons _ _ _ _ _ (@ps_if _ _ _ _ _ _ _ _ (pt_cmpR op_gt (pe_callB call_len_str rfl T.z_len boot_len (@pa1 _ _ _ (pv 8) (by rfl))) pe_int (nomark _)) (@pss_one _ _ _ (@ps_ret _ _ _ _ pe_bl)) pss_nil) (@pss_cons _ _ _ _ _ (@ps_if _ _ _ _ _ _ _ _ (PW.pt (@gu _ _ _ _ _ _ _ (@pt_not _ _ _ _ (@pt_val _ _ _ (pcl Js JI (hr.mono (by lia)) rfl (@pa2 _ _ _ _ _ (pe_call Jx (hr.mono (by first | decide | lia)) rfl IZ.m IZ.F.kp IZ.b .nil passF (@pa2 _ _ _ _ _ (pv 7) (pv 4) (by rfl) (by rfl))) (pv 5) (by rfl) (by rfl))) (by intro _;rfl))) (@pw_or1 _ _ _ _ (@pt_not _ _ _ _ (@pt_val _ _ _ (pcl Js JI (hr.mono (by lia)) rfl (@pa2 _ _ _ _ _ (pe_call Jx (hr.mono (by first | decide | lia)) rfl IZ.m IZ.F.kp IZ.b .nil passF (@pa2 _ _ _ _ _ (pv 8) (pv 4) (by rfl) (by rfl))) (pv 5) (by rfl) (by rfl))) (by intro _;rfl)))))) (@pss_one _ _ _ (@ps_ret _ _ _ _ pe_bl)) pss_nil) (@pss_cons _ _ _ _ _ (@ps_set _ _ 9 _ _ _ _ sc_law.nd rfl (Or.inl rfl) (pcl Je Jj (hr.mono (by lia)) rfl (@pa3 _ _ _ _ _ _ _ (pv 3) pe_int (@pe_lst _ _ _ _ (@pa1 _ _ _ pe_int (by rfl))) (by rfl) (by rfl) (by rfl))) (by rfl) (.inl rfl)) (@pss_cons _ _ _ _ _ (@ps_set _ _ 10 _ _ _ _ sc_law.nd rfl (Or.inl rfl) (@pe_lst _ _ _ _ (@pa3 _ _ _ _ _ _ _ pe_bl pe_bl pe_bl (by rfl) (by rfl) (by rfl))) (by rfl) (.inl rfl)) (@pss_cons _ _ _ _ _ (@ps_if _ _ _ _ _ _ _ _ (@pt_val _ _ _ (pcl Jt Jz (hr.mono (by lia)) rfl (@pa2 _ _ _ _ _ (pv 5) (pv 9) (by rfl) (by rfl))) (by intro _;rfl)) (@pss_one _ _ _ (@ps_set _ _ 10 _ _ _ _ sc_law.nd rfl (Or.inl rfl) (pv 5) (by rfl) (.inl rfl))) pss_nil) (@pss_one _ _ _ (@ps_if _ _ _ _ _ _ _ _ (pt_cmpR (op_neDLN (K:=K) rfl hr.units) (pcl Kx KS (hr.mono (by lia)) rfl (@pa2 _ _ _ _ _ (pv 7) (pv 9) (by rfl) (by rfl))) (pv 10) (nomark _)) (@pss_one _ _ _ (@ps_ret _ _ _ _ pe_bl)) pss_nil))))))))))))))))) (@pss_one _ _ _ (@ps_ret _ _ _ _ pe_bl))),?_⟩
 have hlen:(ns.map V.int).length=ns.length:=aAa _;refine ⟨_,rfl,a,_,rfl,.inl hS,_,_,rfl,rfl,_,_,rfl,?_⟩;rw [hlen]
 generalize hJ:(if (1+((ns.length:Nat):Int)) < 12 then 1+((ns.length:Nat):Int) else 12)=J
 have J1:0≤J∧J≤13:=by rw [← hJ];split <;> lia
 refine ⟨J,rfl,by lia,by lia,gY (lo:=0) (n:=J.toNat) (fun i σ H'=>Same H H'∧∃ v1 v2 v3 v4 v5 v6 v7 v8 v9 v10,σ=[some (.ref a),v1,v2,v3,v4,v5,v6,v7,v8,v9,v10]) ⟨Same.refl H,_,_,_,_,_,_,_,_,_,_,rfl⟩ ?_ ?_⟩
 rotate_left
 ·rintro σ H1 ⟨g1,v1,v2,v3,v4,v5,v6,v7,v8,v9,v10,rfl⟩;exact q _
 rintro i σ H1 hi ⟨g1,v1,v2,v3,v4,v5,v6,v7,v8,v9,v10,rfl⟩;refine ⟨5,rfl,by decide,by decide,gY (lo:=0) (n:=(5:Int).toNat) (fun j σ H'=>Same H H'∧∃ v2 v3 v4 v5 v6 v7 v8 v9 v10,σ=[some (.ref a),some (.int (i:Nat)),v2,v3,v4,v5,v6,v7,v8,v9,v10]) ⟨g1,_,_,_,_,_,_,_,_,_,(by show [_,some (V.int (0+(i:Int))),_,_,_,_,_,_,_,_,_]=_;rw [aCn])⟩ ?_ ?_⟩
 rotate_left
 ·rintro σ H2 ⟨g2,v2,v3,v4,v5,v6,v7,v8,v9,v10,rfl⟩;exact ⟨g2,_,_,_,_,_,_,_,_,_,_,rfl⟩
 rintro j σ H2 hj ⟨g2,v2,v3,v4,v5,v6,v7,v8,v9,v10,rfl⟩;refine ⟨_,rfl,_,rfl,_,rfl,a,ns,i,j,(by rw [aCn];rfl),g2.seq hS,h63,by lia,hj,fun r n H3 hr3 g3 e3=>?_⟩;have hrH:H r=none:=g2.free hr3;refine ⟨_,rfl,sz1,fun p hp=>?_⟩;have nrp:r≠p:=ah e3 hp;have S3:=(g2.trans g3).trans (aj hp (.lst [.int 30]));have hpH:H p=none:=(g2.trans g3).free hp;refine ⟨r,p,n,30,5,by decide,by decide,rfl,nrp,by rw [ag nrp];exact e3,ac,fun v d ka kc n4 x4 H4 b4 r4 p4 hv fk hka hkc=>?_⟩;have S4:Same H H4:=fun x o e=>b4 x o (ah e hrH) (ah e hpH) (S3 x o e);have bk:bud 30=6:=by decide
 refine ⟨_,rfl,_,rfl,r,n4,ka,kc,d,v,hka,rfl,r4,hv,fk,fun u e n5 H5 b5 r5 hu fv=>?_⟩;have S5:Same H H5:=fun x o e=>b5 x o (ah e hrH) (S4 x o e);have hv5:=hv.but r4 b5;obtain ⟨ws,vw,hw⟩:=HY fk fv 5 hka;have hw5:bc ws≤7200000:=aAA hw (B8 hka (by lia));obtain ⟨sz,dp⟩:=HS fk fv;refine ⟨_,rfl,e,u,ws,rfl,hu,vw,hw5,fun l H6 hl g6 h6=>?_⟩;have nlr:l≠r:=fun c=>by rw [c,r5] at hl;cases hl
 refine ⟨_,rfl,l,ws,rfl,h6,hw5,fun H7 g7=>?_⟩;have g57:=g6.trans g7;refine ⟨_,rfl,_,rfl,l,r,n5,ws,rfl,nlr,g7 _ _ h6,g57 _ _ r5,hw5,fun z b bs n8 H8 b8 r8 lb ez zl=>?_⟩;have S8:Same H H8:=fun x o e=>b8 x o (ah e hrH) (g57 _ _ (S5 x o e));have hu8:=(hu.same g57).but (g57 _ _ r5) b8;have hv8:=(hv5.same g57).but (g57 _ _ r5) b8;have tl:(aY ws).length≤7200000:=by
  rw [← aq];exact aAA (gh ws (ws.map blk) fun b hb=>by
   obtain ⟨z,_,rfl⟩:=aAr.mp hb;exact qS z) hw5
 refine ⟨_,rfl,e,u,aY ws,rfl,hu8,vw.text,tl,fun H9 g9=>?_⟩;refine ⟨_,rfl,rfl,_,rfl,ou ?_⟩;refine ⟨_,rfl,z,rfl,dY (by lia),_,_,rfl,rfl,_,rfl,aK (fun c=>?_) (fun c=>?_)⟩
 ·exact q _
 have zl4:z.length≤4000:=by
  have c':¬ ((4000:Int) < (z.length:Int)):=fun h=>c (decide_eq_true h);lia
 have ls:(aM ws bs).length≤4000:=by
  have:=congrArg List.length ez;rw [aq,aAk] at this;lia
 have fw:=tZ vw lb;have tl4:(aY ws).length≤8000:=by
  rw [← aq];have:=pM ws bs lb;show (bq ws).length≤_;lia
 have rd1:dj 40 "value" (aY ws).cps.toList=some e:=vw.read (aAl _) (b:=0) (bs:=ws.map blk) (aAa _) rfl;have rd2:dj 40 "value" z.cps.toList=some e:=vw.read (aAl _) lb ez;have ho:=HU fk fv 5 hka;have hu9:=hu8.same g9;have hv9:=hv8.same g9;refine ⟨_,rfl,_,rfl,aY ws,ka,kc,d,e,v,hka,rfl,by lia,rd1,hv9,fk,sz,by lia,(fun _ y H10 g10 hy=>?_),fun h=>by rw [ho] at h;cases h⟩;refine ⟨_,rfl,e,y,u,rfl,hy,hu9.same g10,sz,by lia,aAl _,fun H11 g11=>⟨_,rfl,aH ?_⟩⟩;have G11:=g10.trans g11;refine ⟨_,rfl,_,rfl,z,ka,kc,d,e,v,hka,rfl,by lia,rd2,hv9.same G11,fk,sz,by lia,(fun _ y2 H12 g12 hy2=>?_),fun h=>by rw [ho] at h;cases h⟩;refine ⟨_,rfl,e,y2,u,rfl,hy2,(hu9.same G11).same g12,sz,by lia,aAl _,fun H13 g13=>⟨_,rfl,aH ?_⟩⟩;have G13:=(g9.trans G11).trans (g12.trans g13);have S13:=S8.trans G13;have r13:=G13 _ _ r8;have hu13:=hu8.same G13;refine ⟨_,rfl,sz1,fun p2 hp2=>?_⟩;have nr2:r≠p2:=ah r13 hp2;have N2:=aj (H:=H13) hp2 (.lst [.int 15]);refine ⟨r,p2,n8,15,3,by decide,by decide,rfl,nr2,N2 _ _ r13,ac,fun v' d' ka' kc' n14 x14 H14 b14 r14 p14 hv' fk' hka' hkc'=>?_⟩;have S14:Same H H14:=fun x o e=>b14 x o (ah e hrH) (ah e (S13.free hp2)) (N2 _ _ (S13 x o e));have hu14:=gJ (N2 _ _ r13) ac b14 (hu13.same N2);refine ⟨sz3,fun pd hpd=>?_⟩;have N3:=aj (H:=H14) hpd (.lst [.bl true,.bl true,.bl false]);have hpd':(upd H14 pd (.lst [V.bl true,V.bl true,V.bl false])) pd=some (.lst [.bl true,.bl true,.bl false]):=ac;dsimp only [jm]
 revert N3 hpd'
 generalize upd H14 pd (.lst [V.bl true,V.bl true,V.bl false])=H15
 intro N3 hpd';have S15:=S14.trans N3;refine ⟨_,rfl,_,rfl,ka',kc',d',e,v',u,by lia,rfl,hv'.same N3,hu14.same N3,fk',sz,by lia,fun H16 g16=>⟨_,rfl,?_⟩⟩;have S16:=S15.trans g16;have hv16:=(hv'.same N3).same g16;have hu16:=(hu14.same N3).same g16
 cases ho':ofN 5 d' e with
 | true =>
  refine aL ⟨_,rfl,?_⟩;refine ⟨_,rfl,_,rfl,aY ws,ka',kc',d',e,v',by lia,rfl,by lia,rd1,hv16,fk',sz,by lia,(fun _ y3 H17 g17 hy3=>?_),fun h=>by rw [ho'] at h;cases h⟩;refine ⟨_,rfl,.inl ⟨e,e,hy3.d,(hu16.same g17).d,by lia,_,rfl,?_⟩⟩;rw [a7];exact aH ⟨S16.trans g17,_,_,_,_,_,_,_,_,_,rfl⟩
 | false =>
  refine aH ?_;refine ⟨_,rfl,_,rfl,aY ws,ka',kc',d',e,v',by lia,rfl,by lia,rd1,hv16,fk',sz,by lia,(fun h=>by rw [ho'] at h;cases h),fun _ l' H17 g17 hl'=>?_⟩;refine ⟨_,rfl,.inr ⟨l',pd,_,_,[.bl true,.bl true,.bl false],[.bl true,.bl true,.bl false],rfl,rfl,SqL.of hl',SqL.of (g17 _ _ (g16 _ _ hpd')),.cons .bl (.cons .bl (.cons .bl .nil)),.cons .bl (.cons .bl (.cons .bl .nil)),by decide,_,rfl,?_⟩⟩;exact aH ⟨S16.trans g17,_,_,_,_,_,_,_,_,_,rfl⟩
end
@[elab_as_elim] theorem xR {α:Type} {p:List α→Prop} {us:List α} (hl:us.length=0) (h:p []):p us:=by
 cases us with
 | nil=>exact h
 | cons a r=>cases hl
@[elab_as_elim] theorem xS {α:Type} {p:List α→Prop} {us:List α} (hl:us.length=1) (h:∀ x0,p [x0]):p us:=by
 cases us with
 | nil=>cases hl
 | cons a r=>exact xR (p:=fun r=>p (a :: r)) (Nat.succ.inj hl) (h a)
@[elab_as_elim] theorem xT {α:Type} {p:List α→Prop} {us:List α} (hl:us.length=2) (h:∀ x0 x1,p [x0,x1]):p us:=by
 cases us with
 | nil=>cases hl
 | cons a r=>exact xS (p:=fun r=>p (a :: r)) (Nat.succ.inj hl) (h a)
@[elab_as_elim] theorem xU {α:Type} {p:List α→Prop} {us:List α} (hl:us.length=3) (h:∀ x0 x1 x2,p [x0,x1,x2]):p us:=by
 cases us with
 | nil=>cases hl
 | cons a r=>exact xT (p:=fun r=>p (a :: r)) (Nat.succ.inj hl) (h a)
@[elab_as_elim] theorem xV {α:Type} {p:List α→Prop} {us:List α} (hl:us.length=4) (h:∀ x0 x1 x2 x3,p [x0,x1,x2,x3]):p us:=by
 cases us with
 | nil=>cases hl
 | cons a r=>exact xU (p:=fun r=>p (a :: r)) (Nat.succ.inj hl) (h a)
@[elab_as_elim] theorem xW {α:Type} {p:List α→Prop} {us:List α} (hl:us.length=5) (h:∀ x0 x1 x2 x3 x4,p [x0,x1,x2,x3,x4]):p us:=by
 cases us with
 | nil=>cases hl
 | cons a r=>exact xV (p:=fun r=>p (a :: r)) (Nat.succ.inj hl) (h a)
@[elab_as_elim] theorem Ia {α:Type} {p:List α→Prop} {us:List α} (hl:us.length=6) (h:∀ x0 x1 x2 x3 x4 x5,p [x0,x1,x2,x3,x4,x5]):p us:=by
 cases us with
 | nil=>cases hl
 | cons a r=>exact xW (p:=fun r=>p (a :: r)) (Nat.succ.inj hl) (h a)
theorem gnM {K:W.Frag} {h:Heap} {mg:Str→Option Value} (X:K.In h) (G:h.Ns mainGlobals mg) {x:Str} {st:Stmt} {ps:List Str} {f:Addr} {od an:Option Addr} {sl:Array (Option Value)} {oc kV dc pm cd ct:Value}
  (a:W.nsIn K mainGlobals x=some (some (.ref f))) (l:K.lookup f=some ⟨oc,od,.func (W.fnOf x x (bG st) (bi st) (ai st) .none kV dc pm an cd ct),sl⟩) (c:W.codeIn K cd x=true) (k:W.keepIn K (.ref f)=true)
  (b:∀ (kV doc pm:Value) (an:Option Addr) (cdv ct:Value) (us:List Value),us.length=ps.length→bindArgs (W.fnOf x x (bG st) (bi st) (ai st) .none kV doc pm an cdv ct) ⟨us,[]⟩=pure (ps.zip us)):∃ f fd,Gn K mg x st ps f fd :=
 ⟨f,_,hV (st:=st) l c k,(hV (st:=st) l c k).binds b,W.mg_of X G a⟩
theorem exM {K:W.Frag} {h:Heap} {mg:Str→Option Value} (X:K.In h) (G:h.Ns mainGlobals mg) {x:Str} {C:Addr} {d:ClassData} (xa:W.nsIn K mainGlobals x=some (some (.ref C))) (xq:W.excIn K C bmV "ValueError.__new__" = true) (xg:W.findIn K (.ref C) "__getattribute__" = some (some (.builtin "BaseException.__getattribute__"))) (xt:W.findIn K (.ref C) "__getattr__" = some none) (xc:W.findIn K (.ref C) "__class__" = some (some (.builtin "object.__class__"))) (xb:W.mroIn K C (.type "BaseException")=some true) (xo:W.mroIn K C (.type "object")=some true) (xd:W.clsIn K C=some d) (xk:W.keepIn K (.ref C)=true):ExC K mg x C:=⟨W.mg_of X G xa,xq,⟨xg,xt,xc,xb,xo,_,xd⟩,xk⟩
theorem csM {K:W.Frag} {h:Heap} {mg:Str→Option Value} (X:K.In h) (G:h.Ns mainGlobals mg) {x z:Str} {t:Tok} (g:W.nsIn K mainGlobals x=some (some (.str z t))):∃ t,mg x=some (.str z t):=⟨_,W.mg_of X G g⟩
theorem ciM {K:W.Frag} {h:Heap} {mg:Str→Option Value} (X:K.In h) (G:h.Ns mainGlobals mg) {x:Str} {i:Int} {t:Tok} (g:W.nsIn K mainGlobals x=some (some (.int i t))):∃ t,mg x=some (.int i t):=⟨_,W.mg_of X G g⟩
theorem txI {K:W.Frag} {mg:Str→Option Value} {a0 a1 a2 a3:Addr} (T:Tx K mg ⟨a0,a1,a2,a3⟩):∃ ad,Tx K mg ad:=⟨_,T⟩
theorem Cb {K:W.Frag} {f:Addr} {fd:FuncData} (F:Fun K "law" "law" sq f fd):∀ (s:Shared) (u:Value),BindsTo s fd ⟨[u],[]⟩ [("script",u)]:=by
 obtain ⟨oc,od,kV,doc,pm,an,cdv,ct,osl,rfl,lk,hcd⟩:=F.ex;exact fun s u=>.of_eq rfl
end K86
open PySem PySem.W PyProof.Rows
set_option maxRecDepth 100000 in
set_option maxHeartbeats 0 in
theorem PySem.Challenge.cw_oldhands_k86_values_in_words_holds : PySem.Challenge.rw_oldhands_k86_values_in_words.Holds := by
 w_on
 refine PySem.W.holds_law K86.said fun said=>?_;refine PySem.W.holds_open (q:=K86.hQ) (loose:=K86.hW) (Xt:=K86.hX) (XP:=fun _ _=>True) (Yf:=K86.hH.obs) (Ya:=K86.hH.val) (YP:=PySem.W.InK K86.hK) (N:=4404) K86.hl K86.hH.of K86.hH.keeps (fun _ _=>trivial) (fun _ _ _ _ _=>trivial) (by rfl) (by rfl) (by rfl) (fun s e=>PySem.W.recFacts_of e) (by rfl) said (by decide +kernel) ⟨rfl,rfl,rfl,rfl,rfl,by decide +kernel⟩ ?hw ?hc
 case hw=>w_witness2
 k_fill
 refine L2.G8 (l:=PySem.Challenge.rw_oldhands_k86_values_in_words) (K:=K86.hK) (n:=63) (k:=K86.depth) (x:= "script") (CX:=L2.CX0) (sp:=K86.Hw) rfl (by decide) rfl ⟨rfl,by decide,by decide⟩ (fun w h Y=>Y) ?F (fun _ _ a ns hl _ hS=>⟨a,ns,rfl,hS,hl,fun _=>rfl⟩) (fun _ _ _ _ z=>z)
 case F =>
  intro w mg fa h KX G hmg;have T:∃ ad,K86.Tx (L2.KOf KX) mg ad:=by
   dsimp only [L2.KOf];refine' K86.txI ⟨K86.gnM KX G ?_ ?_ ?_ ?_ ?_,K86.gnM KX G ?_ ?_ ?_ ?_ ?_,K86.gnM KX G ?_ ?_ ?_ ?_ ?_,K86.gnM KX G ?_ ?_ ?_ ?_ ?_,K86.gnM KX G ?_ ?_ ?_ ?_ ?_,K86.gnM KX G ?_ ?_ ?_ ?_ ?_,K86.gnM KX G ?_ ?_ ?_ ?_ ?_,K86.gnM KX G ?_ ?_ ?_ ?_ ?_,K86.gnM KX G ?_ ?_ ?_ ?_ ?_,K86.gnM KX G ?_ ?_ ?_ ?_ ?_,K86.gnM KX G ?_ ?_ ?_ ?_ ?_,K86.gnM KX G ?_ ?_ ?_ ?_ ?_,K86.gnM KX G ?_ ?_ ?_ ?_ ?_,K86.gnM KX G ?_ ?_ ?_ ?_ ?_,K86.gnM KX G ?_ ?_ ?_ ?_ ?_,K86.gnM KX G ?_ ?_ ?_ ?_ ?_,K86.gnM KX G ?_ ?_ ?_ ?_ ?_,K86.gnM KX G ?_ ?_ ?_ ?_ ?_,K86.gnM KX G ?_ ?_ ?_ ?_ ?_,K86.gnM KX G ?_ ?_ ?_ ?_ ?_,K86.gnM KX G ?_ ?_ ?_ ?_ ?_,K86.gnM KX G ?_ ?_ ?_ ?_ ?_,K86.gnM KX G ?_ ?_ ?_ ?_ ?_,K86.gnM KX G ?_ ?_ ?_ ?_ ?_,K86.gnM KX G ?_ ?_ ?_ ?_ ?_,K86.gnM KX G ?_ ?_ ?_ ?_ ?_,K86.gnM KX G ?_ ?_ ?_ ?_ ?_,K86.gnM KX G ?_ ?_ ?_ ?_ ?_,K86.gnM KX G ?_ ?_ ?_ ?_ ?_,K86.gnM KX G ?_ ?_ ?_ ?_ ?_,K86.gnM KX G ?_ ?_ ?_ ?_ ?_,K86.gnM KX G ?_ ?_ ?_ ?_ ?_,K86.gnM KX G ?_ ?_ ?_ ?_ ?_,K86.gnM KX G ?_ ?_ ?_ ?_ ?_,K86.gnM KX G ?_ ?_ ?_ ?_ ?_,K86.gnM KX G ?_ ?_ ?_ ?_ ?_,K86.gnM KX G ?_ ?_ ?_ ?_ ?_,K86.gnM KX G ?_ ?_ ?_ ?_ ?_,K86.gnM KX G ?_ ?_ ?_ ?_ ?_,K86.gnM KX G ?_ ?_ ?_ ?_ ?_,K86.gnM KX G ?_ ?_ ?_ ?_ ?_,K86.gnM KX G ?_ ?_ ?_ ?_ ?_,K86.gnM KX G ?_ ?_ ?_ ?_ ?_,K86.gnM KX G ?_ ?_ ?_ ?_ ?_,K86.gnM KX G ?_ ?_ ?_ ?_ ?_,K86.gnM KX G ?_ ?_ ?_ ?_ ?_,K86.gnM KX G ?_ ?_ ?_ ?_ ?_,K86.gnM KX G ?_ ?_ ?_ ?_ ?_,K86.gnM KX G ?_ ?_ ?_ ?_ ?_,K86.gnM KX G ?_ ?_ ?_ ?_ ?_,K86.gnM KX G ?_ ?_ ?_ ?_ ?_,K86.gnM KX G ?_ ?_ ?_ ?_ ?_,K86.gnM KX G ?_ ?_ ?_ ?_ ?_,K86.gnM KX G ?_ ?_ ?_ ?_ ?_,K86.gnM KX G ?_ ?_ ?_ ?_ ?_,K86.gnM KX G ?_ ?_ ?_ ?_ ?_,PySem.W.mg_of KX G ?_,⟨?_,?_,?_,?_⟩,(show PySem.W.findIn _ _ _=some none from ?_),(show PySem.W.findIn _ _ _=some none from ?_),L2.miM (f:=187) ?_ ?_ ?_ ?_ ?_ ?_ ?_ ?_,L2.mnM (f:=194) ?_ ?_ ?_ ?_ ?_ ?_,L2.mnM (f:=201) ?_ ?_ ?_ ?_ ?_ ?_,L2.mnM (f:=208) ?_ ?_ ?_ ?_ ?_ ?_,L2.mnM (f:=215) ?_ ?_ ?_ ?_ ?_ ?_,K86.exM KX G ?_ ?_ ?_ ?_ ?_ ?_ ?_ ?_ ?_,K86.exM KX G ?_ ?_ ?_ ?_ ?_ ?_ ?_ ?_ ?_,K86.exM KX G ?_ ?_ ?_ ?_ ?_ ?_ ?_ ?_ ?_,K86.csM KX G ?_,K86.ciM KX G ?_,K86.ciM KX G ?_,K86.csM KX G ?_,K86.csM KX G ?_,K86.csM KX G ?_,K86.csM KX G ?_,K86.csM KX G ?_,K86.csM KX G ?_,K86.csM KX G ?_,K86.ciM KX G ?_,K86.ciM KX G ?_,⟨PySem.W.mg_of KX G ?_,L2.Hs ?_⟩,⟨PySem.W.mg_of KX G ?_,L2.B9 ?_,L2.Hs ?_⟩,⟨PySem.W.mg_of KX G ?_,L2.B9 ?_,L2.Hs ?_⟩,⟨PySem.W.mg_of KX G ?_,L2.B9 ?_,L2.Hs ?_⟩,⟨_,PySem.W.mg_of KX G ?_,L2.Ca ?_⟩,⟨PySem.W.mg_of KX G ?_,L2.Hv ?_,L2.Hs ?_⟩,PySem.W.mg_none_of KX G ?_,PySem.W.mg_none_of KX G ?_,PySem.W.mg_none_of KX G ?_,PySem.W.mg_none_of KX G ?_,PySem.W.mg_none_of KX G ?_,PySem.W.mg_none_of KX G ?_,PySem.W.mg_none_of KX G ?_,PySem.W.mg_none_of KX G ?_,PySem.W.mg_none_of KX G ?_,PySem.W.mg_none_of KX G ?_,PySem.W.mg_none_of KX G ?_,PySem.W.mg_none_of KX G ?_,PySem.W.mg_none_of KX G ?_,PySem.W.mg_none_of KX G ?_,PySem.W.mg_none_of KX G ?_,PySem.W.mg_none_of KX G ?_,PySem.W.mg_none_of KX G ?_,?_,?_⟩
   any_goals (first | k_is | kernel_rfl | exact fun _ _ _ _ _ _ _ e=>K86.xR e rfl | exact fun _ _ _ _ _ _ _ e=>K86.xS e fun _=>rfl | exact fun _ _ _ _ _ _ _ e=>K86.xT e fun _ _=>rfl | exact fun _ _ _ _ _ _ _ e=>K86.xU e fun _ _ _=>rfl | exact fun _ _ _ _ _ _ _ e=>K86.xV e fun _ _ _ _=>rfl | exact fun _ _ _ _ _ _ _ e=>K86.xW e fun _ _ _ _ _=>rfl | exact fun _ _ _ _ _ _ _ e=>K86.Ia e fun _ _ _ _ _ _=>rfl)
  obtain ⟨ad,T⟩:=T;obtain ⟨fL,dL,L⟩:=T.law;have e:=hmg.symm.trans L.m
  cases e
  exact ⟨dL,K86.Cb L.F,fun base _ _=>K86.IQ T L⟩
end
