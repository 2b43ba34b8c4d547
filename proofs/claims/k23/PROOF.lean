import PyProof.Rows.All
import Wide.All
import OpenK.AllK
import Wide.FinOn
import Lean
import PyProof.EqAt
import PyProof.EqKinds
import PyProof.TupleCall
import PyProof.NeKinds
import KE.KIntText
import PyProof.StrCalls
import PyProof.ZipIter
import PyProof.Rows.SetFrom
import PyProof.SetRoads
import PyProof.CompUse
import PyProof.Rows.MinMaxN
import PyProof.Rows.SortStr
import PyProof.Rows.SortWalk
import PyProof.Rows.SeqMore2
import KE.KMinKey
import PyProof.Rows.CallKwBuiltin
import PyProof.TupleOfStr
import PyProof.Draws
import PyProof.Rows.TupIter
import KE.KxText
import PyProof.FString5
import PyProof.DictWalks
import PyProof.CollectStr
import PyProof.FactsAll.set_1
import KE.KDictLaws
import PyProof.MeetsStr
import PyProof.TupleKey
import PyProof.SetKind
import PyProof.IsRules
import PyProof.Rows.RuleDivmod
import PyProof.LongRange
import PyProof.ListRange
import PySem.Challenge.RW_oldhands_k23_pieces_refused
set_option Elab.async false
set_option linter.all false
set_option maxHeartbeats 4000000
set_option maxRecDepth 100000
noncomputable section
set_option hygiene false
local macro_rules
 |`((0))=>`(by rfl)
 |`((1,$a))=>`(@pe_tupPK _ K _ _ _ _ rfl $a)
 |`((3,$a,$b))=>`(@pss_cons _ _ _ _ _ $a $b)
 |`((4,$a))=>`(@pa_cons _ _ _ _ _ pe_str $a (by rfl))
abbrev aAa:=@PySem.Heap.get?_push_of_some
abbrev aAb:=@List.mem_cons
abbrev aAc:=@List.not_mem_nil
abbrev aAd:=@PySem.Heap.lt_size
abbrev aAe:=@List.length_map
abbrev aAf:=@PySem.Heap.get?_push_size
abbrev aAg:=@List.getElem?_eq_some_iff
abbrev aAh:=@List.mem_cons_self
abbrev aAi:=@Nat.lt_of_lt_of_le
abbrev aAj:=@List.mem_cons_of_mem
abbrev aAk:=@Bool.false_eq_true
abbrev aAl:=@Nat.ne_of_lt
abbrev aAm:=@List.size_toArray
abbrev aAn:=@List.mem_filterMap
abbrev aAo:=@Nat.le_refl
abbrev aAp:=@List.getElem?_eq_getElem
abbrev aAq:=@Bool.false_ne_true
abbrev aAr:=@Bool.and_eq_true
abbrev aAs:=@List.length_cons
abbrev aAt:=@List.getElem?_map
abbrev aAu:=@Option.map_eq_some_iff
abbrev aAv:=@List.mem_singleton
abbrev aAw:=@List.mem_of_getElem?
abbrev aAx:=@Nat.le_trans
abbrev aAy:=@Bool.false_and
abbrev aAz:=@List.map_map
abbrev aAA:=@List.mem_append_right
abbrev aAB:=@List.take_length
abbrev aAC:=@PySem.Heap.size_push
abbrev aAD:=@Bool.true_and
abbrev aAE:=@Nat.lt_irrefl
abbrev aAF:=@Nat.zero_le
abbrev aAG:=@PySem.Heap.get?_update_other
abbrev aAH:=@List.map_cons
abbrev aAI:=@List.mem_append
abbrev aAJ:=@PySem.Heap.get?_update_self
abbrev aAK:=@List.getD_eq_getElem?_getD
abbrev aAL:=@Nat.le_of_lt
abbrev aAM:=@List.take_add_one
abbrev aAN:=@List.mem_map
abbrev aAO:=@Array.getElem?_eq_getElem
abbrev aAP:=@List.forIn_cons
abbrev aAQ:=@List.length_take
abbrev aAR:=@List.all_eq_true
abbrev aAS:=@Array.getElem?_eq_some_iff
abbrev aAT:=@Nat.ne_of_gt
abbrev aAU:=@Bool.eq_iff_iff
abbrev aAV:=@List.any_cons
abbrev aAW:=@Bool.not_true
abbrev aAX:=@List.length_append
abbrev aAY:=@Int.emod_lt_of_pos
abbrev aAZ:=@Nat.lt_succ_of_lt
abbrev aA0:=@List.map_append
abbrev aA1:=@List.lookup_cons
abbrev aA2:=@Nat.lt_succ_self
abbrev aA3:=@List.forIn_nil
abbrev aA4:=@List.append_nil
abbrev aA5:=@List.all_map
abbrev aA6:=@List.find?_cons
abbrev aA7:=@Int.emod_nonneg
abbrev aA8:=@List.length_take_le'
abbrev aA9:=@Array.length_toList
abbrev aBa:=@Nat.lt_trans
abbrev aBb:=@List.nodup_cons
abbrev aBc:=@Bool.eq_false_iff
abbrev aBd:=@List.map_congr_left
abbrev aBe:=@Array.forIn_toList
abbrev aBf:=@List.pairwise_cons
abbrev aBg:=@Array.getElem?_eq_none
abbrev aBh:=@List.mem_iff_getElem
abbrev aBi:=@List.getElem?_append_right
abbrev aBj:=@Bool.and_false
abbrev aBk:=@List.getElem?_cons_zero
abbrev aBl:=@List.getElem?_set_self
abbrev aBm:=@List.all_cons
abbrev aBn:=@List.length_drop
abbrev aBo:=@Option.getD_none
abbrev aBp:=@List.zipIdx_cons
abbrev aBq:=@List.length_replicate
abbrev aBr:=@List.length_singleton
abbrev aBs:=@List.getElem?_toArray
abbrev aBt:=@List.getElem?_set_ne
abbrev aBu:=@Option.map_some
abbrev aBv:=@List.length_nil
abbrev aBw:=@List.zipIdx_nil
abbrev aBx:=@List.filterMap_cons
abbrev aBy:=@List.lt_irrefl
abbrev aBz:=@Nat.le_succ
abbrev aBA:=@Array.append_assoc
abbrev aBB:=@Nat.lt_of_le_of_lt
abbrev aBC:=@Int.toNat_natCast
abbrev aBD:=@Bool.not_eq_true'
abbrev aBE:=@List.getElem?_append_left
abbrev aBF:=@List.getElem?_zip_eq_some
abbrev aBG:=@Option.isSome_iff_exists
abbrev aBH:=@Option.getD_some
abbrev aBI:=@Nat.le_add_right
abbrev aBJ:=@Nat.lt_succ_iff_lt_or_eq
abbrev aBK:=@List.getElem?_replicate
abbrev aBL:=@List.pairwise_singleton
abbrev aBM:=@List.mem_filter
abbrev aBN:=@List.of_mem_zip
abbrev aBO:=@List.length_zip
abbrev aBP:=@Nat.not_lt_zero
abbrev aBQ:=@List.take_of_length_le
abbrev aBR:=@List.mem_range
abbrev aBS:=@List.length_filter_le
abbrev aBT:=@Nat.not_lt
abbrev aBU:=@Bool.or_false
abbrev aBV:=@Nat.pow_succ
namespace L2
open PySem PySem.Spec PyProof.Rows
def cy (s:Stmt):Arguments:=match s with
 | .FunctionDef _ a _ _ _ _ _ _ _ _=>a
 | _=>{ posonlyargs:=[],args:=[],vararg:=none,kwonlyargs:=[],kw_defaults:=[],kwarg:=none,defaults:=[] }
def br (s:Stmt):List Stmt:=match s with
 | .FunctionDef _ _ b _ _ _ _ _ _ _=>b
 | _=>[]
def aa (s:Stmt):Scope:=match s with
 | .FunctionDef _ _ _ _ _ _ sc _ _ _=>sc
 | _=>{ kind:=.function,names:=[],isGenerator:=false,isCoroutine:=false }
end L2
namespace K23
open PySem L2 PyProof.Rows
abbrev pwX:=PySem.Challenge.pw_oldhands_k23_pieces_refused
def top (i:Nat):Stmt:=pwX.main.body.getD i (.Pass ⟨0,0,0,0⟩)
def hT (t:Nat):Value:=.str "/claim/cut.py" t
def hE (P:Params) (x:Str) (t:Nat) (v:Value):DictEntry:={ hash:=PyData.keyHash P x,key:=.str x t,val:=v }
def hF (x y m:Str) (st:Stmt) (t c:Nat):Obj:={ cls:=.type "function",data:=.func (W.fnOf x y (cy st) (br st) (aa st) .none .none .none (.str m t) none (.ref c) .none) }
def hU (x y:Str) (st:Stmt):Obj:={ cls:=.none,data:=.func { name:=x,qualname:=y,params:=cy st,body:=.stmts (br st),scope:=aa st,globals:=builtinsNs,closure:=[],defaults:=.none,kwdefaults:=.none } }
def hC (x y:Str) (t u v:Nat) (r:List Value):Obj:={ cls:=.type "code",data:=.fields (Array.mk (.str x t :: .str y u :: hT v :: r)) }
def hS (r:List Value):Obj:={ cls:=.type "tuple",data:=.seq (Array.mk r) }
def hN:Obj:={ cls:=.none,data:=.fields (Array.mk []) }
def gE:Params->List DictEntry:=λP =>
 hE P "__doc__" 166 (.none) ::
 hE P "__package__" 167 (.none) ::
 hE P "__loader__" 168 (.builtin "__main__.__loader__#opaque") ::
 hE P "__spec__" 169 (.none) ::
 hE P "__annotations__" 170 (.ref 6) ::
 hE P "__builtins__" 171 (.ref 4) ::
 hE P "__file__" 173 (.str ("/claim/cut.py") 172) ::
 hE P "__cached__" 174 (.none) ::
 hE P "HandError" 206 (.ref 24) ::
 hE P "BadKind" 222 (.ref 37) ::
 hE P "BadTurn" 238 (.ref 49) ::
 hE P "BadPiece" 254 (.ref 61) ::
 hE P "LETTERS" 258 (.str ("abcdefghijklmnopqrstuvwxyz") 257) ::
 hE P "LONGEST_NAME" 260 (.int 8 259) ::
 hE P "EACH" 262 (.str ("each") 261) ::
 hE P "MOST_SIGNS" 264 (.int 60 263) ::
 hE P "MOST_WORDS" 266 (.int 8 265) ::
 hE P "MOST_FIELDS" 268 (.int 8 267) ::
 hE P "MOST_ITEMS" 270 (.int 8 269) ::
 hE P "MOST_KINDS" 272 (.int 40 271) ::
 hE P "DEEPEST" 274 (.int 5 273) ::
 hE P "PART_COUNTS" 293 (.ref 64) ::
 hE P "is_name" 299 (.ref 69) ::
 hE P "is_whole" 306 (.ref 76) ::
 hE P "is_whole_within" 315 (.ref 83) ::
 hE P "made_kind" 322 (.ref 90) ::
 hE P "is_formed" 331 (.ref 97) ::
 hE P "has_parts" 338 (.ref 104) ::
 hE P "are_bounds" 346 (.ref 111) ::
 hE P "are_words" 352 (.ref 116) ::
 hE P "are_fields" 358 (.ref 121) ::
 hE P "is_field" 366 (.ref 128) ::
 hE P "are_rows" 376 (.ref 135) ::
 hE P "field_kind" 386 (.ref 142) ::
 hE P "item_kind" 393 (.ref 149) ::
 hE P "kinds_within" 399 (.ref 154) ::
 hE P "kind_many" 405 (.ref 159) ::
 hE P "PERCENT" 409 (.int 37 408) ::
 hE P "is_sign" 416 (.ref 166) ::
 hE P "is_of" 425 (.ref 173) ::
 hE P "is_text_of" 431 (.ref 178) ::
 hE P "holds_tuple" 439 (.ref 185) ::
 hE P "holds_items" 445 (.ref 190) ::
 hE P "is_record_of" 451 (.ref 195) ::
 hE P "is_pair_of" 459 (.ref 202) ::
 hE P "are_keyed" 465 (.ref 207) ::
 hE P "field_of" 475 (.ref 214) ::
 hE P "record_of" 481 (.ref 219) ::
 hE P "with_fields" 493 (.ref 226) ::
 hE P "without_fields" 499 (.ref 231) ::
 hE P "LEAST_FACTOR" 503 (.int 2 502) ::
 hE P "GREATEST_FACTOR" 505 (.int 1000 504) ::
 hE P "TURN_COUNTS" 539 (.ref 232) ::
 hE P "TURN_SORTS" 571 (.ref 233) ::
 hE P "figures_of" 578 (.ref 250) ::
 hE P "is_factor" 585 (.ref 257) ::
 hE P "kind_behind" 593 (.ref 264) ::
 hE P "is_turn_of" 602 (.ref 271) ::
 hE P "has_turn_parts" 609 (.ref 278) ::
 hE P "most_figures" 617 (.ref 285) ::
 hE P "are_led_words" 623 (.ref 290) ::
 hE P "words_behind" 629 (.ref 295) ::
 hE P "led_kind" 638 (.ref 302) ::
 hE P "turn_about" 646 (.ref 309) ::
 hE P "led_about" 652 (.ref 314) ::
 hE P "PIECE_FORMS" 706 (.ref 315) ::
 hE P "taken_paths" 714 (.ref 332) ::
 hE P "made_paths" 722 (.ref 339) ::
 hE P "record_behind" 731 (.ref 346) ::
 hE P "has_piece_form" 737 (.ref 351) ::
 hE P "is_part" 745 (.ref 358) ::
 hE P "can_take" 751 (.ref 363) ::
 hE P "kind_down" 761 (.ref 370) ::
 hE P "takes_kinds" 770 (.ref 377) ::
 hE P "is_kind" 777 (.ref 384) ::
 hE P "is_separator" 784 (.ref 391) ::
 hE P "part_kinds" 793 (.ref 398) ::
 hE P "made_kinds" 802 (.ref 405) ::
 hE P "can_make" 808 (.ref 410) ::
 hE P "is_free" 817 (.ref 417) ::
 hE P "piece_about" 827 (.ref 424) ::
 hE P "old_values" 833 (.ref 429) ::
 hE P "value_down" 843 (.ref 436) ::
 hE P "with_new" 856 (.ref 443) ::
 hE P "without_taken" 866 (.ref 450) ::
 hE P "without_down" 875 (.ref 457) ::
 hE P "with_down" 885 (.ref 464) ::
 hE P "_law_mixed" 896 (.ref 471) ::
 hE P "_law_stream" 907 (.ref 478) ::
 hE P "_law_digit" 916 (.ref 485) ::
 hE P "_law_kind" 927 (.ref 492) ::
 hE P "_law_missing" 934 (.ref 499) ::
 hE P "_law_unfit" 943 (.ref 506) ::
 hE P "_law_word" 955 (.ref 513) ::
 hE P "_law_wholes" 964 (.ref 520) ::
 hE P "law" 979 (.ref 527) ::
 []
def gD (P:Params) (x:Str) (t m k:Nat):Obj:={ cls:=.type "dict",data:=.dict (Array.mk (hE P "__name__" 165 (.str x t) :: (gE P).take m)) k }
def tE:List Value:=.int 2 0 :: .int 0 0 :: .ref 20 :: .int 4 0 :: .int 0 0 :: .ref 33 :: .int 6 0 :: .int 0 0 :: .ref 45 :: .int 8 0 :: .int 0 0 :: .ref 57 :: .int 21 0 :: .int 0 0 :: .ref 68 :: .int 25 0 :: .int 0 0 :: .ref 75 :: .int 27 0 :: .int 0 0 :: .ref 82 :: .int 29 0 :: .int 0 0 :: .ref 89 :: .int 35 0 :: .int 0 0 :: .ref 96 :: .int 50 0 :: .int 0 0 :: .ref 103 :: .int 54 0 :: .int 0 0 :: .ref 110 :: .int 58 0 :: .int 0 0 :: .ref 115 :: .int 62 0 :: .int 0 0 :: .ref 120 :: .int 69 0 :: .int 0 0 :: .ref 127 :: .int 73 0 :: .int 0 0 :: .ref 134 :: .int 78 0 :: .int 0 0 :: .ref 141 :: .int 85 0 :: .int 0 0 :: .ref 148 :: .int 91 0 :: .int 0 0 :: .ref 153 :: .int 96 0 :: .int 0 0 :: .ref 158 :: .int 100 0 :: .int 0 0 :: .ref 165 :: .int 102 0 :: .int 0 0 :: .ref 172 :: .int 115 0 :: .int 0 0 :: .ref 177 :: .int 119 0 :: .int 0 0 :: .ref 184 :: .int 121 0 :: .int 0 0 :: .ref 189 :: .int 125 0 :: .int 0 0 :: .ref 194 :: .int 129 0 :: .int 0 0 :: .ref 201 :: .int 133 0 :: .int 0 0 :: .ref 206 :: .int 136 0 :: .int 0 0 :: .ref 213 :: .int 141 0 :: .int 0 0 :: .ref 218 :: .int 143 0 :: .int 0 0 :: .ref 225 :: .int 148 0 :: .int 0 0 :: .ref 230 :: .int 155 0 :: .int 0 0 :: .ref 249 :: .int 157 0 :: .int 0 0 :: .ref 256 :: .int 159 0 :: .int 0 0 :: .ref 263 :: .int 166 0 :: .int 0 0 :: .ref 270 :: .int 187 0 :: .int 0 0 :: .ref 277 :: .int 191 0 :: .int 0 0 :: .ref 284 :: .int 193 0 :: .int 0 0 :: .ref 289 :: .int 208 0 :: .int 0 0 :: .ref 294 :: .int 210 0 :: .int 0 0 :: .ref 301 :: .int 229 0 :: .int 0 0 :: .ref 308 :: .int 232 0 :: .int 0 0 :: .ref 313 :: .int 255 0 :: .int 0 0 :: .ref 331 :: .int 264 0 :: .int 0 0 :: .ref 338 :: .int 277 0 :: .int 0 0 :: .ref 345 :: .int 289 0 :: .int 0 0 :: .ref 350 :: .int 296 0 :: .int 0 0 :: .ref 357 :: .int 302 0 :: .int 0 0 :: .ref 362 :: .int 308 0 :: .int 0 0 :: .ref 369 :: .int 313 0 :: .int 0 0 :: .ref 376 :: .int 328 0 :: .int 0 0 :: .ref 383 :: .int 334 0 :: .int 0 0 :: .ref 390 :: .int 336 0 :: .int 0 0 :: .ref 397 :: .int 338 0 :: .int 0 0 :: .ref 404 :: .int 353 0 :: .int 0 0 :: .ref 409 :: .int 359 0 :: .int 0 0 :: .ref 416 :: .int 364 0 :: .int 0 0 :: .ref 423 :: .int 387 0 :: .int 0 0 :: .ref 428 :: .int 389 0 :: .int 0 0 :: .ref 435 :: .int 394 0 :: .int 0 0 :: .ref 442 :: .int 399 0 :: .int 0 0 :: .ref 449 :: .int 404 0 :: .int 0 0 :: .ref 456 :: .int 409 0 :: .int 0 0 :: .ref 463 :: .int 415 0 :: .int 0 0 :: .ref 470 :: .int 418 0 :: .int 0 0 :: .ref 477 :: .int 428 0 :: .int 0 0 :: .ref 484 :: .int 432 0 :: .int 0 0 :: .ref 491 :: .int 438 0 :: .int 0 0 :: .ref 498 :: .int 448 0 :: .int 0 0 :: .ref 505 :: .int 458 0 :: .int 0 0 :: .ref 512 :: .int 471 0 :: .int 0 0 :: .ref 519 :: .int 480 0 :: .int 0 0 :: .ref 526 :: []
def tD (m:Nat):Obj:={ cls:=.none,data:=.fields (Array.mk (tE.take m)) }
def o0 (P:Params):Obj:=W.boot_o_0 P
def o1 (P:Params):Obj:=W.boot_o_1 P
def o2 (P:Params):Obj:=W.boot_o_2 P
def o3 (P:Params):Obj:={ cls:=.type "dict",data:=.dict (Array.mk (hE P "__name__" 165 (.str ("law_oldhands_k23_pieces_refused") 886) :: gE P)) 97 }
def o4 (P:Params):Obj:=W.boot_o_4 P
def o5 (P:Params):Obj:=W.boot_o_5 P
def o6 (P:Params):Obj:=W.boot_o_6 P
def o7 (P:Params):Obj:=W.boot_o_7 P
def o8 (P:Params):Obj:=W.boot_o_8 P
def o9 (P:Params):Obj:=W.boot_o_9 P
def o10 (P:Params):Obj:=W.boot_o_10 P
def o11:Obj:=hS []
def o12:Obj:={ cls:=.none,data:=.fields (Array.mk tE) }
def o13:Obj:=hC "<module>" "<module>" 182 183 184 [.int 1 0,.int 0 0,.int 0 0,.int 0 0,.int 0 0,.ref 11,.bool false,.int 181 0,.ref 12,.none,.none,.none,.none,.int 185 0,.int 1 0,hT 186]
def o14:Obj:={ cls:=.type "frame",slots:=#[some (.ref 13),some (.ref 3),some (.ref 3),none,some (.str ("__main__") 164),none,some (.ref 0)] }
def o15:Obj:=hS [.type "ValueError"]
def o16:Obj:={ cls:=.type "builtin_function_or_method",data:=.fields #[.builtin "type.__prepare__",.type "type"] }
def o17 (P:Params):Obj:={ cls:=.type "dict",data:=.dict #[hE P "__module__" 196 (.str ("oldhands.errors") 187),hE P "__qualname__" 198 (.str ("HandError") 197),hE P "__firstlineno__" 200 (.int 2 199),hE P "__static_attributes__" 201 (.ref 22)] 4 }
def o19:Obj:=hN
def o20:Obj:=hC "HandError" "HandError" 191 192 193 [.int 2 0,.int 0 0,.int 0 0,.int 0 0,.int 0 0,.ref 18,.bool false,.int 181 0,.ref 19,.none,.none,.none,.none,.int 194 0,.int 2 0,hT 195]
def o21:Obj:={ cls:=.type "frame",slots:=#[some (.ref 20),some (.ref 3),some (.ref 17),none,some (.str ("oldhands.errors") 187),none,some (.ref 0)] }
def o23 (P:Params):Obj:={ cls:=.type "dict",data:=.dict #[hE P "__module__" 196 (.str ("oldhands.errors") 187),hE P "__firstlineno__" 200 (.int 2 199),hE P "__static_attributes__" 201 (.ref 22),hE P "__weakref__" 203 (.ref 25),hE P "__doc__" 204 (.none)] 3 }
def o24:Obj:={ cls:=.type "type",data:=.cls { name:= "HandError",bases:=[.type "ValueError"],mro:=[.ref 24,.type "ValueError",.type "Exception",.type "BaseException",.type "object"],ns:=23,qualname:= "HandError",subclasses:=[.ref 37,.ref 49,.ref 61] },slots:=#[some (.ref 15),none,some (.str ("HandError") 189),some (.str ("HandError") 197),some (.builtin "ValueError.__new__"),some (.bool true)] }
def o25:Obj:={ cls:=.type "getset_descriptor",data:=.fields #[.str ("__weakref__") 202,.ref 24,.builtin "ExceptionGroup.__weakref__",.none] }
def o26:Obj:={ cls:=.type "super",data:=.fields #[.ref 24,.ref 24,.ref 24] }
def o27:Obj:={ cls:=.type "builtin_function_or_method",data:=.fields #[.builtin "object.__init_subclass__",.ref 24] }
def o28:Obj:=hS [.ref 24]
def o30 (P:Params):Obj:={ cls:=.type "dict",data:=.dict #[hE P "__module__" 214 (.str ("oldhands.errors") 187),hE P "__qualname__" 216 (.str ("BadKind") 215),hE P "__firstlineno__" 218 (.int 4 217),hE P "__static_attributes__" 219 (.ref 35)] 4 }
def o33:Obj:=hC "BadKind" "BadKind" 209 210 211 [.int 4 0,.int 0 0,.int 0 0,.int 0 0,.int 0 0,.ref 31,.bool false,.int 181 0,.ref 32,.none,.none,.none,.none,.int 212 0,.int 4 0,hT 213]
def o34:Obj:={ cls:=.type "frame",slots:=#[some (.ref 33),some (.ref 3),some (.ref 30),none,some (.str ("oldhands.errors") 187),none,some (.ref 0)] }
def o36 (P:Params):Obj:={ cls:=.type "dict",data:=.dict #[hE P "__module__" 214 (.str ("oldhands.errors") 187),hE P "__firstlineno__" 218 (.int 4 217),hE P "__static_attributes__" 219 (.ref 35),hE P "__doc__" 220 (.none)] 2 }
def o37:Obj:={ cls:=.type "type",data:=.cls { name:= "BadKind",bases:=[.ref 24],mro:=[.ref 37,.ref 24,.type "ValueError",.type "Exception",.type "BaseException",.type "object"],ns:=36,qualname:= "BadKind" },slots:=#[some (.ref 28),none,some (.str ("BadKind") 207),some (.str ("BadKind") 215),some (.builtin "ValueError.__new__"),some (.bool true)] }
def o38:Obj:={ cls:=.type "super",data:=.fields #[.ref 37,.ref 37,.ref 37] }
def o39:Obj:={ cls:=.type "builtin_function_or_method",data:=.fields #[.builtin "object.__init_subclass__",.ref 37] }
def o42 (P:Params):Obj:={ cls:=.type "dict",data:=.dict #[hE P "__module__" 230 (.str ("oldhands.errors") 187),hE P "__qualname__" 232 (.str ("BadTurn") 231),hE P "__firstlineno__" 234 (.int 6 233),hE P "__static_attributes__" 235 (.ref 47)] 4 }
def o45:Obj:=hC "BadTurn" "BadTurn" 225 226 227 [.int 6 0,.int 0 0,.int 0 0,.int 0 0,.int 0 0,.ref 43,.bool false,.int 181 0,.ref 44,.none,.none,.none,.none,.int 228 0,.int 6 0,hT 229]
def o46:Obj:={ cls:=.type "frame",slots:=#[some (.ref 45),some (.ref 3),some (.ref 42),none,some (.str ("oldhands.errors") 187),none,some (.ref 0)] }
def o48 (P:Params):Obj:={ cls:=.type "dict",data:=.dict #[hE P "__module__" 230 (.str ("oldhands.errors") 187),hE P "__firstlineno__" 234 (.int 6 233),hE P "__static_attributes__" 235 (.ref 47),hE P "__doc__" 236 (.none)] 2 }
def o49:Obj:={ cls:=.type "type",data:=.cls { name:= "BadTurn",bases:=[.ref 24],mro:=[.ref 49,.ref 24,.type "ValueError",.type "Exception",.type "BaseException",.type "object"],ns:=48,qualname:= "BadTurn" },slots:=#[some (.ref 40),none,some (.str ("BadTurn") 223),some (.str ("BadTurn") 231),some (.builtin "ValueError.__new__"),some (.bool true)] }
def o50:Obj:={ cls:=.type "super",data:=.fields #[.ref 49,.ref 49,.ref 49] }
def o51:Obj:={ cls:=.type "builtin_function_or_method",data:=.fields #[.builtin "object.__init_subclass__",.ref 49] }
def o54 (P:Params):Obj:={ cls:=.type "dict",data:=.dict #[hE P "__module__" 246 (.str ("oldhands.errors") 187),hE P "__qualname__" 248 (.str ("BadPiece") 247),hE P "__firstlineno__" 250 (.int 8 249),hE P "__static_attributes__" 251 (.ref 59)] 4 }
def o57:Obj:=hC "BadPiece" "BadPiece" 241 242 243 [.int 8 0,.int 0 0,.int 0 0,.int 0 0,.int 0 0,.ref 55,.bool false,.int 181 0,.ref 56,.none,.none,.none,.none,.int 244 0,.int 8 0,hT 245]
def o58:Obj:={ cls:=.type "frame",slots:=#[some (.ref 57),some (.ref 3),some (.ref 54),none,some (.str ("oldhands.errors") 187),none,some (.ref 0)] }
def o60 (P:Params):Obj:={ cls:=.type "dict",data:=.dict #[hE P "__module__" 246 (.str ("oldhands.errors") 187),hE P "__firstlineno__" 250 (.int 8 249),hE P "__static_attributes__" 251 (.ref 59),hE P "__doc__" 252 (.none)] 2 }
def o61:Obj:={ cls:=.type "type",data:=.cls { name:= "BadPiece",bases:=[.ref 24],mro:=[.ref 61,.ref 24,.type "ValueError",.type "Exception",.type "BaseException",.type "object"],ns:=60,qualname:= "BadPiece" },slots:=#[some (.ref 52),none,some (.str ("BadPiece") 239),some (.str ("BadPiece") 247),some (.builtin "ValueError.__new__"),some (.bool true)] }
def o62:Obj:={ cls:=.type "super",data:=.fields #[.ref 61,.ref 61,.ref 61] }
def o63:Obj:={ cls:=.type "builtin_function_or_method",data:=.fields #[.builtin "object.__init_subclass__",.ref 61] }
def o64 (P:Params):Obj:={ cls:=.type "dict",data:=.dict #[hE P "number" 275 (.int 3 276),hE P "text" 277 (.int 2 278),hE P "choice" 279 (.int 2 280),hE P "list" 281 (.int 3 282),hE P "record" 283 (.int 2 284),hE P "rows" 285 (.int 4 286)] 6 }
def o67:Obj:=hU "is_name" "is_name" (top 16)
def o68:Obj:=hC "is_name" "is_name" 294 295 296 [.int 21 0,.int 1 0,.int 0 0,.int 0 0,.int 3 0,.ref 65,.bool true,.int 181 0,.ref 66,.none,.none,.none,.ref 67,.int 297 0,.int 21 0,hT 298]
def o69:Obj:=hF "is_name" "is_name" "oldhands.kinds" (top 16) 255 68
def o72:Obj:=hS [.str ("thing") 303]
def o74:Obj:=hU "is_whole" "is_whole" (top 17)
def o75:Obj:=hC "is_whole" "is_whole" 300 301 302 [.int 25 0,.int 1 0,.int 0 0,.int 0 0,.int 3 0,.ref 70,.bool true,.int 181 0,.ref 71,.none,.ref 72,.ref 73,.ref 74,.int 304 0,.int 25 0,hT 305]
def o76:Obj:=hF "is_whole" "is_whole" "oldhands.kinds" (top 17) 255 75
def o79:Obj:=hS [.str ("thing") 310,.str ("low") 311,.str ("high") 312]
def o81:Obj:=hU "is_whole_within" "is_whole_within" (top 18)
def o82:Obj:=hC "is_whole_within" "is_whole_within" 307 308 309 [.int 27 0,.int 3 0,.int 0 0,.int 0 0,.int 3 0,.ref 77,.bool true,.int 181 0,.ref 78,.none,.ref 79,.ref 80,.ref 81,.int 313 0,.int 27 0,hT 314]
def o83:Obj:=hF "is_whole_within" "is_whole_within" "oldhands.kinds" (top 18) 255 82
def o86:Obj:=hS [.str ("kind") 319]
def o88:Obj:=hU "made_kind" "made_kind" (top 19)
def o89:Obj:=hC "made_kind" "made_kind" 316 317 318 [.int 29 0,.int 1 0,.int 0 0,.int 0 0,.int 3 0,.ref 84,.bool true,.int 181 0,.ref 85,.none,.ref 86,.ref 87,.ref 88,.int 320 0,.int 29 0,hT 321]
def o90:Obj:=hF "made_kind" "made_kind" "oldhands.kinds" (top 19) 255 89
def o93:Obj:=hS [.str ("thing") 326,.str ("room") 327,.str ("word") 328]
def o95:Obj:=hU "is_formed" "is_formed" (top 20)
def o96:Obj:=hC "is_formed" "is_formed" 323 324 325 [.int 35 0,.int 2 0,.int 0 0,.int 0 0,.int 3 0,.ref 91,.bool true,.int 181 0,.ref 92,.none,.ref 93,.ref 94,.ref 95,.int 329 0,.int 35 0,hT 330]
def o97:Obj:=hF "is_formed" "is_formed" "oldhands.kinds" (top 20) 255 96
def BQ (P:Params):Obj:=hS [.str ("thing") 335]
def BR (P:Params):Obj:=hS []
def BS (P:Params):Obj:=hU "has_parts" "has_parts" (top 21)
def xU (P:Params):Obj:=hC "has_parts" "has_parts" 332 333 334 [.int 50 0,.int 1 0,.int 0 0,.int 0 0,.int 3 0,.ref 98,.bool true,.int 181 0,.ref 99,.none,.ref 100,.ref 101,.ref 102,.int 336 0,.int 50 0,hT 337]
def xV (P:Params):Obj:=hF "has_parts" "has_parts" "oldhands.kinds" (top 21) 255 103
def BU (P:Params):Obj:=hS []
def BV (P:Params):Obj:=hN
def BW (P:Params):Obj:=hS [.str ("low") 342,.str ("high") 343]
def BX (P:Params):Obj:=hS []
def BY (P:Params):Obj:=hU "are_bounds" "are_bounds" (top 22)
def xW (P:Params):Obj:=hC "are_bounds" "are_bounds" 339 340 341 [.int 54 0,.int 2 0,.int 0 0,.int 0 0,.int 3 0,.ref 105,.bool true,.int 181 0,.ref 106,.none,.ref 107,.ref 108,.ref 109,.int 344 0,.int 54 0,hT 345]
def xX (P:Params):Obj:=hF "are_bounds" "are_bounds" "oldhands.kinds" (top 22) 255 110
def BZ (P:Params):Obj:=hS []
def B1 (P:Params):Obj:=hN
def B2 (P:Params):Obj:=hU "are_words" "are_words" (top 23)
def xY (P:Params):Obj:=hC "are_words" "are_words" 347 348 349 [.int 58 0,.int 1 0,.int 0 0,.int 0 0,.int 3 0,.ref 112,.bool true,.int 181 0,.ref 113,.none,.none,.none,.ref 114,.int 350 0,.int 58 0,hT 351]
def xZ (P:Params):Obj:=hF "are_words" "are_words" "oldhands.kinds" (top 23) 255 115
def B3 (P:Params):Obj:=hS []
def B4 (P:Params):Obj:=hN
def B5 (P:Params):Obj:=hU "are_fields" "are_fields" (top 24)
def x9 (P:Params):Obj:=hC "are_fields" "are_fields" 353 354 355 [.int 62 0,.int 2 0,.int 0 0,.int 0 0,.int 3 0,.ref 117,.bool true,.int 181 0,.ref 118,.none,.none,.none,.ref 119,.int 356 0,.int 62 0,hT 357]
def ya (P:Params):Obj:=hF "are_fields" "are_fields" "oldhands.kinds" (top 24) 255 120
def B6 (P:Params):Obj:=hS []
def B7 (P:Params):Obj:=hN
def B8 (P:Params):Obj:=hS [.str ("field") 362,.str ("room") 363]
def B9 (P:Params):Obj:=hS []
def Ca (P:Params):Obj:=hU "is_field" "is_field" (top 25)
def yb (P:Params):Obj:=hC "is_field" "is_field" 359 360 361 [.int 69 0,.int 2 0,.int 0 0,.int 0 0,.int 3 0,.ref 122,.bool true,.int 181 0,.ref 123,.none,.ref 124,.ref 125,.ref 126,.int 364 0,.int 69 0,hT 365]
def yc (P:Params):Obj:=hF "is_field" "is_field" "oldhands.kinds" (top 25) 255 127
def Cb (P:Params):Obj:=hS []
def Cc (P:Params):Obj:=hN
def Cd (P:Params):Obj:=hS [.str ("key") 370,.str ("items") 371,.str ("room") 372,.str ("key_kind") 373]
def Ce (P:Params):Obj:=hS []
def Cf (P:Params):Obj:=hU "are_rows" "are_rows" (top 26)
def yd (P:Params):Obj:=hC "are_rows" "are_rows" 367 368 369 [.int 73 0,.int 3 0,.int 0 0,.int 0 0,.int 3 0,.ref 129,.bool true,.int 181 0,.ref 130,.none,.ref 131,.ref 132,.ref 133,.int 374 0,.int 73 0,hT 375]
def ye (P:Params):Obj:=hF "are_rows" "are_rows" "oldhands.kinds" (top 26) 255 134
def Cg (P:Params):Obj:=hS []
def Ch (P:Params):Obj:=hN
def Ci (P:Params):Obj:=hS [.str ("kind") 380,.str ("name") 381,.str ("own") 382,.str ("inner") 383]
def Cj (P:Params):Obj:=hS []
def Ck (P:Params):Obj:=hU "field_kind" "field_kind" (top 27)
def yf (P:Params):Obj:=hC "field_kind" "field_kind" 377 378 379 [.int 78 0,.int 2 0,.int 0 0,.int 0 0,.int 3 0,.ref 136,.bool true,.int 181 0,.ref 137,.none,.ref 138,.ref 139,.ref 140,.int 384 0,.int 78 0,hT 385]
def yg (P:Params):Obj:=hF "field_kind" "field_kind" "oldhands.kinds" (top 27) 255 141
def Cl (P:Params):Obj:=hS []
def Cm (P:Params):Obj:=hN
def Cn (P:Params):Obj:=hS [.str ("kind") 390]
def Co (P:Params):Obj:=hS []
def Cp (P:Params):Obj:=hU "item_kind" "item_kind" (top 28)
def yh (P:Params):Obj:=hC "item_kind" "item_kind" 387 388 389 [.int 85 0,.int 1 0,.int 0 0,.int 0 0,.int 3 0,.ref 143,.bool true,.int 181 0,.ref 144,.none,.ref 145,.ref 146,.ref 147,.int 391 0,.int 85 0,hT 392]
def yi (P:Params):Obj:=hF "item_kind" "item_kind" "oldhands.kinds" (top 28) 255 148
def Cq (P:Params):Obj:=hS []
def Cr (P:Params):Obj:=hN
def Cs (P:Params):Obj:=hU "kinds_within" "kinds_within" (top 29)
def yj (P:Params):Obj:=hC "kinds_within" "kinds_within" 394 395 396 [.int 91 0,.int 1 0,.int 0 0,.int 0 0,.int 3 0,.ref 150,.bool true,.int 181 0,.ref 151,.none,.none,.none,.ref 152,.int 397 0,.int 91 0,hT 398]
def yk (P:Params):Obj:=hF "kinds_within" "kinds_within" "oldhands.kinds" (top 29) 255 153
def Ct (P:Params):Obj:=hS []
def Cu (P:Params):Obj:=hN
def Cv (P:Params):Obj:=hU "kind_many" "kind_many" (top 30)
def yl (P:Params):Obj:=hC "kind_many" "kind_many" 400 401 402 [.int 96 0,.int 1 0,.int 0 0,.int 0 0,.int 3 0,.ref 155,.bool true,.int 181 0,.ref 156,.none,.none,.none,.ref 157,.int 403 0,.int 96 0,hT 404]
def ym (P:Params):Obj:=hF "kind_many" "kind_many" "oldhands.kinds" (top 30) 255 158
def Cw (P:Params):Obj:=hS []
def Cy (P:Params):Obj:=hN
def Cz (P:Params):Obj:=hS [.str ("letter") 413]
def CA (P:Params):Obj:=hS []
def CB (P:Params):Obj:=hU "is_sign" "is_sign" (top 33)
def yn (P:Params):Obj:=hC "is_sign" "is_sign" 410 411 412 [.int 100 0,.int 1 0,.int 0 0,.int 0 0,.int 3 0,.ref 160,.bool true,.int 181 0,.ref 161,.none,.ref 162,.ref 163,.ref 164,.int 414 0,.int 100 0,hT 415]
def yo (P:Params):Obj:=hF "is_sign" "is_sign" "oldhands.values" (top 33) 406 165
def CC (P:Params):Obj:=hS []
def CD (P:Params):Obj:=hN
def CF (P:Params):Obj:=hS [.str ("value") 420,.str ("kind") 421,.str ("word") 422]
def CG (P:Params):Obj:=hS []
def CH (P:Params):Obj:=hU "is_of" "is_of" (top 34)
def yp (P:Params):Obj:=hC "is_of" "is_of" 417 418 419 [.int 102 0,.int 2 0,.int 0 0,.int 0 0,.int 3 0,.ref 167,.bool true,.int 181 0,.ref 168,.none,.ref 169,.ref 170,.ref 171,.int 423 0,.int 102 0,hT 424]
def yq (P:Params):Obj:=hF "is_of" "is_of" "oldhands.values" (top 34) 406 172
def CI (P:Params):Obj:=hS []
def CJ (P:Params):Obj:=hN
def CK (P:Params):Obj:=hU "is_text_of" "is_text_of" (top 35)
def yr (P:Params):Obj:=hC "is_text_of" "is_text_of" 426 427 428 [.int 115 0,.int 2 0,.int 0 0,.int 0 0,.int 3 0,.ref 174,.bool true,.int 181 0,.ref 175,.none,.none,.none,.ref 176,.int 429 0,.int 115 0,hT 430]
def yt (P:Params):Obj:=hF "is_text_of" "is_text_of" "oldhands.values" (top 35) 406 177
def CL (P:Params):Obj:=hS []
def CN (P:Params):Obj:=hN
def CO (P:Params):Obj:=hS [.str ("value") 435,.str ("word") 436]
def CP (P:Params):Obj:=hS []
def CQ (P:Params):Obj:=hU "holds_tuple" "holds_tuple" (top 36)
def yu (P:Params):Obj:=hC "holds_tuple" "holds_tuple" 432 433 434 [.int 119 0,.int 2 0,.int 0 0,.int 0 0,.int 3 0,.ref 179,.bool true,.int 181 0,.ref 180,.none,.ref 181,.ref 182,.ref 183,.int 437 0,.int 119 0,hT 438]
def yv (P:Params):Obj:=hF "holds_tuple" "holds_tuple" "oldhands.values" (top 36) 406 184
def CS (P:Params):Obj:=hS []
def CU (P:Params):Obj:=hN
def CV (P:Params):Obj:=hU "holds_items" "holds_items" (top 37)
def yw (P:Params):Obj:=hC "holds_items" "holds_items" 440 441 442 [.int 121 0,.int 4 0,.int 0 0,.int 0 0,.int 3 0,.ref 186,.bool true,.int 181 0,.ref 187,.none,.none,.none,.ref 188,.int 443 0,.int 121 0,hT 444]
def yx (P:Params):Obj:=hF "holds_items" "holds_items" "oldhands.values" (top 37) 406 189
def CW (P:Params):Obj:=hS []
def CY (P:Params):Obj:=hN
def CZ (P:Params):Obj:=hU "is_record_of" "is_record_of" (top 38)
def yy (P:Params):Obj:=hC "is_record_of" "is_record_of" 446 447 448 [.int 125 0,.int 2 0,.int 0 0,.int 0 0,.int 3 0,.ref 191,.bool true,.int 181 0,.ref 192,.none,.none,.none,.ref 193,.int 449 0,.int 125 0,hT 450]
def yz (P:Params):Obj:=hF "is_record_of" "is_record_of" "oldhands.values" (top 38) 406 194
def C0 (P:Params):Obj:=hS []
def C1 (P:Params):Obj:=hN
def C2 (P:Params):Obj:=hS [.str ("pair") 455,.str ("field") 456]
def C3 (P:Params):Obj:=hS []
def C4 (P:Params):Obj:=hU "is_pair_of" "is_pair_of" (top 39)
def yA (P:Params):Obj:=hC "is_pair_of" "is_pair_of" 452 453 454 [.int 129 0,.int 2 0,.int 0 0,.int 0 0,.int 3 0,.ref 196,.bool true,.int 181 0,.ref 197,.none,.ref 198,.ref 199,.ref 200,.int 457 0,.int 129 0,hT 458]
def yB (P:Params):Obj:=hF "is_pair_of" "is_pair_of" "oldhands.values" (top 39) 406 201
def C5 (P:Params):Obj:=hS []
def C6 (P:Params):Obj:=hN
def C7 (P:Params):Obj:=hU "are_keyed" "are_keyed" (top 40)
def yC (P:Params):Obj:=hC "are_keyed" "are_keyed" 460 461 462 [.int 133 0,.int 2 0,.int 0 0,.int 0 0,.int 3 0,.ref 203,.bool true,.int 181 0,.ref 204,.none,.none,.none,.ref 205,.int 463 0,.int 133 0,hT 464]
def yD (P:Params):Obj:=hF "are_keyed" "are_keyed" "oldhands.values" (top 40) 406 206
def C8 (P:Params):Obj:=hS []
def C9 (P:Params):Obj:=hN
def Da (P:Params):Obj:=hS [.str ("record") 469,.str ("name") 470,.str ("own") 471,.str ("value") 472]
def Db (P:Params):Obj:=hS []
def Dc (P:Params):Obj:=hU "field_of" "field_of" (top 41)
def yE (P:Params):Obj:=hC "field_of" "field_of" 466 467 468 [.int 136 0,.int 2 0,.int 0 0,.int 0 0,.int 3 0,.ref 208,.bool true,.int 181 0,.ref 209,.none,.ref 210,.ref 211,.ref 212,.int 473 0,.int 136 0,hT 474]
def yF (P:Params):Obj:=hF "field_of" "field_of" "oldhands.values" (top 41) 406 213
def Dd (P:Params):Obj:=hS []
def De (P:Params):Obj:=hN
def Df (P:Params):Obj:=hU "record_of" "record_of" (top 42)
def yG (P:Params):Obj:=hC "record_of" "record_of" 476 477 478 [.int 141 0,.int 1 0,.int 0 0,.int 0 0,.int 3 0,.ref 215,.bool true,.int 181 0,.ref 216,.none,.none,.none,.ref 217,.int 479 0,.int 141 0,hT 480]
def yH (P:Params):Obj:=hF "record_of" "record_of" "oldhands.values" (top 42) 406 218
def Dg (P:Params):Obj:=hS []
def Dh (P:Params):Obj:=hN
def Di (P:Params):Obj:=hS [.str ("record") 485,.str ("names") 486,.str ("values") 487,.str ("fields") 488,.str ("name") 489,.str ("value") 490]
def Dj (P:Params):Obj:=hS []
def Dk (P:Params):Obj:=hU "with_fields" "with_fields" (top 43)
def yJ (P:Params):Obj:=hC "with_fields" "with_fields" 482 483 484 [.int 143 0,.int 3 0,.int 0 0,.int 0 0,.int 3 0,.ref 220,.bool true,.int 181 0,.ref 221,.none,.ref 222,.ref 223,.ref 224,.int 491 0,.int 143 0,hT 492]
def yK (P:Params):Obj:=hF "with_fields" "with_fields" "oldhands.values" (top 43) 406 225
def Dl (P:Params):Obj:=hS []
def Dm (P:Params):Obj:=hN
def Dn (P:Params):Obj:=hU "without_fields" "without_fields" (top 44)
def yL (P:Params):Obj:=hC "without_fields" "without_fields" 494 495 496 [.int 148 0,.int 2 0,.int 0 0,.int 0 0,.int 3 0,.ref 227,.bool true,.int 181 0,.ref 228,.none,.none,.none,.ref 229,.int 497 0,.int 148 0,hT 498]
def yM (P:Params):Obj:=hF "without_fields" "without_fields" "oldhands.values" (top 44) 406 230
def yN (P:Params):Obj:={ cls:=.type "dict",data:=.dict #[hE P "bounds" 506 (.int 3 507),hE P "scale" 508 (.int 2 509),hE P "shrink" 510 (.int 2 511),hE P "figures" 512 (.int 2 513),hE P "number" 514 (.int 3 515),hE P "words" 516 (.int 3 517),hE P "cut" 518 (.int 2 519),hE P "first" 520 (.int 2 521),hE P "one" 522 (.int 2 523),hE P "out" 524 (.int 1 525),hE P "items" 526 (.int 2 527)] 11 }
def yO (P:Params):Obj:={ cls:=.type "dict",data:=.dict #[hE P "bounds" 540 (.ref 234),hE P "scale" 542 (.ref 235),hE P "shrink" 544 (.ref 236),hE P "figures" 546 (.ref 237),hE P "number" 548 (.ref 238),hE P "words" 550 (.ref 239),hE P "cut" 552 (.ref 240),hE P "first" 554 (.ref 241),hE P "out" 557 (.ref 242),hE P "items" 559 (.ref 243)] 10 }
def yP (P:Params):Obj:=hS [.str ("number") 541]
def yQ (P:Params):Obj:=hS [.str ("number") 543]
def yR (P:Params):Obj:=hS [.str ("number") 545]
def yS (P:Params):Obj:=hS [.str ("number") 547]
def yT (P:Params):Obj:=hS [.str ("text") 549]
def yU (P:Params):Obj:=hS [.str ("choice") 551]
def yV (P:Params):Obj:=hS [.str ("text") 553]
def yW (P:Params):Obj:=hS [.str ("list") 555,.str ("rows") 556]
def yX (P:Params):Obj:=hS [.str ("list") 558]
def yY (P:Params):Obj:=hS [.str ("list") 560]
def Do (P:Params):Obj:=hS []
def Dp (P:Params):Obj:=hN
def Dq (P:Params):Obj:=hS [.str ("number") 575]
def Dr (P:Params):Obj:=hS []
def Ds (P:Params):Obj:=hU "figures_of" "figures_of" (top 50)
def yZ (P:Params):Obj:=hC "figures_of" "figures_of" 572 573 574 [.int 155 0,.int 1 0,.int 0 0,.int 0 0,.int 3 0,.ref 244,.bool true,.int 181 0,.ref 245,.none,.ref 246,.ref 247,.ref 248,.int 576 0,.int 155 0,hT 577]
def y0 (P:Params):Obj:=hF "figures_of" "figures_of" "oldhands.turns" (top 50) 500 249
def Du (P:Params):Obj:=hS []
def Dv (P:Params):Obj:=hN
def Dw (P:Params):Obj:=hS [.str ("thing") 582]
def Dx (P:Params):Obj:=hS []
def Dy (P:Params):Obj:=hU "is_factor" "is_factor" (top 51)
def y9 (P:Params):Obj:=hC "is_factor" "is_factor" 579 580 581 [.int 157 0,.int 1 0,.int 0 0,.int 0 0,.int 3 0,.ref 251,.bool true,.int 181 0,.ref 252,.none,.ref 253,.ref 254,.ref 255,.int 583 0,.int 157 0,hT 584]
def za (P:Params):Obj:=hF "is_factor" "is_factor" "oldhands.turns" (top 51) 500 256
def Dz (P:Params):Obj:=hS []
def DA (P:Params):Obj:=hN
def DB (P:Params):Obj:=hS [.str ("turn") 589,.str ("kind") 590]
def DC (P:Params):Obj:=hS []
def DD (P:Params):Obj:=hU "kind_behind" "kind_behind" (top 52)
def zb (P:Params):Obj:=hC "kind_behind" "kind_behind" 586 587 588 [.int 159 0,.int 2 0,.int 0 0,.int 0 0,.int 3 0,.ref 258,.bool true,.int 181 0,.ref 259,.none,.ref 260,.ref 261,.ref 262,.int 591 0,.int 159 0,hT 592]
def zc (P:Params):Obj:=hF "kind_behind" "kind_behind" "oldhands.turns" (top 52) 500 263
def DE (P:Params):Obj:=hS []
def DF (P:Params):Obj:=hN
def DG (P:Params):Obj:=hS [.str ("turn") 597,.str ("kind") 598,.str ("word") 599]
def DH (P:Params):Obj:=hS []
def DI (P:Params):Obj:=hU "is_turn_of" "is_turn_of" (top 53)
def zd (P:Params):Obj:=hC "is_turn_of" "is_turn_of" 594 595 596 [.int 166 0,.int 2 0,.int 0 0,.int 0 0,.int 3 0,.ref 265,.bool true,.int 181 0,.ref 266,.none,.ref 267,.ref 268,.ref 269,.int 600 0,.int 166 0,hT 601]
def ze (P:Params):Obj:=hF "is_turn_of" "is_turn_of" "oldhands.turns" (top 53) 500 270
def DJ (P:Params):Obj:=hS []
def DK (P:Params):Obj:=hN
def DL (P:Params):Obj:=hS [.str ("thing") 606]
def DM (P:Params):Obj:=hS []
def DN (P:Params):Obj:=hU "has_turn_parts" "has_turn_parts" (top 54)
def zf (P:Params):Obj:=hC "has_turn_parts" "has_turn_parts" 603 604 605 [.int 187 0,.int 1 0,.int 0 0,.int 0 0,.int 3 0,.ref 272,.bool true,.int 181 0,.ref 273,.none,.ref 274,.ref 275,.ref 276,.int 607 0,.int 187 0,hT 608]
def zg (P:Params):Obj:=hF "has_turn_parts" "has_turn_parts" "oldhands.turns" (top 54) 500 277
def DO (P:Params):Obj:=hS []
def DP (P:Params):Obj:=hN
def DQ (P:Params):Obj:=hS [.str ("low") 613,.str ("high") 614]
def DR (P:Params):Obj:=hS []
def DS (P:Params):Obj:=hU "most_figures" "most_figures" (top 55)
def zh (P:Params):Obj:=hC "most_figures" "most_figures" 610 611 612 [.int 191 0,.int 2 0,.int 0 0,.int 0 0,.int 3 0,.ref 279,.bool true,.int 181 0,.ref 280,.none,.ref 281,.ref 282,.ref 283,.int 615 0,.int 191 0,hT 616]
def zi (P:Params):Obj:=hF "most_figures" "most_figures" "oldhands.turns" (top 55) 500 284
def DT (P:Params):Obj:=hS []
def DU (P:Params):Obj:=hN
def DV (P:Params):Obj:=hU "are_led_words" "are_led_words" (top 56)
def zj (P:Params):Obj:=hC "are_led_words" "are_led_words" 618 619 620 [.int 193 0,.int 3 0,.int 0 0,.int 0 0,.int 3 0,.ref 286,.bool true,.int 181 0,.ref 287,.none,.none,.none,.ref 288,.int 621 0,.int 193 0,hT 622]
def zk (P:Params):Obj:=hF "are_led_words" "are_led_words" "oldhands.turns" (top 56) 500 289
def DW (P:Params):Obj:=hS []
def DX (P:Params):Obj:=hN
def DY (P:Params):Obj:=hU "words_behind" "words_behind" (top 57)
def zl (P:Params):Obj:=hC "words_behind" "words_behind" 624 625 626 [.int 208 0,.int 1 0,.int 0 0,.int 0 0,.int 3 0,.ref 291,.bool true,.int 181 0,.ref 292,.none,.none,.none,.ref 293,.int 627 0,.int 208 0,hT 628]
def zm (P:Params):Obj:=hF "words_behind" "words_behind" "oldhands.turns" (top 57) 500 294
def DZ (P:Params):Obj:=hS []
def D4 (P:Params):Obj:=hN
def D5 (P:Params):Obj:=hS [.str ("turn") 633,.str ("kind") 634,.str ("word") 635]
def D6 (P:Params):Obj:=hS []
def D7 (P:Params):Obj:=hU "led_kind" "led_kind" (top 58)
def zn (P:Params):Obj:=hC "led_kind" "led_kind" 630 631 632 [.int 210 0,.int 2 0,.int 0 0,.int 0 0,.int 3 0,.ref 296,.bool true,.int 181 0,.ref 297,.none,.ref 298,.ref 299,.ref 300,.int 636 0,.int 210 0,hT 637]
def zo (P:Params):Obj:=hF "led_kind" "led_kind" "oldhands.turns" (top 58) 500 301
def D8 (P:Params):Obj:=hS []
def D9 (P:Params):Obj:=hN
def Ea (P:Params):Obj:=hS [.str ("turn") 642,.str ("kind") 643]
def Eb (P:Params):Obj:=hS []
def Ec (P:Params):Obj:=hU "turn_about" "turn_about" (top 59)
def zp (P:Params):Obj:=hC "turn_about" "turn_about" 639 640 641 [.int 229 0,.int 2 0,.int 0 0,.int 0 0,.int 3 0,.ref 303,.bool true,.int 181 0,.ref 304,.none,.ref 305,.ref 306,.ref 307,.int 644 0,.int 229 0,hT 645]
def zq (P:Params):Obj:=hF "turn_about" "turn_about" "oldhands.turns" (top 59) 500 308
def Ed (P:Params):Obj:=hS []
def Ee (P:Params):Obj:=hN
def Ef (P:Params):Obj:=hU "led_about" "led_about" (top 60)
def zr (P:Params):Obj:=hC "led_about" "led_about" 647 648 649 [.int 232 0,.int 2 0,.int 0 0,.int 0 0,.int 3 0,.ref 310,.bool true,.int 181 0,.ref 311,.none,.none,.none,.ref 312,.int 650 0,.int 232 0,hT 651]
def zt (P:Params):Obj:=hF "led_about" "led_about" "oldhands.turns" (top 60) 500 313
def zu (P:Params):Obj:={ cls:=.type "dict",data:=.dict #[hE P "put" 655 (.ref 316),hE P "drop" 659 (.ref 317),hE P "name" 662 (.ref 318),hE P "sink" 665 (.ref 319),hE P "lift" 668 (.ref 320),hE P "turn" 671 (.ref 321),hE P "split" 674 (.ref 322),hE P "join" 679 (.ref 323),hE P "part" 684 (.ref 324),hE P "whole" 689 (.ref 325)] 10 }
def zv (P:Params):Obj:=hS [.str ("text") 656,.str ("tuple") 657,.str ("any") 658]
def zw (P:Params):Obj:=hS [.str ("text") 660,.str ("any") 661]
def zx (P:Params):Obj:=hS [.str ("text") 663,.str ("text") 664]
def zy (P:Params):Obj:=hS [.str ("text") 666,.str ("text") 667]
def zA (P:Params):Obj:=hS [.str ("text") 669,.str ("text") 670]
def zB (P:Params):Obj:=hS [.str ("text") 672,.str ("tuple") 673]
def zC (P:Params):Obj:=hS [.str ("text") 675,.str ("text") 676,.str ("text") 677,.str ("text") 678]
def zD (P:Params):Obj:=hS [.str ("text") 680,.str ("text") 681,.str ("text") 682,.str ("text") 683]
def zE (P:Params):Obj:=hS [.str ("text") 685,.str ("number") 686,.str ("text") 687,.str ("text") 688]
def zF (P:Params):Obj:=hS [.str ("text") 690,.str ("text") 691,.str ("number") 692,.str ("text") 693,.str ("number") 694,.str ("number") 695]
def Eg (P:Params):Obj:=hS []
def Eh (P:Params):Obj:=hN
def Ei (P:Params):Obj:=hS [.str ("piece") 710,.str ("word") 711]
def Ej (P:Params):Obj:=hS []
def Ek (P:Params):Obj:=hU "taken_paths" "taken_paths" (top 63)
def zG (P:Params):Obj:=hC "taken_paths" "taken_paths" 707 708 709 [.int 255 0,.int 1 0,.int 0 0,.int 0 0,.int 3 0,.ref 326,.bool true,.int 181 0,.ref 327,.none,.ref 328,.ref 329,.ref 330,.int 712 0,.int 255 0,hT 713]
def zH (P:Params):Obj:=hF "taken_paths" "taken_paths" "oldhands.pieces" (top 63) 653 331
def El (P:Params):Obj:=hS []
def Em (P:Params):Obj:=hN
def En (P:Params):Obj:=hS [.str ("piece") 718,.str ("word") 719]
def Eo (P:Params):Obj:=hS []
def Ep (P:Params):Obj:=hU "made_paths" "made_paths" (top 64)
def zI (P:Params):Obj:=hC "made_paths" "made_paths" 715 716 717 [.int 264 0,.int 1 0,.int 0 0,.int 0 0,.int 3 0,.ref 333,.bool true,.int 181 0,.ref 334,.none,.ref 335,.ref 336,.ref 337,.int 720 0,.int 264 0,hT 721]
def zJ (P:Params):Obj:=hF "made_paths" "made_paths" "oldhands.pieces" (top 64) 653 338
def Er (P:Params):Obj:=hS []
def Es (P:Params):Obj:=hN
def Et (P:Params):Obj:=hS [.str ("piece") 726,.str ("kind") 727,.str ("kinds") 728]
def Eu (P:Params):Obj:=hS []
def Ev (P:Params):Obj:=hU "record_behind" "record_behind" (top 65)
def zK (P:Params):Obj:=hC "record_behind" "record_behind" 723 724 725 [.int 277 0,.int 2 0,.int 0 0,.int 0 0,.int 3 0,.ref 340,.bool true,.int 181 0,.ref 341,.none,.ref 342,.ref 343,.ref 344,.int 729 0,.int 277 0,hT 730]
def zL (P:Params):Obj:=hF "record_behind" "record_behind" "oldhands.pieces" (top 65) 653 345
def Ew (P:Params):Obj:=hS []
def Ex (P:Params):Obj:=hN
def Ey (P:Params):Obj:=hU "has_piece_form" "has_piece_form" (top 66)
def zM (P:Params):Obj:=hC "has_piece_form" "has_piece_form" 732 733 734 [.int 289 0,.int 1 0,.int 0 0,.int 0 0,.int 3 0,.ref 347,.bool true,.int 181 0,.ref 348,.none,.none,.none,.ref 349,.int 735 0,.int 289 0,hT 736]
def zN (P:Params):Obj:=hF "has_piece_form" "has_piece_form" "oldhands.pieces" (top 66) 653 350
def Ez (P:Params):Obj:=hS []
def EA (P:Params):Obj:=hN
def EB (P:Params):Obj:=hS [.str ("part") 741,.str ("sort") 742]
def EC (P:Params):Obj:=hS []
def ED (P:Params):Obj:=hU "is_part" "is_part" (top 67)
def zO (P:Params):Obj:=hC "is_part" "is_part" 738 739 740 [.int 296 0,.int 2 0,.int 0 0,.int 0 0,.int 3 0,.ref 352,.bool true,.int 181 0,.ref 353,.none,.ref 354,.ref 355,.ref 356,.int 743 0,.int 296 0,hT 744]
def zP (P:Params):Obj:=hF "is_part" "is_part" "oldhands.pieces" (top 67) 653 357
def EE (P:Params):Obj:=hS []
def EF (P:Params):Obj:=hN
def EG (P:Params):Obj:=hU "can_take" "can_take" (top 68)
def zQ (P:Params):Obj:=hC "can_take" "can_take" 746 747 748 [.int 302 0,.int 2 0,.int 0 0,.int 0 0,.int 3 0,.ref 359,.bool true,.int 181 0,.ref 360,.none,.none,.none,.ref 361,.int 749 0,.int 302 0,hT 750]
def zR (P:Params):Obj:=hF "can_take" "can_take" "oldhands.pieces" (top 68) 653 362
def EH (P:Params):Obj:=hS []
def EI (P:Params):Obj:=hN
def EJ (P:Params):Obj:=hS [.str ("kind") 755,.str ("path") 756,.str ("here") 757,.str ("name") 758]
def EK (P:Params):Obj:=hS []
def EL (P:Params):Obj:=hU "kind_down" "kind_down" (top 69)
def zS (P:Params):Obj:=hC "kind_down" "kind_down" 752 753 754 [.int 308 0,.int 2 0,.int 0 0,.int 0 0,.int 3 0,.ref 364,.bool true,.int 181 0,.ref 365,.none,.ref 366,.ref 367,.ref 368,.int 759 0,.int 308 0,hT 760]
def zT (P:Params):Obj:=hF "kind_down" "kind_down" "oldhands.pieces" (top 69) 653 369
def EM (P:Params):Obj:=hS []
def EN (P:Params):Obj:=hN
def EO (P:Params):Obj:=hS [.str ("piece") 765,.str ("kinds") 766,.str ("word") 767]
def EQ (P:Params):Obj:=hS []
def ER (P:Params):Obj:=hU "takes_kinds" "takes_kinds" (top 70)
def zU (P:Params):Obj:=hC "takes_kinds" "takes_kinds" 762 763 764 [.int 313 0,.int 2 0,.int 0 0,.int 0 0,.int 3 0,.ref 371,.bool true,.int 181 0,.ref 372,.none,.ref 373,.ref 374,.ref 375,.int 768 0,.int 313 0,hT 769]
def zV (P:Params):Obj:=hF "takes_kinds" "takes_kinds" "oldhands.pieces" (top 70) 653 376
def ES (P:Params):Obj:=hS []
def ET (P:Params):Obj:=hN
def EU (P:Params):Obj:=hS [.str ("thing") 774]
def EV (P:Params):Obj:=hS []
def EW (P:Params):Obj:=hU "is_kind" "is_kind" (top 71)
def zW (P:Params):Obj:=hC "is_kind" "is_kind" 771 772 773 [.int 328 0,.int 1 0,.int 0 0,.int 0 0,.int 3 0,.ref 378,.bool true,.int 181 0,.ref 379,.none,.ref 380,.ref 381,.ref 382,.int 775 0,.int 328 0,hT 776]
def zX (P:Params):Obj:=hF "is_kind" "is_kind" "oldhands.pieces" (top 71) 653 383
def EX (P:Params):Obj:=hS []
def EY (P:Params):Obj:=hN
def EZ (P:Params):Obj:=hS [.str ("text") 781]
def E3 (P:Params):Obj:=hS []
def E4 (P:Params):Obj:=hU "is_separator" "is_separator" (top 72)
def zY (P:Params):Obj:=hC "is_separator" "is_separator" 778 779 780 [.int 334 0,.int 1 0,.int 0 0,.int 0 0,.int 3 0,.ref 385,.bool true,.int 181 0,.ref 386,.none,.ref 387,.ref 388,.ref 389,.int 782 0,.int 334 0,hT 783]
def zZ (P:Params):Obj:=hF "is_separator" "is_separator" "oldhands.pieces" (top 72) 653 390
def E5 (P:Params):Obj:=hS []
def E6 (P:Params):Obj:=hN
def E7 (P:Params):Obj:=hS [.str ("low") 788,.str ("high") 789,.str ("factor") 790]
def E8 (P:Params):Obj:=hS []
def E9 (P:Params):Obj:=hU "part_kinds" "part_kinds" (top 73)
def z0 (P:Params):Obj:=hC "part_kinds" "part_kinds" 785 786 787 [.int 336 0,.int 3 0,.int 0 0,.int 0 0,.int 3 0,.ref 392,.bool true,.int 181 0,.ref 393,.none,.ref 394,.ref 395,.ref 396,.int 791 0,.int 336 0,hT 792]
def z6 (P:Params):Obj:=hF "part_kinds" "part_kinds" "oldhands.pieces" (top 73) 653 397
def Fa (P:Params):Obj:=hS []
def Fb (P:Params):Obj:=hN
def Fc (P:Params):Obj:=hS [.str ("piece") 797,.str ("kinds") 798,.str ("word") 799]
def Fd (P:Params):Obj:=hS []
def Fe (P:Params):Obj:=hU "made_kinds" "made_kinds" (top 74)
def z7 (P:Params):Obj:=hC "made_kinds" "made_kinds" 794 795 796 [.int 338 0,.int 2 0,.int 0 0,.int 0 0,.int 3 0,.ref 399,.bool true,.int 181 0,.ref 400,.none,.ref 401,.ref 402,.ref 403,.int 800 0,.int 338 0,hT 801]
def z8 (P:Params):Obj:=hF "made_kinds" "made_kinds" "oldhands.pieces" (top 74) 653 404
def Ff (P:Params):Obj:=hS []
def Fg (P:Params):Obj:=hN
def Fh (P:Params):Obj:=hU "can_make" "can_make" (top 75)
def z9 (P:Params):Obj:=hC "can_make" "can_make" 803 804 805 [.int 353 0,.int 2 0,.int 0 0,.int 0 0,.int 3 0,.ref 406,.bool true,.int 181 0,.ref 407,.none,.none,.none,.ref 408,.int 806 0,.int 353 0,hT 807]
def Aa (P:Params):Obj:=hF "can_make" "can_make" "oldhands.pieces" (top 75) 653 409
def Fi (P:Params):Obj:=hS []
def Fj (P:Params):Obj:=hN
def Fk (P:Params):Obj:=hS [.str ("kind") 812,.str ("path") 813,.str ("outer") 814]
def Fm (P:Params):Obj:=hS []
def Fn (P:Params):Obj:=hU "is_free" "is_free" (top 76)
def Ab (P:Params):Obj:=hC "is_free" "is_free" 809 810 811 [.int 359 0,.int 2 0,.int 0 0,.int 0 0,.int 3 0,.ref 411,.bool true,.int 181 0,.ref 412,.none,.ref 413,.ref 414,.ref 415,.int 815 0,.int 359 0,hT 816]
def Ac (P:Params):Obj:=hF "is_free" "is_free" "oldhands.pieces" (top 76) 653 416
def Fo (P:Params):Obj:=hS []
def Fp (P:Params):Obj:=hN
def Fq (P:Params):Obj:=hS [.str ("piece") 821,.str ("kind") 822,.str ("word") 823,.str ("elder") 824]
def Fr (P:Params):Obj:=hS []
def Fs (P:Params):Obj:=hU "piece_about" "piece_about" (top 77)
def Ad (P:Params):Obj:=hC "piece_about" "piece_about" 818 819 820 [.int 364 0,.int 2 0,.int 0 0,.int 0 0,.int 3 0,.ref 418,.bool true,.int 181 0,.ref 419,.none,.ref 420,.ref 421,.ref 422,.int 825 0,.int 364 0,hT 826]
def Ae (P:Params):Obj:=hF "piece_about" "piece_about" "oldhands.pieces" (top 77) 653 423
def Ft (P:Params):Obj:=hS []
def Fu (P:Params):Obj:=hN
def Fv (P:Params):Obj:=hU "old_values" "old_values" (top 78)
def Af (P:Params):Obj:=hC "old_values" "old_values" 828 829 830 [.int 387 0,.int 2 0,.int 0 0,.int 0 0,.int 3 0,.ref 425,.bool true,.int 181 0,.ref 426,.none,.none,.none,.ref 427,.int 831 0,.int 387 0,hT 832]
def Ag (P:Params):Obj:=hF "old_values" "old_values" "oldhands.pieces" (top 78) 653 428
def Fw (P:Params):Obj:=hS []
def Fx (P:Params):Obj:=hN
def Fy (P:Params):Obj:=hS [.str ("record") 837,.str ("path") 838,.str ("here") 839,.str ("name") 840]
def Fz (P:Params):Obj:=hS []
def FA (P:Params):Obj:=hU "value_down" "value_down" (top 79)
def Ah (P:Params):Obj:=hC "value_down" "value_down" 834 835 836 [.int 389 0,.int 2 0,.int 0 0,.int 0 0,.int 3 0,.ref 430,.bool true,.int 181 0,.ref 431,.none,.ref 432,.ref 433,.ref 434,.int 841 0,.int 389 0,hT 842]
def Ai (P:Params):Obj:=hF "value_down" "value_down" "oldhands.pieces" (top 79) 653 435
def FC (P:Params):Obj:=hS []
def FD (P:Params):Obj:=hN
def FE (P:Params):Obj:=hS [.str ("piece") 847,.str ("kind") 848,.str ("record") 849,.str ("values") 850,.str ("told") 851,.str ("path") 852,.str ("value") 853]
def FF (P:Params):Obj:=hS []
def FG (P:Params):Obj:=hU "with_new" "with_new" (top 80)
def Aj (P:Params):Obj:=hC "with_new" "with_new" 844 845 846 [.int 394 0,.int 4 0,.int 0 0,.int 0 0,.int 3 0,.ref 437,.bool true,.int 181 0,.ref 438,.none,.ref 439,.ref 440,.ref 441,.int 854 0,.int 394 0,hT 855]
def Ak (P:Params):Obj:=hF "with_new" "with_new" "oldhands.pieces" (top 80) 653 442
def FH (P:Params):Obj:=hS []
def FI (P:Params):Obj:=hN
def FJ (P:Params):Obj:=hS [.str ("piece") 860,.str ("record") 861,.str ("rest") 862,.str ("path") 863]
def FL (P:Params):Obj:=hS []
def FM (P:Params):Obj:=hU "without_taken" "without_taken" (top 81)
def Al (P:Params):Obj:=hC "without_taken" "without_taken" 857 858 859 [.int 399 0,.int 2 0,.int 0 0,.int 0 0,.int 3 0,.ref 444,.bool true,.int 181 0,.ref 445,.none,.ref 446,.ref 447,.ref 448,.int 864 0,.int 399 0,hT 865]
def Am (P:Params):Obj:=hF "without_taken" "without_taken" "oldhands.pieces" (top 81) 653 449
def FN (P:Params):Obj:=hS []
def FO (P:Params):Obj:=hN
def FP (P:Params):Obj:=hS [.str ("record") 870,.str ("path") 871,.str ("box") 872]
def FQ (P:Params):Obj:=hS []
def FR (P:Params):Obj:=hU "without_down" "without_down" (top 82)
def An (P:Params):Obj:=hC "without_down" "without_down" 867 868 869 [.int 404 0,.int 2 0,.int 0 0,.int 0 0,.int 3 0,.ref 451,.bool true,.int 181 0,.ref 452,.none,.ref 453,.ref 454,.ref 455,.int 873 0,.int 404 0,hT 874]
def Ao (P:Params):Obj:=hF "without_down" "without_down" "oldhands.pieces" (top 82) 653 456
def FS (P:Params):Obj:=hS []
def FT (P:Params):Obj:=hN
def FU (P:Params):Obj:=hS [.str ("record") 879,.str ("path") 880,.str ("value") 881,.str ("box") 882]
def FV (P:Params):Obj:=hS []
def FW (P:Params):Obj:=hU "with_down" "with_down" (top 83)
def Ap (P:Params):Obj:=hC "with_down" "with_down" 876 877 878 [.int 409 0,.int 3 0,.int 0 0,.int 0 0,.int 3 0,.ref 458,.bool true,.int 181 0,.ref 459,.none,.ref 460,.ref 461,.ref 462,.int 883 0,.int 409 0,hT 884]
def Aq (P:Params):Obj:=hF "with_down" "with_down" "oldhands.pieces" (top 83) 653 463
def FX (P:Params):Obj:=hS []
def FY (P:Params):Obj:=hN
def FZ (P:Params):Obj:=hS [.str ("cell") 891,.str ("k") 892,.str ("stir") 893]
def F1 (P:Params):Obj:=hS []
def F2 (P:Params):Obj:=hU "_law_mixed" "_law_mixed" (top 85)
def Ar (P:Params):Obj:=hC "_law_mixed" "_law_mixed" 888 889 890 [.int 415 0,.int 2 0,.int 0 0,.int 0 0,.int 3 0,.ref 465,.bool true,.int 181 0,.ref 466,.none,.ref 467,.ref 468,.ref 469,.int 894 0,.int 415 0,hT 895]
def As (P:Params):Obj:=hF "_law_mixed" "_law_mixed" "law_oldhands_k23_pieces_refused" (top 85) 886 470
def F3 (P:Params):Obj:=hS []
def F4 (P:Params):Obj:=hN
def F5 (P:Params):Obj:=hS [.str ("script") 900,.str ("k") 901,.str ("cell") 902,.str ("j") 903,.str ("found") 904]
def F6 (P:Params):Obj:=hS []
def F7 (P:Params):Obj:=hU "_law_stream" "_law_stream" (top 86)
def At (P:Params):Obj:=hC "_law_stream" "_law_stream" 897 898 899 [.int 418 0,.int 2 0,.int 0 0,.int 0 0,.int 3 0,.ref 472,.bool true,.int 181 0,.ref 473,.none,.ref 474,.ref 475,.ref 476,.int 905 0,.int 418 0,hT 906]
def Au (P:Params):Obj:=hF "_law_stream" "_law_stream" "law_oldhands_k23_pieces_refused" (top 86) 886 477
def F8 (P:Params):Obj:=hS []
def F9 (P:Params):Obj:=hN
def Ga (P:Params):Obj:=hS [.str ("row") 911,.str ("many") 912,.str ("digit") 913]
def Gb (P:Params):Obj:=hS []
def Gc (P:Params):Obj:=hU "_law_digit" "_law_digit" (top 87)
def Av (P:Params):Obj:=hC "_law_digit" "_law_digit" 908 909 910 [.int 428 0,.int 2 0,.int 0 0,.int 0 0,.int 3 0,.ref 479,.bool true,.int 181 0,.ref 480,.none,.ref 481,.ref 482,.ref 483,.int 914 0,.int 428 0,hT 915]
def Aw (P:Params):Obj:=hF "_law_digit" "_law_digit" "law_oldhands_k23_pieces_refused" (top 87) 886 484
def Ge (P:Params):Obj:=hS []
def Gf (P:Params):Obj:=hN
def Gg (P:Params):Obj:=hS [.str ("row") 920,.str ("low") 921,.str ("box") 922,.str ("number") 923,.str ("text") 924]
def Gh (P:Params):Obj:=hS []
def Gi (P:Params):Obj:=hU "_law_kind" "_law_kind" (top 88)
def Ax (P:Params):Obj:=hC "_law_kind" "_law_kind" 917 918 919 [.int 432 0,.int 1 0,.int 0 0,.int 0 0,.int 3 0,.ref 486,.bool true,.int 181 0,.ref 487,.none,.ref 488,.ref 489,.ref 490,.int 925 0,.int 432 0,hT 926]
def Ay (P:Params):Obj:=hF "_law_kind" "_law_kind" "law_oldhands_k23_pieces_refused" (top 88) 886 491
def Gj (P:Params):Obj:=hS []
def Gk (P:Params):Obj:=hN
def Gm (P:Params):Obj:=hS [.str ("some") 931]
def Go (P:Params):Obj:=hS []
def Gp (P:Params):Obj:=hU "_law_missing" "_law_missing" (top 89)
def Az (P:Params):Obj:=hC "_law_missing" "_law_missing" 928 929 930 [.int 438 0,.int 0 0,.int 0 0,.int 0 0,.int 3 0,.ref 493,.bool true,.int 181 0,.ref 494,.none,.ref 495,.ref 496,.ref 497,.int 932 0,.int 438 0,hT 933]
def AA (P:Params):Obj:=hF "_law_missing" "_law_missing" "law_oldhands_k23_pieces_refused" (top 89) 886 498
def Gq (P:Params):Obj:=hS []
def Gr (P:Params):Obj:=hN
def Gs (P:Params):Obj:=hS [.str ("number") 938,.str ("text") 939,.str ("some") 940]
def Gu (P:Params):Obj:=hS []
def Gv (P:Params):Obj:=hU "_law_unfit" "_law_unfit" (top 90)
def AB (P:Params):Obj:=hC "_law_unfit" "_law_unfit" 935 936 937 [.int 448 0,.int 2 0,.int 0 0,.int 0 0,.int 3 0,.ref 500,.bool true,.int 181 0,.ref 501,.none,.ref 502,.ref 503,.ref 504,.int 941 0,.int 448 0,hT 942]
def AC (P:Params):Obj:=hF "_law_unfit" "_law_unfit" "law_oldhands_k23_pieces_refused" (top 90) 886 505
def Gw (P:Params):Obj:=hS []
def Gx (P:Params):Obj:=hN
def Gy (P:Params):Obj:=hS [.str ("way") 947,.str ("piece") 948,.str ("kind") 949,.str ("word") 950,.str ("e") 951,.str ("signs") 952]
def Gz (P:Params):Obj:=hS []
def GA (P:Params):Obj:=hU "_law_word" "_law_word" (top 91)
def AD (P:Params):Obj:=hC "_law_word" "_law_word" 944 945 946 [.int 458 0,.int 3 0,.int 0 0,.int 0 0,.int 3 0,.ref 507,.bool true,.int 181 0,.ref 508,.none,.ref 509,.ref 510,.ref 511,.int 953 0,.int 458 0,hT 954]
def AE (P:Params):Obj:=hF "_law_word" "_law_word" "law_oldhands_k23_pieces_refused" (top 91) 886 512
def GB (P:Params):Obj:=hS []
def GC (P:Params):Obj:=hN
def GD (P:Params):Obj:=hS [.str ("kind") 959,.str ("bad") 960,.str ("piece") 961]
def GE (P:Params):Obj:=hS []
def GF (P:Params):Obj:=hU "_law_wholes" "_law_wholes" (top 92)
def AF (P:Params):Obj:=hC "_law_wholes" "_law_wholes" 956 957 958 [.int 471 0,.int 0 0,.int 0 0,.int 0 0,.int 3 0,.ref 514,.bool true,.int 181 0,.ref 515,.none,.ref 516,.ref 517,.ref 518,.int 962 0,.int 471 0,hT 963]
def AG (P:Params):Obj:=hF "_law_wholes" "_law_wholes" "law_oldhands_k23_pieces_refused" (top 92) 886 519
def GG (P:Params):Obj:=hS []
def GH (P:Params):Obj:=hN
def GI (P:Params):Obj:=hS [.str ("script") 968,.str ("k") 969,.str ("row") 970,.str ("kind") 971,.str ("some") 972,.str ("piece") 973,.str ("turns") 974,.str ("turn") 975,.str ("way") 976]
def GJ (P:Params):Obj:=hS []
def GK (P:Params):Obj:=hU "law" "law" (top 93)
def AH (P:Params):Obj:=hC "law" "law" 965 966 967 [.int 480 0,.int 1 0,.int 0 0,.int 0 0,.int 3 0,.ref 521,.bool true,.int 181 0,.ref 522,.none,.ref 523,.ref 524,.ref 525,.int 977 0,.int 480 0,hT 978]
def AI (P:Params):Obj:=hF "law" "law" "law_oldhands_k23_pieces_refused" (top 93) 886 526
abbrev N (v:Obj) (l r:W.BT):W.BT:=.node v l r
abbrev E:W.BT:=.nil
def fT (P:Params):W.BT:=N (o0 P) (N (o1 P) (N (o3 P) (N (o7 P) (N o15 (N o11 (N o63 (N (yb P) (N (Dy P) (N (GA P) E E) E) (N (zW P) E E)) (N (CW P) (N (zy P) E E) (N (FL P) E E))) (N o95 (N (ym P) (N (DU P) E E) (N (Fn P) E E)) (N (Dj P) (N (zN P) E E) (N (F8 P) E E)))) (N o11 (N o79 (N (Cl P) (N (ze P) (N (AI P) E E) E) (N (Fa P) E E)) (N (yD P) (N (En P) E E) (N (Ap P) E E))) (N (xX P) (N (CJ P) (N (D8 P) E E) (N (Fx P) E E)) (N (yU P) (N (EK P) E E) (N (Gm P) E E))))) (N (o23 P) (N o39 (N o19 (N (ye P) (N (zb P) (N (AF P) E E) E) (N (zZ P) E E)) (N (C3 P) (N (Eh P) E E) (N (FR P) E E))) (N (xU P) (N (CC P) (N (zm P) E E) (N (Ad P) E E)) (N (yM P) (N (EE P) E E) (N (Gf P) E E)))) (N o11 (N o11 (N (Cr P) (N (DO P) E E) (N (Fg P) E E)) (N (Dd P) (N (Eu P) E E) (N (As P) E E))) (N (B5 P) (N (CQ P) (N (Ee P) E E) (N (FE P) E E)) (N (Dr P) (N (ER P) E E) (N (Gu P) E E)))))) (N o11 (N o19 (N o11 (N o67 (N (Cd P) (N (DA P) (N (GC P) E E) E) (N (EZ P) E E)) (N (yz P) (N (zD P) E E) (N (FN P) E E))) (N o19 (N (CA P) (N (DW P) E E) (N (Fp P) E E)) (N (Dl P) (N (EC P) E E) (N (Gc P) E E)))) (N o51 (N o83 (N (Cp P) (N (DM P) E E) (N (Fe P) E E)) (N (Db P) (N (zJ P) E E) (N (FZ P) E E))) (N (xY P) (N (CL P) (N (Ec P) E E) (N (Ah P) E E)) (N (yY P) (N (EM P) E E) (N (AA P) E E))))) (N o27 (N o11 (N o75 (N (Cj P) (N (DG P) (N (GI P) E E) E) (N (E8 P) E E)) (N (C5 P) (N (zG P) E E) (N (FT P) E E))) (N (BW P) (N (CH P) (N (D6 P) E E) (N (Fv P) E E)) (N (yQ P) (N (zR P) E E) (N (Ax P) E E)))) (N o11 (N o11 (N (Ct P) (N (DS P) E E) (N (Fi P) E E)) (N (yH P) (N (Ew P) E E) (N (F6 P) E E))) (N (B7 P) (N (CU P) (N (zu P) E E) (N (Ak P) E E)) (N (Du P) (N (ET P) E E) (N (Gw P) E E))))))) (N (o5 P) (N (o9 P) (N (o17 P) (N o33 (N o11 (N (Cb P) (N (za P) (N (AE P) E E) E) (N (EX P) E E)) (N (CZ P) (N (zB P) E E) (N (Al P) E E))) (N o97 (N (Cy P) (N (zj P) E E) (N (Ac P) E E)) (N (yJ P) (N (EA P) E E) (N (Ga P) E E)))) (N o49 (N o81 (N (Cn P) (N (DK P) E E) (N (Fc P) E E)) (N (C9 P) (N (Ep P) E E) (N (FX P) E E))) (N (B1 P) (N (yr P) (N (Ea P) E E) (N (Fz P) E E)) (N (yW P) (N (zS P) E E) (N (Gp P) E E))))) (N o25 (N o16 (N o11 (N (Ch P) (N (DE P) (N (GG P) E E) E) (N (E6 P) E E)) (N (yA P) (N (Ej P) E E) (N (Ao P) E E))) (N (BU P) (N (CF P) (N (D4 P) E E) (N (Ft P) E E)) (N (yO P) (N (EG P) E E) (N (Gh P) E E)))) (N o57 (N o89 (N (yj P) (N (DQ P) E E) (N (z9 P) E E)) (N (Df P) (N (zK P) E E) (N (F4 P) E E))) (N (ya P) (N (yv P) (N (zr P) E E) (N (FG P) E E)) (N (yZ P) (N (zV P) E E) (N (AB P) E E)))))) (N o13 (N o21 (N o37 (N o69 (N (Cf P) (N (DC P) (N (GE P) E E) E) (N (E4 P) E E)) (N (C1 P) (N (zF P) E E) (N (FP P) E E))) (N (BR P) (N (yn P) (N (DY P) E E) (N (Fr P) E E)) (N (Dn P) (N (zO P) E E) (N (Aw P) E E)))) (N o16 (N o19 (N (yi P) (N (zf P) E E) (N (z8 P) E E)) (N (yE P) (N (Es P) E E) (N (F2 P) E E))) (N (B3 P) (N (CO P) (N (zq P) E E) (N (FC P) E E)) (N (Dp P) (N (EO P) E E) (N (Gr P) E E))))) (N o16 (N o45 (N o11 (N (yf P) (N (DI P) (N (GK P) E E) E) (N (z0 P) E E)) (N (C7 P) (N (El P) E E) (N (FV P) E E))) (N (BY P) (N (yq P) (N (zn P) E E) (N (Ag P) E E)) (N (yS P) (N (EI P) E E) (N (Gj P) E E)))) (N o61 (N o93 (N (Cv P) (N (zi P) E E) (N (Fk P) E E)) (N (Dh P) (N (Ey P) E E) (N (At P) E E))) (N (B9 P) (N (yw P) (N (zw P) E E) (N (FI P) E E)) (N (Dw P) (N (EV P) E E) (N (Gy P) E E)))))))) (N (o2 P) (N (o4 P) (N (o8 P) (N o16 (N o19 (N (o64 P) (N (yc P) (N (y9 P) (N (AD P) E E) E) (N (zX P) E E)) (N (CY P) (N (zA P) E E) (N (FM P) E E))) (N o96 (N (Cw P) (N (DV P) E E) (N (Ab P) E E)) (N (Dk P) (N (Ez P) E E) (N (F9 P) E E)))) (N (o48 P) (N o11 (N (Cm P) (N (DJ P) E E) (N (Fb P) E E)) (N (C8 P) (N (Eo P) E E) (N (Aq P) E E))) (N (BZ P) (N (CK P) (N (D9 P) E E) (N (Fy P) E E)) (N (yV P) (N (EL P) E E) (N (Go P) E E))))) (N o24 (N o28 (N o72 (N (Cg P) (N (zc P) (N (AG P) E E) E) (N (E5 P) E E)) (N (C4 P) (N (Ei P) E E) (N (An P) E E))) (N (xV P) (N (CD P) (N (DZ P) E E) (N (Ae P) E E)) (N (yN P) (N (EF P) E E) (N (Gg P) E E)))) (N o19 (N o88 (N (Cs P) (N (DP P) E E) (N (Fh P) E E)) (N (De P) (N (Ev P) E E) (N (F3 P) E E))) (N (x9 P) (N (yu P) (N (Ef P) E E) (N (FF P) E E)) (N (Ds P) (N (zU P) E E) (N (Gv P) E E)))))) (N o12 (N o20 (N (o36 P) (N o68 (N (Ce P) (N (DB P) (N (GD P) E E) E) (N (E3 P) E E)) (N (C0 P) (N (zE P) E E) (N (FO P) E E))) (N (BQ P) (N (CB P) (N (DX P) E E) (N (Fq P) E E)) (N (Dm P) (N (ED P) E E) (N (Av P) E E)))) (N o28 (N o11 (N (yh P) (N (DN P) E E) (N (z7 P) E E)) (N (Dc P) (N (Er P) E E) (N (F1 P) E E))) (N (xZ P) (N (CN P) (N (zp P) E E) (N (Ai P) E E)) (N (Do P) (N (EN P) E E) (N (Gq P) E E))))) (N o28 (N o19 (N o76 (N (Ck P) (N (DH P) (N (GJ P) E E) E) (N (E9 P) E E)) (N (C6 P) (N (zH P) E E) (N (FU P) E E))) (N (BX P) (N (yp P) (N (D7 P) E E) (N (Af P) E E)) (N (yR P) (N (EH P) E E) (N (Ay P) E E)))) (N (o60 P) (N o19 (N (Cu P) (N (zh P) E E) (N (Fj P) E E)) (N (Dg P) (N (Ex P) E E) (N (F7 P) E E))) (N (B8 P) (N (CV P) (N (zv P) E E) (N (FH P) E E)) (N (Dv P) (N (EU P) E E) (N (Gx P) E E))))))) (N (o6 P) (N (o10 P) (N o11 (N o34 (N o19 (N (Cc P) (N (Dz P) (N (GB P) E E) E) (N (EY P) E E)) (N (yy P) (N (zC P) E E) (N (Am P) E E))) (N o11 (N (Cz P) (N (zk P) E E) (N (Fo P) E E)) (N (yK P) (N (EB P) E E) (N (Gb P) E E)))) (N o50 (N o82 (N (Co P) (N (DL P) E E) (N (Fd P) E E)) (N (Da P) (N (zI P) E E) (N (FY P) E E))) (N (B2 P) (N (yt P) (N (Eb P) E E) (N (FA P) E E)) (N (yX P) (N (zT P) E E) (N (Az P) E E))))) (N o26 (N (o42 P) (N o74 (N (Ci P) (N (DF P) (N (GH P) E E) E) (N (E7 P) E E)) (N (yB P) (N (Ek P) E E) (N (FS P) E E))) (N (BV P) (N (CG P) (N (D5 P) E E) (N (Fu P) E E)) (N (yP P) (N (zQ P) E E) (N (Gi P) E E)))) (N o58 (N o90 (N (yk P) (N (DR P) E E) (N (Aa P) E E)) (N (yG P) (N (zL P) E E) (N (F5 P) E E))) (N (B6 P) (N (CS P) (N (zt P) E E) (N (Aj P) E E)) (N (y0 P) (N (ES P) E E) (N (AC P) E E)))))) (N o14 (N o11 (N o38 (N o11 (N (yd P) (N (DD P) (N (GF P) E E) E) (N (zY P) E E)) (N (C2 P) (N (Eg P) E E) (N (FQ P) E E))) (N (BS P) (N (yo P) (N (zl P) E E) (N (Fs P) E E)) (N (yL P) (N (zP P) E E) (N (Ge P) E E)))) (N (o54 P) (N o86 (N (Cq P) (N (zg P) E E) (N (Ff P) E E)) (N (yF P) (N (Et P) E E) (N (Ar P) E E))) (N (B4 P) (N (CP P) (N (Ed P) E E) (N (FD P) E E)) (N (Dq P) (N (EQ P) E E) (N (Gs P) E E))))) (N (o30 P) (N o46 (N o19 (N (yg P) (N (zd P) (N (AH P) E E) E) (N (z6 P) E E)) (N (yC P) (N (Em P) E E) (N (FW P) E E))) (N (xW P) (N (CI P) (N (zo P) E E) (N (Fw P) E E)) (N (yT P) (N (EJ P) E E) (N (Gk P) E E)))) (N o62 (N o11 (N (yl P) (N (DT P) E E) (N (Fm P) E E)) (N (Di P) (N (zM P) E E) (N (Au P) E E))) (N (Ca P) (N (yx P) (N (zx P) E E) (N (FJ P) E E)) (N (Dx P) (N (EW P) E E) (N (Gz P) E E))))))))
def fO (P:Params) (i:Nat):Obj:=match (fT P).get i with | some v=>v | none=>hN
def mT (P:Params) (n:Nat):Nat->Nat->Nat->W.BT
 | 0,_,_=>.nil
 | k+1,a,b=>match Nat.blt b n with
  | true=>.node (fO P b) (mT P n k (Nat.mul 2 a) (Nat.add a b)) (mT P n k (Nat.mul 2 a) (Nat.add (Nat.mul 2 a) b))
  | false=>.nil
abbrev hA1:Option Value:=some (.ref 6)
abbrev hB1:List Frame:=[W.topFrame ⟨0,0,0,0⟩]
def bI:Env:={ scope:=pwX.main.scope,locals:=mainNs,globals:=mainNs,cells:=[],code:=.ref 13,frame:=some 14 }
abbrev hCo:Code:=.body (W.behindTheImports pwX) bI
def hp0 (P:Params):Heap:=⟨Array.mk (o0 P :: o1 P :: o2 P :: (gD P "__main__" 164 8 9) :: o4 P :: o5 P :: o6 P :: o7 P :: o8 P :: o9 P :: o10 P :: o11 :: (tD 0) :: o13 :: o14 :: []),{}⟩
def tB (P:Params):W.BT:=((mT P 15 11 1 0).set 3 (λ_=>gD P "__main__" 164 8 9)).set 12 (λ_=>tD 0)
def sB (w:World) (os:OsState):W.SharedT:=⟨tB w.params,15,{},Array.mk [],{},187,os⟩
def t0 (P:Params):W.BT:=(((mT P 28 11 1 0).set 3 (λ_=>gD P "oldhands.errors" 187 9 10)).set 12 (λ_=>tD 3)).set 24 (λ_=>{ cls:=.type "type",data:=.cls { name:= "HandError",bases:=[.type "ValueError"],mro:=[.ref 24,.type "ValueError",.type "Exception",.type "BaseException",.type "object"],ns:=23,qualname:= "HandError" },slots:=#[some (.ref 15),none,some (.str ("HandError") 189),some (.str ("HandError") 197),some (.builtin "ValueError.__new__"),some (.bool true)] })
def s0 (w:World) (os:OsState):W.SharedT:=⟨t0 w.params,28,{},Array.mk [],{},207,os⟩
def st0:List Stmt:=((W.behindTheImports pwX).drop 0).take 2
def t1 (P:Params):W.BT:=(((mT P 40 11 1 0).set 3 (λ_=>gD P "oldhands.errors" 187 10 11)).set 12 (λ_=>tD 6)).set 24 (λ_=>{ cls:=.type "type",data:=.cls { name:= "HandError",bases:=[.type "ValueError"],mro:=[.ref 24,.type "ValueError",.type "Exception",.type "BaseException",.type "object"],ns:=23,qualname:= "HandError",subclasses:=[.ref 37] },slots:=#[some (.ref 15),none,some (.str ("HandError") 189),some (.str ("HandError") 197),some (.builtin "ValueError.__new__"),some (.bool true)] })
def s1 (w:World) (os:OsState):W.SharedT:=⟨t1 w.params,40,{},Array.mk [],{},223,os⟩
def st1:List Stmt:=((W.behindTheImports pwX).drop 2).take 1
def t2 (P:Params):W.BT:=(((mT P 52 11 1 0).set 3 (λ_=>gD P "oldhands.errors" 187 11 12)).set 12 (λ_=>tD 9)).set 24 (λ_=>{ cls:=.type "type",data:=.cls { name:= "HandError",bases:=[.type "ValueError"],mro:=[.ref 24,.type "ValueError",.type "Exception",.type "BaseException",.type "object"],ns:=23,qualname:= "HandError",subclasses:=[.ref 37,.ref 49] },slots:=#[some (.ref 15),none,some (.str ("HandError") 189),some (.str ("HandError") 197),some (.builtin "ValueError.__new__"),some (.bool true)] })
def s2 (w:World) (os:OsState):W.SharedT:=⟨t2 w.params,52,{},Array.mk [],{},239,os⟩
def st2:List Stmt:=((W.behindTheImports pwX).drop 3).take 1
def t3 (P:Params):W.BT:=((mT P 64 11 1 0).set 3 (λ_=>gD P "oldhands.kinds" 255 21 22)).set 12 (λ_=>tD 12)
def s3 (w:World) (os:OsState):W.SharedT:=⟨t3 w.params,64,{},Array.mk [],{},275,os⟩
def st3:List Stmt:=((W.behindTheImports pwX).drop 4).take 11
def t4 (P:Params):W.BT:=((mT P 129 11 1 0).set 3 (λ_=>gD P "oldhands.kinds" 255 32 33)).set 12 (λ_=>tD 42)
def s4 (w:World) (os:OsState):W.SharedT:=⟨t4 w.params,129,{},Array.mk [],{},367,os⟩
def st4:List Stmt:=((W.behindTheImports pwX).drop 15).take 11
def t5 (P:Params):W.BT:=((mT P 208 11 1 0).set 3 (λ_=>gD P "oldhands.values" 406 46 47)).set 12 (λ_=>tD 81)
def s5 (w:World) (os:OsState):W.SharedT:=⟨t5 w.params,208,{},Array.mk [],{},466,os⟩
def st5:List Stmt:=((W.behindTheImports pwX).drop 26).take 15
def t6 (P:Params):W.BT:=((mT P 233 11 1 0).set 3 (λ_=>gD P "oldhands.turns" 500 53 54)).set 12 (λ_=>tD 93)
def s6 (w:World) (os:OsState):W.SharedT:=⟨t6 w.params,233,{},Array.mk [],{},540,os⟩
def st6:List Stmt:=((W.behindTheImports pwX).drop 41).take 8
def t7 (P:Params):W.BT:=((mT P 291 11 1 0).set 3 (λ_=>gD P "oldhands.turns" 500 61 62)).set 12 (λ_=>tD 114)
def s7 (w:World) (os:OsState):W.SharedT:=⟨t7 w.params,291,{},Array.mk [],{},624,os⟩
def st7:List Stmt:=((W.behindTheImports pwX).drop 49).take 8
def t8 (P:Params):W.BT:=((mT P 340 11 1 0).set 3 (λ_=>gD P "oldhands.pieces" 653 68 69)).set 12 (λ_=>tD 132)
def s8 (w:World) (os:OsState):W.SharedT:=⟨t8 w.params,340,{},Array.mk [],{},723,os⟩
def st8:List Stmt:=((W.behindTheImports pwX).drop 57).take 8
def t9 (P:Params):W.BT:=((mT P 425 11 1 0).set 3 (λ_=>gD P "oldhands.pieces" 653 81 82)).set 12 (λ_=>tD 171)
def s9 (w:World) (os:OsState):W.SharedT:=⟨t9 w.params,425,{},Array.mk [],{},828,os⟩
def st9:List Stmt:=((W.behindTheImports pwX).drop 65).take 13
def t10 (P:Params):W.BT:=((mT P 507 11 1 0).set 3 (λ_=>gD P "law_oldhands_k23_pieces_refused" 886 93 94)).set 12 (λ_=>tD 207)
def s10 (w:World) (os:OsState):W.SharedT:=⟨t10 w.params,507,{},Array.mk [],{},944,os⟩
def GL:List Stmt:=((W.behindTheImports pwX).drop 78).take 13
def t11 (P:Params):W.BT:=mT P 528 11 1 0
def s11 (w:World) (os:OsState):W.SharedT:=⟨t11 w.params,528,{},Array.mk [],{},980,os⟩
def GM:List Stmt:=((W.behindTheImports pwX).drop 91).take 3
def hp1 (P:Params):Heap:=⟨Array.mk (o0 P :: o1 P :: o2 P :: o3 P :: o4 P :: o5 P :: o6 P :: o7 P :: o8 P :: o9 P :: o10 P :: o11 :: o12 :: o13 :: o14 :: o15 :: o16 :: o17 P :: o11 :: o19 :: o20 :: o21 :: o11 :: o23 P :: o24 :: o25 :: o26 :: o27 :: o28 :: o16 :: o30 P :: o11 :: o19 :: o33 :: o34 :: o11 :: o36 P :: o37 :: o38 :: o39 :: o28 :: o16 :: o42 P :: o11 :: o19 :: o45 :: o46 :: o11 :: o48 P :: o49 :: o50 :: o51 :: o28 :: o16 :: o54 P :: o11 :: o19 :: o57 :: o58 :: o11 :: o60 P :: o61 :: o62 :: o63 :: o64 P :: o11 :: o19 :: o67 :: o68 :: o69 :: o11 :: o19 :: o72 :: o11 :: o74 :: o75 :: o76 :: o11 :: o19 :: o79 :: o11 :: o81 :: o82 :: o83 :: o11 :: o19 :: o86 :: o11 :: o88 :: o89 :: o90 :: o11 :: o19 :: o93 :: o11 :: o95 :: o96 :: o97 :: o11 :: o19 :: BQ P :: BR P :: BS P :: xU P :: xV P :: BU P :: BV P :: BW P :: BX P :: BY P :: xW P :: xX P :: BZ P :: B1 P :: B2 P :: xY P :: xZ P :: B3 P :: B4 P :: B5 P :: x9 P :: ya P :: B6 P :: B7 P :: B8 P :: B9 P :: Ca P :: yb P :: yc P :: Cb P :: Cc P :: Cd P :: Ce P :: Cf P :: yd P :: ye P :: Cg P :: Ch P :: Ci P :: Cj P :: Ck P :: yf P :: yg P :: Cl P :: Cm P :: Cn P :: Co P :: Cp P :: yh P :: yi P :: Cq P :: Cr P :: Cs P :: yj P :: yk P :: Ct P :: Cu P :: Cv P :: yl P :: ym P :: Cw P :: Cy P :: Cz P :: CA P :: CB P :: yn P :: yo P :: CC P :: CD P :: CF P :: CG P :: CH P :: yp P :: yq P :: CI P :: CJ P :: CK P :: yr P :: yt P :: CL P :: CN P :: CO P :: CP P :: CQ P :: yu P :: yv P :: CS P :: CU P :: CV P :: yw P :: yx P :: CW P :: CY P :: CZ P :: yy P :: yz P :: C0 P :: C1 P :: C2 P :: C3 P :: C4 P :: yA P :: yB P :: C5 P :: C6 P :: C7 P :: yC P :: yD P :: C8 P :: C9 P :: Da P :: Db P :: Dc P :: yE P :: yF P :: Dd P :: De P :: Df P :: yG P :: yH P :: Dg P :: Dh P :: Di P :: Dj P :: Dk P :: yJ P :: yK P :: Dl P :: Dm P :: Dn P :: yL P :: yM P :: yN P :: yO P :: yP P :: yQ P :: yR P :: yS P :: yT P :: yU P :: yV P :: yW P :: yX P :: yY P :: Do P :: Dp P :: Dq P :: Dr P :: Ds P :: yZ P :: y0 P :: Du P :: Dv P :: Dw P :: Dx P :: Dy P :: y9 P :: za P :: Dz P :: DA P :: DB P :: DC P :: DD P :: zb P :: zc P :: DE P :: DF P :: DG P :: DH P :: DI P :: zd P :: ze P :: DJ P :: DK P :: DL P :: DM P :: DN P :: zf P :: zg P :: DO P :: DP P :: DQ P :: DR P :: DS P :: zh P :: zi P :: DT P :: DU P :: DV P :: zj P :: zk P :: DW P :: DX P :: DY P :: zl P :: zm P :: DZ P :: D4 P :: D5 P :: D6 P :: D7 P :: zn P :: zo P :: D8 P :: D9 P :: Ea P :: Eb P :: Ec P :: zp P :: zq P :: Ed P :: Ee P :: Ef P :: zr P :: zt P :: zu P :: zv P :: zw P :: zx P :: zy P :: zA P :: zB P :: zC P :: zD P :: zE P :: zF P :: Eg P :: Eh P :: Ei P :: Ej P :: Ek P :: zG P :: zH P :: El P :: Em P :: En P :: Eo P :: Ep P :: zI P :: zJ P :: Er P :: Es P :: Et P :: Eu P :: Ev P :: zK P :: zL P :: Ew P :: Ex P :: Ey P :: zM P :: zN P :: Ez P :: EA P :: EB P :: EC P :: ED P :: zO P :: zP P :: EE P :: EF P :: EG P :: zQ P :: zR P :: EH P :: EI P :: EJ P :: EK P :: EL P :: zS P :: zT P :: EM P :: EN P :: EO P :: EQ P :: ER P :: zU P :: zV P :: ES P :: ET P :: EU P :: EV P :: EW P :: zW P :: zX P :: EX P :: EY P :: EZ P :: E3 P :: E4 P :: zY P :: zZ P :: E5 P :: E6 P :: E7 P :: E8 P :: E9 P :: z0 P :: z6 P :: Fa P :: Fb P :: Fc P :: Fd P :: Fe P :: z7 P :: z8 P :: Ff P :: Fg P :: Fh P :: z9 P :: Aa P :: Fi P :: Fj P :: Fk P :: Fm P :: Fn P :: Ab P :: Ac P :: Fo P :: Fp P :: Fq P :: Fr P :: Fs P :: Ad P :: Ae P :: Ft P :: Fu P :: Fv P :: Af P :: Ag P :: Fw P :: Fx P :: Fy P :: Fz P :: FA P :: Ah P :: Ai P :: FC P :: FD P :: FE P :: FF P :: FG P :: Aj P :: Ak P :: FH P :: FI P :: FJ P :: FL P :: FM P :: Al P :: Am P :: FN P :: FO P :: FP P :: FQ P :: FR P :: An P :: Ao P :: FS P :: FT P :: FU P :: FV P :: FW P :: Ap P :: Aq P :: FX P :: FY P :: FZ P :: F1 P :: F2 P :: Ar P :: As P :: F3 P :: F4 P :: F5 P :: F6 P :: F7 P :: At P :: Au P :: F8 P :: F9 P :: Ga P :: Gb P :: Gc P :: Av P :: Aw P :: Ge P :: Gf P :: Gg P :: Gh P :: Gi P :: Ax P :: Ay P :: Gj P :: Gk P :: Gm P :: Go P :: Gp P :: Az P :: AA P :: Gq P :: Gr P :: Gs P :: Gu P :: Gv P :: AB P :: AC P :: Gw P :: Gx P :: Gy P :: Gz P :: GA P :: AD P :: AE P :: GB P :: GC P :: GD P :: GE P :: GF P :: AF P :: AG P :: GG P :: GH P :: GI P :: GJ P :: GK P :: AH P :: AI P :: []),{}⟩
theorem Ij:∀ w:World,(λos=>W.topGo treeTable pwX w 11 hA1 12 ⟨W.boot_heap w.params,Array.mk [],W.boot_drawn,W.boot_toks,os⟩ (W.topStub pwX))=λos=>some (⟨hp0 w.params,Array.mk [],{},187,os⟩,⟨denote treeTable hCo,hCo,⟨0,0,0,0⟩,hB1⟩):=λw=>by kernel_rfl
theorem AJ:∀ w:World,(λos=>W.segRun treeTable pwX w 11 hA1 1 1 ⟨hp0 w.params,Array.mk [],{},187,os⟩ (W.blockOf (W.behindTheImports pwX) bI hCo ⟨0,0,0,0⟩ hB1))=λos=>some (.next,(sB w os).abs,hCo,⟨0,0,0,0⟩):=λw=>by kernel_rfl
theorem r0:∀ w:World,(λos=>W.segRunT treeTable pwX w 11 hA1 1 196 (sB w os) (W.piecesOf st0 bI hCo ⟨0,0,0,0⟩ hB1))=λos=>some (.next,s0 w os,hCo,⟨2,0,3,8⟩):=λw=>by kernel_rfl
theorem r1:∀ w:World,(λos=>W.segRunT treeTable pwX w 11 hA1 1 214 (s0 w os) (W.piecesOf st1 bI hCo ⟨2,0,3,8⟩ hB1))=λos=>some (.next,s1 w os,hCo,⟨4,0,5,8⟩):=λw=>by kernel_rfl
theorem r2:∀ w:World,(λos=>W.segRunT treeTable pwX w 11 hA1 1 214 (s1 w os) (W.piecesOf st2 bI hCo ⟨4,0,5,8⟩ hB1))=λos=>some (.next,s2 w os,hCo,⟨6,0,7,8⟩):=λw=>by kernel_rfl
theorem r3:∀ w:World,(λos=>W.segRunT treeTable pwX w 11 hA1 1 304 (s2 w os) (W.piecesOf st3 bI hCo ⟨6,0,7,8⟩ hB1))=λos=>some (.next,s3 w os,hCo,⟨19,0,19,7⟩):=λw=>by kernel_rfl
theorem r4f:∀ w:World,(λos=>W.segRunT treeTable pwX (w.withFollow "special-get-raises" false) 11 hA1 1 388 (s3 (w.withFollow "special-get-raises" false) os) (W.piecesOf st4 bI hCo ⟨19,0,19,7⟩ hB1))=λos=>some (.next,s4 (w.withFollow "special-get-raises" false) os,hCo,⟨69,0,72,58⟩):=λw=>by kernel_rfl
theorem r4t:∀ w:World,(λos=>W.segRunT treeTable pwX (w.withFollow "special-get-raises" true) 11 hA1 1 388 (s3 (w.withFollow "special-get-raises" true) os) (W.piecesOf st4 bI hCo ⟨19,0,19,7⟩ hB1))=λos=>some (.next,s4 (w.withFollow "special-get-raises" true) os,hCo,⟨69,0,72,58⟩):=λw=>by kernel_rfl
theorem r4:∀ w:World,(λos=>W.segRunT treeTable pwX w 11 hA1 1 388 (s3 w os) (W.piecesOf st4 bI hCo ⟨19,0,19,7⟩ hB1))=λos=>some (.next,s4 w os,hCo,⟨69,0,72,58⟩):=W.byRow2 "special-get-raises" (P:=λw=>(λos=>W.segRunT treeTable pwX w 11 hA1 1 388 (s3 w os) (W.piecesOf st4 bI hCo ⟨19,0,19,7⟩ hB1))=λos=>some (.next,s4 w os,hCo,⟨69,0,72,58⟩)) r4f r4t
theorem r5:∀ w:World,(λos=>W.segRunT treeTable pwX w 11 hA1 1 388 (s4 w os) (W.piecesOf st5 bI hCo ⟨69,0,72,58⟩ hB1))=λos=>some (.next,s5 w os,hCo,⟨133,0,135,73⟩):=λw=>by kernel_rfl
theorem r6f:∀ w:World,(λos=>W.segRunT treeTable pwX (w.withFollow "special-get-raises" false) 11 hA1 1 321 (s5 (w.withFollow "special-get-raises" false) os) (W.piecesOf st6 bI hCo ⟨133,0,135,73⟩ hB1))=λos=>some (.next,s6 (w.withFollow "special-get-raises" false) os,hCo,⟨153,0,153,11⟩):=λw=>by kernel_rfl
theorem r6t:∀ w:World,(λos=>W.segRunT treeTable pwX (w.withFollow "special-get-raises" true) 11 hA1 1 321 (s5 (w.withFollow "special-get-raises" true) os) (W.piecesOf st6 bI hCo ⟨133,0,135,73⟩ hB1))=λos=>some (.next,s6 (w.withFollow "special-get-raises" true) os,hCo,⟨153,0,153,11⟩):=λw=>by kernel_rfl
theorem r6:∀ w:World,(λos=>W.segRunT treeTable pwX w 11 hA1 1 321 (s5 w os) (W.piecesOf st6 bI hCo ⟨133,0,135,73⟩ hB1))=λos=>some (.next,s6 w os,hCo,⟨153,0,153,11⟩):=W.byRow2 "special-get-raises" (P:=λw=>(λos=>W.segRunT treeTable pwX w 11 hA1 1 321 (s5 w os) (W.piecesOf st6 bI hCo ⟨133,0,135,73⟩ hB1))=λos=>some (.next,s6 w os,hCo,⟨153,0,153,11⟩)) r6f r6t
theorem r7f:∀ w:World,(λos=>W.segRunT treeTable pwX (w.withFollow "special-get-raises" false) 11 hA1 1 386 (s6 (w.withFollow "special-get-raises" false) os) (W.piecesOf st7 bI hCo ⟨153,0,153,11⟩ hB1))=λos=>some (.next,s7 (w.withFollow "special-get-raises" false) os,hCo,⟨193,0,207,68⟩):=λw=>by kernel_rfl
theorem r7t:∀ w:World,(λos=>W.segRunT treeTable pwX (w.withFollow "special-get-raises" true) 11 hA1 1 386 (s6 (w.withFollow "special-get-raises" true) os) (W.piecesOf st7 bI hCo ⟨153,0,153,11⟩ hB1))=λos=>some (.next,s7 (w.withFollow "special-get-raises" true) os,hCo,⟨193,0,207,68⟩):=λw=>by kernel_rfl
theorem r7:∀ w:World,(λos=>W.segRunT treeTable pwX w 11 hA1 1 386 (s6 w os) (W.piecesOf st7 bI hCo ⟨153,0,153,11⟩ hB1))=λos=>some (.next,s7 w os,hCo,⟨193,0,207,68⟩):=W.byRow2 "special-get-raises" (P:=λw=>(λos=>W.segRunT treeTable pwX w 11 hA1 1 386 (s6 w os) (W.piecesOf st7 bI hCo ⟨153,0,153,11⟩ hB1))=λos=>some (.next,s7 w os,hCo,⟨193,0,207,68⟩)) r7f r7t
theorem r8f:∀ w:World,(λos=>W.segRunT treeTable pwX (w.withFollow "special-get-raises" false) 11 hA1 1 384 (s7 (w.withFollow "special-get-raises" false) os) (W.piecesOf st8 bI hCo ⟨193,0,207,68⟩ hB1))=λos=>some (.next,s8 (w.withFollow "special-get-raises" false) os,hCo,⟨264,0,276,24⟩):=λw=>by kernel_rfl
theorem r8t:∀ w:World,(λos=>W.segRunT treeTable pwX (w.withFollow "special-get-raises" true) 11 hA1 1 384 (s7 (w.withFollow "special-get-raises" true) os) (W.piecesOf st8 bI hCo ⟨193,0,207,68⟩ hB1))=λos=>some (.next,s8 (w.withFollow "special-get-raises" true) os,hCo,⟨264,0,276,24⟩):=λw=>by kernel_rfl
theorem r8:∀ w:World,(λos=>W.segRunT treeTable pwX w 11 hA1 1 384 (s7 w os) (W.piecesOf st8 bI hCo ⟨193,0,207,68⟩ hB1))=λos=>some (.next,s8 w os,hCo,⟨264,0,276,24⟩):=W.byRow2 "special-get-raises" (P:=λw=>(λos=>W.segRunT treeTable pwX w 11 hA1 1 384 (s7 w os) (W.piecesOf st8 bI hCo ⟨193,0,207,68⟩ hB1))=λos=>some (.next,s8 w os,hCo,⟨264,0,276,24⟩)) r8f r8t
theorem r9:∀ w:World,(λos=>W.segRunT treeTable pwX w 11 hA1 1 386 (s8 w os) (W.piecesOf st9 bI hCo ⟨264,0,276,24⟩ hB1))=λos=>some (.next,s9 w os,hCo,⟨364,0,386,59⟩):=λw=>by kernel_rfl
theorem r10:∀ w:World,(λos=>W.segRunT treeTable pwX w 11 hA1 1 386 (s9 w os) (W.piecesOf GL bI hCo ⟨364,0,386,59⟩ hB1))=λos=>some (.next,s10 w os,hCo,⟨448,0,457,116⟩):=λw=>by kernel_rfl
theorem r11:∀ w:World,(λos=>W.segRunT treeTable pwX w 11 hA1 1 103 (s10 w os) (W.piecesOf GM bI hCo ⟨448,0,457,116⟩ hB1))=λos=>some (.next,s11 w os,hCo,⟨480,0,495,15⟩):=λw=>by kernel_rfl
theorem Ik:∀ w:World,(λos=>W.topRun treeTable pwX w 11 hA1 2 (s11 w os).abs ⟨W.doneF .next,hCo,⟨480,0,495,15⟩,hB1⟩)=λos=>some (⟨hp1 w.params,Array.mk [],{},980,os⟩:Shared):=λw=>by kernel_rfl
theorem Il:W.behindTheImports pwX=st0++(st1++(st2++(st3++(st4++(st5++(st6++(st7++(st8++(st9++(GL++(GM++[]))))))))))):=by kernel_rfl
theorem Im (w:World) (os:OsState):W.topRun treeTable pwX w 11 hA1 (12+(1+(196+(214+(214+(304+(388+(388+(321+(386+(384+(386+(386+(103+(2))))))))))))))) ⟨W.boot_heap w.params,Array.mk [],W.boot_drawn,W.boot_toks,os⟩ (W.topStub pwX)=some ⟨hp1 w.params,Array.mk [],{},980,os⟩:=by
 refine W.go_top (congrFun (Ij w) os) (W.piece_block (congrFun (AJ w) os) ?_);rw [Il];exact (W.piece_app (W.segRun_of (congrFun (r0 w) os)) (W.piece_app (W.segRun_of (congrFun (r1 w) os)) (W.piece_app (W.segRun_of (congrFun (r2 w) os)) (W.piece_app (W.segRun_of (congrFun (r3 w) os)) (W.piece_app (W.segRun_of (congrFun (r4 w) os)) (W.piece_app (W.segRun_of (congrFun (r5 w) os)) (W.piece_app (W.segRun_of (congrFun (r6 w) os)) (W.piece_app (W.segRun_of (congrFun (r7 w) os)) (W.piece_app (W.segRun_of (congrFun (r8 w) os)) (W.piece_app (W.segRun_of (congrFun (r9 w) os)) (W.piece_app (W.segRun_of (congrFun (r10 w) os)) (W.piece_app (W.segRun_of (congrFun (r11 w) os)) (show W.topRun treeTable pwX w 11 hA1 2 _ (W.restOf [] bI hCo ⟨480,0,495,15⟩ hB1)=_ from congrFun (Ik w) os)))))))))))))
def hK:Params->W.Frag:=λP =>
 (nat_lit 3,o3 P) :: (nat_lit 4,o4 P) :: (nat_lit 6,o6 P) :: (nat_lit 15,o15) :: (nat_lit 22,o11) :: (nat_lit 23,o23 P) :: (nat_lit 24,o24) :: (nat_lit 25,o25) :: (nat_lit 28,o28) :: (nat_lit 35,o11) :: (nat_lit 36,o36 P) :: (nat_lit 37,o37) :: (nat_lit 40,o28) :: (nat_lit 47,o11) :: (nat_lit 48,o48 P) :: (nat_lit 49,o49) :: (nat_lit 52,o28) :: (nat_lit 59,o11) :: (nat_lit 60,o60 P) :: (nat_lit 61,o61) :: (nat_lit 64,o64 P) :: (nat_lit 68,o68) :: (nat_lit 69,o69) :: (nat_lit 75,o75) :: (nat_lit 76,o76) :: (nat_lit 82,o82) :: (nat_lit 83,o83) :: (nat_lit 89,o89) :: (nat_lit 90,o90) :: (nat_lit 96,o96) :: (nat_lit 97,o97) :: (nat_lit 103,xU P) :: (nat_lit 104,xV P) :: (nat_lit 110,xW P) :: (nat_lit 111,xX P) :: (nat_lit 115,xY P) :: (nat_lit 116,xZ P) :: (nat_lit 120,x9 P) :: (nat_lit 121,ya P) :: (nat_lit 127,yb P) :: (nat_lit 128,yc P) :: (nat_lit 134,yd P) :: (nat_lit 135,ye P) :: (nat_lit 141,yf P) :: (nat_lit 142,yg P) :: (nat_lit 148,yh P) :: (nat_lit 149,yi P) :: (nat_lit 153,yj P) :: (nat_lit 154,yk P) :: (nat_lit 158,yl P) :: (nat_lit 159,ym P) :: (nat_lit 165,yn P) :: (nat_lit 166,yo P) :: (nat_lit 172,yp P) :: (nat_lit 173,yq P) :: (nat_lit 177,yr P) :: (nat_lit 178,yt P) :: (nat_lit 184,yu P) :: (nat_lit 185,yv P) :: (nat_lit 189,yw P) :: (nat_lit 190,yx P) :: (nat_lit 194,yy P) :: (nat_lit 195,yz P) :: (nat_lit 201,yA P) :: (nat_lit 202,yB P) :: (nat_lit 206,yC P) :: (nat_lit 207,yD P) :: (nat_lit 213,yE P) :: (nat_lit 214,yF P) :: (nat_lit 218,yG P) :: (nat_lit 219,yH P) :: (nat_lit 225,yJ P) :: (nat_lit 226,yK P) :: (nat_lit 230,yL P) :: (nat_lit 231,yM P) :: (nat_lit 232,yN P) :: (nat_lit 233,yO P) :: (nat_lit 234,yP P) :: (nat_lit 235,yQ P) :: (nat_lit 236,yR P) :: (nat_lit 237,yS P) :: (nat_lit 238,yT P) :: (nat_lit 239,yU P) :: (nat_lit 240,yV P) :: (nat_lit 241,yW P) :: (nat_lit 242,yX P) :: (nat_lit 243,yY P) :: (nat_lit 249,yZ P) :: (nat_lit 250,y0 P) :: (nat_lit 256,y9 P) :: (nat_lit 257,za P) :: (nat_lit 263,zb P) :: (nat_lit 264,zc P) :: (nat_lit 270,zd P) :: (nat_lit 271,ze P) :: (nat_lit 277,zf P) :: (nat_lit 278,zg P) :: (nat_lit 284,zh P) :: (nat_lit 285,zi P) :: (nat_lit 289,zj P) :: (nat_lit 290,zk P) :: (nat_lit 294,zl P) :: (nat_lit 295,zm P) :: (nat_lit 301,zn P) :: (nat_lit 302,zo P) :: (nat_lit 308,zp P) :: (nat_lit 309,zq P) :: (nat_lit 313,zr P) :: (nat_lit 314,zt P) :: (nat_lit 315,zu P) :: (nat_lit 316,zv P) :: (nat_lit 317,zw P) :: (nat_lit 318,zx P) :: (nat_lit 319,zy P) :: (nat_lit 320,zA P) :: (nat_lit 321,zB P) :: (nat_lit 322,zC P) :: (nat_lit 323,zD P) :: (nat_lit 324,zE P) :: (nat_lit 325,zF P) :: (nat_lit 331,zG P) :: (nat_lit 332,zH P) :: (nat_lit 338,zI P) :: (nat_lit 339,zJ P) :: (nat_lit 345,zK P) :: (nat_lit 346,zL P) :: (nat_lit 350,zM P) :: (nat_lit 351,zN P) :: (nat_lit 357,zO P) :: (nat_lit 358,zP P) :: (nat_lit 362,zQ P) :: (nat_lit 363,zR P) :: (nat_lit 369,zS P) :: (nat_lit 370,zT P) :: (nat_lit 376,zU P) :: (nat_lit 377,zV P) :: (nat_lit 383,zW P) :: (nat_lit 384,zX P) :: (nat_lit 390,zY P) :: (nat_lit 391,zZ P) :: (nat_lit 397,z0 P) :: (nat_lit 398,z6 P) :: (nat_lit 404,z7 P) :: (nat_lit 405,z8 P) :: (nat_lit 409,z9 P) :: (nat_lit 410,Aa P) :: (nat_lit 416,Ab P) :: (nat_lit 417,Ac P) :: (nat_lit 423,Ad P) :: (nat_lit 424,Ae P) :: (nat_lit 428,Af P) :: (nat_lit 429,Ag P) :: (nat_lit 435,Ah P) :: (nat_lit 436,Ai P) :: (nat_lit 442,Aj P) :: (nat_lit 443,Ak P) :: (nat_lit 449,Al P) :: (nat_lit 450,Am P) :: (nat_lit 456,An P) :: (nat_lit 457,Ao P) :: (nat_lit 463,Ap P) :: (nat_lit 464,Aq P) :: (nat_lit 470,Ar P) :: (nat_lit 471,As P) :: (nat_lit 477,At P) :: (nat_lit 478,Au P) :: (nat_lit 484,Av P) :: (nat_lit 485,Aw P) :: (nat_lit 491,Ax P) :: (nat_lit 492,Ay P) :: (nat_lit 498,Az P) :: (nat_lit 499,AA P) :: (nat_lit 505,AB P) :: (nat_lit 506,AC P) :: (nat_lit 512,AD P) :: (nat_lit 513,AE P) :: (nat_lit 519,AF P) :: (nat_lit 520,AG P) :: (nat_lit 526,AH P) :: (nat_lit 527,AI P) :: []
def hA:List Addr:=[3,4,6,15,22,23,24,25,28,35,36,37,40,47,48,49,52,59,60,61,64,68,69,75,76,82,83,89,90,96,97,103,104,110,111,115,116,120,121,127,128,134,135,141,142,148,149,153,154,158,159,165,166,172,173,177,178,184,185,189,190,194,195,201,202,206,207,213,214,218,219,225,226,230,231,232,233,234,235,236,237,238,239,240,241,242,243,249,250,256,257,263,264,270,271,277,278,284,285,289,290,294,295,301,302,308,309,313,314,315,316,317,318,319,320,321,322,323,324,325,331,332,338,339,345,346,350,351,357,358,362,363,369,370,376,377,383,384,390,391,397,398,404,405,409,410,416,417,423,424,428,429,435,436,442,443,449,450,456,457,463,464,470,471,477,478,484,485,491,492,498,499,505,506,512,513,519,520,526,527]
theorem hKA:∀ P,hA=(hK P).map (·.1):=λ_=>by kernel_rfl
abbrev hH:W.Hook:=W.kHook hK hA hKA
abbrev hQ:Program:=W.view pwX [93]
def hW:List Str:= "HandError" :: "BadKind" :: "BadTurn" :: "BadPiece" :: "LETTERS" :: "LONGEST_NAME" :: "EACH" :: "MOST_SIGNS" :: "MOST_WORDS" :: "MOST_FIELDS" :: "MOST_ITEMS" :: "MOST_KINDS" :: "DEEPEST" :: "PART_COUNTS" :: "is_name" :: "is_whole" :: "is_whole_within" :: "made_kind" :: "is_formed" :: "has_parts" :: "are_bounds" :: "are_words" :: "are_fields" :: "is_field" :: "are_rows" :: "field_kind" :: "item_kind" :: "kinds_within" :: "kind_many" :: "PERCENT" :: "is_sign" :: "is_of" :: "is_text_of" :: "holds_tuple" :: "holds_items" :: "is_record_of" :: "is_pair_of" :: "are_keyed" :: "field_of" :: "record_of" :: "with_fields" :: "without_fields" :: "LEAST_FACTOR" :: "GREATEST_FACTOR" :: "TURN_COUNTS" :: "TURN_SORTS" :: "figures_of" :: "is_factor" :: "kind_behind" :: "is_turn_of" :: "has_turn_parts" :: "most_figures" :: "are_led_words" :: "words_behind" :: "led_kind" :: "turn_about" :: "led_about" :: "PIECE_FORMS" :: "taken_paths" :: "made_paths" :: "record_behind" :: "has_piece_form" :: "is_part" :: "can_take" :: "kind_down" :: "takes_kinds" :: "is_kind" :: "is_separator" :: "part_kinds" :: "made_kinds" :: "can_make" :: "is_free" :: "piece_about" :: "old_values" :: "value_down" :: "with_new" :: "without_taken" :: "without_down" :: "with_down" :: "_law_mixed" :: "_law_stream" :: "_law_digit" :: "_law_kind" :: "_law_missing" :: "_law_unfit" :: "_law_word" :: "_law_wholes" :: []
abbrev hX (s:Shared):Bool:=W.recOk (W.RowW.records (W.OpenRow.toRowW PySem.Challenge.rw_oldhands_k23_pieces_refused.row)) s
theorem GN:∀ w:World,((W.boot_heap w.params).isNs mainGlobals && (Array.mk []:Array GenState).size == 0,(W.boot_heap w.params).objs.size,(W.boot_heap w.params).nsMap mainGlobals "__annotations__")=(true,11,hA1):=λw=>by kernel_rfl
theorem rL1:∀ w:World,(λos=>(W.staticsOk (importedModules pwX.main.body) (W.boot_heap w.params) (hp1 w.params) && W.namesBound pwX (hp1 w.params) && W.gensDone ⟨hp1 w.params,Array.mk [],{},980,os⟩ && W.laidKept (W.boot_heap w.params) (hp1 w.params)))=λ_=>true:=λw=>by kernel_rfl
theorem rL2:∀ w:World,(λos=>W.openSeen hQ hW (importedModules pwX.main.body) hX true ⟨hp1 w.params,Array.mk [],{},980,os⟩)=λ_=>W.openGood hQ hW:=λw=>by kernel_rfl
theorem rL3:∀ w:World,(λos=>hH.obs ⟨hp1 w.params,Array.mk [],{},980,os⟩)=λ_=>hH.val w:=λw=>by kernel_rfl
theorem hl:W.LeftO pwX hQ hW hX hH.obs hH.val 4685 :=
 W.LeftO.of_pieces (H₀:=W.boot_heap) (H₁:=hp1) (gs₀:=Array.mk []) (gs₁:=Array.mk []) (d₀:=W.boot_drawn) (d₁:={}) (k₀:=W.boot_toks) (k₁:=980) (m₀:=11) (ann:=hA1) (M:=12+(1+(196+(214+(214+(304+(388+(388+(321+(386+(384+(386+(386+(103+(2)))))))))))))))
  (W.boot_open (by kernel_rfl) (by rfl) (λs=>by rfl)) GN Im (0) (λw=>funext λos=>W.looks_pair (congrFun (rL1 w) os) (W.looks_pair (congrFun (rL2 w) os) (congrFun (rL3 w) os)))
theorem said:PySem.Challenge.rw_oldhands_k23_pieces_refused.wellSaid=true:=by
 unfold W.OpenLaw.wellSaid W.OpenRow.wellSaid W.OpenRow.partSaid W.looksOpen
 repeat' (with_reducible refine W.look_both ?_ ?_)
 all_goals decide +kernel
end K23
namespace L2
open PySem PySem.Spec PyProof.Rows
abbrev Key:=Sum Int Str
def ix:Key->Value->Bool
 | .inl k,v=>Value.isInt k v
 | .inr x,v=>Value.isStrOf x v
def Io (w:World):Key->Int
 | .inl k=>hashInt k
 | .inr x=>hashStr w x
theorem aK:∀ {k:Key} {v:Value},ix k v=true->(∃ i t,k=Sum.inl i/\v=Value.int i t)\/(∃ x t,k=Sum.inr x/\v=Value.str x t)
 | .inl i,v,h=>by
  obtain ⟨t,e⟩:=Value.isInt_shape (k:=i) (v:=v) h;exact .inl ⟨i,t,rfl,e⟩
 | .inr x,v,h=>by
  obtain ⟨t,e⟩:=Value.isStrOf_shape (x:=x) (v:=v) h;exact .inr ⟨x,t,rfl,e⟩
theorem rq (i:Int) (t:Tok):ix (.inl i) (.int i t)=true:=by simp [ix,Value.isInt]
theorem rA (x:Str) (t:Tok):ix (.inr x) (.str x t)=true:=by simp [ix,Value.isStrOf]
theorem AK (a b:Int):decide ((Sum.inl a:Key)=Sum.inl b)=(a == b):=by
 by_cases e:a=b
 ·subst e;simp
 ·have h:¬ (Sum.inl a:Key)=Sum.inl b:=λq=>e (Sum.inl.inj q);rw [decide_eq_false h];exact (beq_eq_false_iff_ne.mpr e).symm
theorem AL (a b:Str):decide ((Sum.inr a:Key)=Sum.inr b)=decide (a=b):=by
 by_cases e:a=b
 ·subst e;simp
 ·have h:¬ (Sum.inr a:Key)=Sum.inr b:=λq=>e (Sum.inr.inj q);rw [decide_eq_false h,decide_eq_false e]
theorem AM (a:Int) (b:Str):decide ((Sum.inl a:Key)=Sum.inr b)=false:=decide_eq_false (λq=>nomatch q)
theorem AN (a:Str) (b:Int):decide ((Sum.inr a:Key)=Sum.inl b)=false:=decide_eq_false (λq=>nomatch q)
def ag (prog:Program) (w:World):PySem.KeyKind prog w Key where
 is:=ix
 hash:=Io w
 inj:=λv a b ha hb=>by
  rcases aK ha with ⟨i,t,rfl,rfl⟩ | ⟨x,t,rfl,rfl⟩
  ·rcases aK hb with ⟨j,u,rfl,e⟩ | ⟨y,u,rfl,e⟩
   ·injection e with e1 _;rw [e1]
   ·exact nomatch e
  ·rcases aK hb with ⟨j,u,rfl,e⟩ | ⟨y,u,rfl,e⟩
   ·exact nomatch e
   ·injection e with e1 _;rw [e1]
 byValue:=λk v h=>by
  rcases aK h with ⟨i,t,rfl,rfl⟩ | ⟨x,t,rfl,rfl⟩ <;> rfl
 pyHash:=λhv h=>by
  rcases aK hv with ⟨i,t,rfl,rfl⟩ | ⟨x,t,rfl,rfl⟩
  ·exact wpAny_pyHash_int h
  ·exact wpAny_pyHash_str h
 eqBool:=λhu hv h=>by
  rcases aK hu with ⟨i,t,rfl,rfl⟩ | ⟨x,t,rfl,rfl⟩
  ·rcases aK hv with ⟨j,u,rfl,rfl⟩ | ⟨y,u,rfl,rfl⟩
   ·rw [AK] at h;exact wpAny_eqBool_int h
   ·rw [AM] at h;exact SeqAt.EqAt.int_str i t y u _ _ _ _ h
  ·rcases aK hv with ⟨j,u,rfl,rfl⟩ | ⟨y,u,rfl,rfl⟩
   ·rw [AN] at h;exact SeqAt.EqAt.str_int x t j u _ _ _ _ h
   ·rw [AL] at h;exact wpAny_eqBool_str h
 «strs»:=λk x t v h=>by
  rcases aK h with ⟨i,u,rfl,e⟩ | ⟨y,u,rfl,e⟩
  ·exact nomatch e
  ·injection e with e1 _
   subst e1
   cases v <;> rfl
theorem mG (prog:Program) (w:World) (i:Int) (t:Tok):(ag prog w).is (.inl i) (.int i t)=true:=rq i t
theorem mH (prog:Program) (w:World) (x:Str) (t:Tok):(ag prog w).is (.inr x) (.str x t)=true:=rA x t
inductive V where
 | non | bl (b:Bool) | int (i:Int) | str (x:Str) | byt (b:Array UInt8) | flt (b:UInt64) | ref (a:Addr) | ty (n:String)
 deriving DecidableEq
def RelV:V->Value->Prop
 | .non,u=>u=Value.none
 | .bl b,u=>u=Value.bool b
 | .int i,u=>∃ t,u=Value.int i t
 | .str x,u=>∃ t,u=Value.str x t
 | .byt b,u=>∃ t,u=Value.bytes b t
 | .flt b,u=>∃ t,u=Value.float b t
 | .ref a,u=>u=Value.ref a
 | .ty n,u=>u=Value.type n
abbrev Vals:List V->List Value->Prop:=Paired RelV
theorem Vals.length {xs:List V} {us:List Value} (r:Vals xs us):xs.length=us.length:=Paired.length r
theorem Vals.get:∀ {xs:List V} {us:List Value} {i:Nat} {x:V},Vals xs us->xs[i]?=some x->∃ u,us[i]?=some u/\RelV x u
 | _,_,_,_,.nil,e=>by simp at e
 | _,_,0,_,.cons r _,e=>by simp at e;subst e;exact ⟨_,rfl,r⟩
 | _,_,i+1,x,.cons _ t,e=>by
  obtain ⟨u,h1,h2⟩:=Vals.get (i:=i) (x:=x) t (by simpa using e);exact ⟨u,by simpa using h1,h2⟩
theorem Vals.set {x:V} {u:Value} (r:RelV x u):∀ {xs:List V} {us:List Value} (i:Nat),Vals xs us->Vals (xs.set i x) (us.set i u)
 | _,_,_,.nil=>.nil
 | _,_,0,.cons _ t=>.cons r t
 | _,_,i+1,.cons q t=>.cons q (Vals.set r i t)
theorem Vals.append:∀ {xs ys:List V} {us ws:List Value},Vals xs us->Vals ys ws->Vals (xs++ys) (us++ws)
 | _,_,_,_,.nil,s=>s
 | _,_,_,_,.cons r t,s=>.cons r (Vals.append t s)
theorem Vals.take:∀ {xs:List V} {us:List Value} (n:Nat),Vals xs us->Vals (xs.take n) (us.take n)
 | _,_,0,_=>.nil
 | _,_,_+1,.nil=>.nil
 | _,_,n+1,.cons r t=>.cons r (Vals.take n t)
theorem Vals.drop:∀ {xs:List V} {us:List Value} (n:Nat),Vals xs us->Vals (xs.drop n) (us.drop n)
 | _,_,0,r=>r
 | _,_,_+1,.nil=>.nil
 | _,_,n+1,.cons _ t=>Vals.drop n t
def RelO:Option V->Option Value->Prop
 | some v,some u=>RelV v u
 | none,none=>True
 | _,_=>False
def KV {κ:Type}:List (κ×V)->List (κ×Value)->Prop:=Paired λ(p:κ×V) (q:κ×Value)=>p.1=q.1/\RelV p.2 q.2
def kV:Key->V
 | .inl i=>.int i
 | .inr x=>.str x
inductive HO where
 | lst (xs:List V)
 | tup (xs:List V)
 | dK (kvs:List (Key×V)) | dT (kvs:List (List Key×V))
 | set (S:Int->Bool) (n:Nat)
 | ins (C dx:Addr) (fs:List (Str×V))
 | own (x:Addr)
 | xd (fs:List (Str×V))
 | met (f x:Addr)
 | rng (lo hi:Int)
 | frz (o:Obj) (u:HO)
 | tbl (ps:Array Value)
 | ext (φ:Heap->Prop)
abbrev Hp:=Addr->Option HO
def upd (H:Hp) (a:Addr) (o:HO):Hp:=λb=>if b=a then some o else H b
theorem ac {H:Hp} {a:Addr} {o:HO}:upd H a o a=some o:=by unfold upd;rw [if_pos rfl]
theorem ah {H:Hp} {a b:Addr} {o:HO} (h:b≠a):upd H a o b=H b:=by unfold upd;rw [if_neg h]
theorem vT {H:Hp} {a:Addr} {o u:HO}:upd (upd H a o) a u=upd H a u:=by
 funext b;unfold upd;split <;> rfl
theorem eD {H:Hp} {a b:Addr} {o u:HO} (h:H a=some o) (h':H b=some u) (d:o≠u):a≠b:=by
 intro e;subst e;rw [h] at h';exact d (Option.some.inj h')
theorem aw {H:Hp} {a b:Addr} {o:HO} (h:H a=some o) (h':H b=none):a≠b:=by
 intro e;subst e;rw [h] at h';cases h'
section
variable (P:Program) (w:World)
def ObjOk (H:Hp) (h:Heap) (a:Addr):HO->Prop
 | .lst xs=>xs.length<=sizeLine/\∃ (its:List Value) (n:Nat),Vals xs its/\h.get? a=some { cls:=.type "list",data:=.seq its.toArray n }
 | .tup xs=>xs.length<=sizeLine/\∃ its:List Value,Vals xs its/\IsTup h a its.toArray
 | .dK kvs=>kvs.length<=sizeLine/\(a == sysModules)=false/\∃ vs,KV kvs vs/\h.DictOf (ag P w) a vs
 | .dT kvs=>kvs.length<=sizeLine/\(a == sysModules)=false/\∃ xs:List (List Key×Addr×Value),
   Paired (λ(p:List Key×V) (q:List Key×Addr×Value)=>p.1=q.1/\H q.2.1=some (.tup (p.1.map kV))/\RelV p.2 q.2.2) kvs xs /\
   ∃ o es ep,h.get? a=some o/\o.ExactDict/\o.data=.dict es ep/\es.toList=xs.map (entryOfKey (tupleKind (ag P w)))/\(xs.map (·.1)).Nodup
 | .set S n=>h.SetOf (intKind P w) a S n
 | .ins C dx fs=>H dx=some (.own a)/\fs.length<=1000/\dx≠a/\h.get? a=some (W.instObj C dx) /\
   ∃ mA,h.Ns1 dx mA/\(∀ f,RelO (fs.lookup f) (mA f))/\PySem.Within mA (fs.map (·.1))
 | .own _=>∃ o,h.get? a=some o
 | .xd fs=>∃ mA,h.Ns1 a mA/\∀ f,RelO (fs.lookup f) (mA f)
 | .rng lo hi=>∃ t u v,h.get? a=some { cls:=.type "range",data:=.fields #[.int lo t,.int hi u,.int 1 v] }
 | .frz o u=>h.get? a=some o/\ObjOk H h a u
 | .tbl ps=>h.get? a=some { cls:=.none,data:=.fields ps }
 | .met f x=>h.get? a=some (W.methodObj (.ref f) (.ref x))
 | .ext φ=>φ h/\(∃ o,h.get? a=some o)/\∀ h1 h2:Heap,φ h1->(∀ o,h1.get? a=some o->h2.get? a=some o)->φ h2
def HOk (H:Hp) (h:Heap):Prop:=∀ a o,H a=some o->ObjOk P w H h a o
end
section
variable {P:Program} {w:World} {H H':Hp} {h h':Heap} {a:Addr} {o:HO}
theorem ObjOk.lt (x:ObjOk P w H h a o):a < h.objs.size:=by
 cases o with
 | lst xs=>obtain ⟨_,_,_,_,e⟩:=x;exact aAd e
 | tup xs=>obtain ⟨_,_,_,p⟩:=x;exact p.lt
 | dK kvs=>obtain ⟨_,_,_,_,o,_,_,e,_⟩:=x;exact aAd e
 | dT kvs=>obtain ⟨_,_,_,_,o,_,_,e,_⟩:=x;exact aAd e
 | set S n=>obtain ⟨o,_,_,_,e,_⟩:=x;exact aAd e
 | ins C dx fs=>obtain ⟨_,_,_,e,_⟩:=x;exact aAd e
 | own y=>obtain ⟨_,e⟩:=x;exact aAd e
 | xd fs=>obtain ⟨_,⟨_,_,_,e,_⟩,_⟩:=x;exact aAd e
 | rng lo hi=>obtain ⟨_,_,_,e⟩:=x;exact aAd e
 | frz ob u=>obtain ⟨e,_⟩:=x;exact aAd e
 | tbl ps=>exact aAd (show h.get? a=some _ from x)
 | met f y=>exact aAd (show h.get? a=some _ from x)
 | ext φ=>obtain ⟨_,⟨_,e⟩,_⟩:=x;exact aAd e
theorem Paired.mapP {α β:Type} {F G:α->β->Prop}:∀ {l₁:List α} {l₂:List β},Paired F l₁ l₂->(∀ a b,F a b->G a b)->Paired G l₁ l₂
 | _,_,.nil,_=>.nil
 | _,_,.cons r t,f=>.cons (f _ _ r) (Paired.mapP t f)
theorem ObjOk.stay (x:ObjOk P w H h a o) (k:∀ b u,(b=a\/H b=some (.own a))->h.get? b=some u->h'.get? b=some u)
  (ho:∀ b,H b=some (.own a)->H' b=some (.own a)) (ht:∀ b xs,H b=some (.tup xs)->H' b=some (.tup xs)):ObjOk P w H' h' a o:=by
 induction o with
 | lst xs=>obtain ⟨z,its,n,r,e⟩:=x;exact ⟨z,its,n,r,k _ _ (.inl rfl) e⟩
 | tup xs=>obtain ⟨z,its,r,ob,e,c⟩:=x;exact ⟨z,its,r,ob,k _ _ (.inl rfl) e,c⟩
 | dK kvs=>obtain ⟨z,y,vs,r,ob,es,ep,e,c⟩:=x;exact ⟨z,y,vs,r,ob,es,ep,k _ _ (.inl rfl) e,c⟩
 | dT kvs =>
  obtain ⟨z,y,xs,r,ob,es,ep,e,c⟩:=x;exact ⟨z,y,xs,Paired.mapP r λp q z=>⟨z.1,ht _ _ z.2.1,z.2.2⟩,ob,es,ep,k _ _ (.inl rfl) e,c⟩
 | set S n=>obtain ⟨ob,es,ep,t,e,c⟩:=x;exact ⟨ob,es,ep,t,k _ _ (.inl rfl) e,c⟩
 | ins C dx fs =>
  obtain ⟨d,z,ne,e,mA,⟨od,es,ep,e2,c⟩,r⟩:=x;exact ⟨ho _ d,z,ne,k _ _ (.inl rfl) e,mA,⟨od,es,ep,k _ _ (.inr d) e2,c⟩,r⟩
 | own y=>obtain ⟨ob,e⟩:=x;exact ⟨ob,k _ _ (.inl rfl) e⟩
 | xd fs=>obtain ⟨mA,⟨od,es,ep,e,c⟩,r⟩:=x;exact ⟨mA,⟨od,es,ep,k _ _ (.inl rfl) e,c⟩,r⟩
 | rng lo hi=>obtain ⟨t,u,v,e⟩:=x;exact ⟨t,u,v,k _ _ (.inl rfl) e⟩
 | frz ob u ih=>obtain ⟨e,q⟩:=x;exact ⟨k _ _ (.inl rfl) e,ih q⟩
 | tbl ps =>
  have e:h.get? a=some { cls:=.none,data:=.fields ps }:=x;show h'.get? a=some { cls:=.none,data:=.fields ps };exact k a _ (.inl rfl) e
 | met f y =>
  have e:h.get? a=some (W.methodObj (.ref f) (.ref y)):=x;show h'.get? a=some (W.methodObj (.ref f) (.ref y));exact k a _ (.inl rfl) e
 | ext φ=>obtain ⟨p,⟨o,e⟩,st⟩:=x;exact ⟨st _ _ p λo q=>k _ _ (.inl rfl) q,⟨o,k _ _ (.inl rfl) e⟩,st⟩
theorem HOk.lt (x:HOk P w H h) (e:H a=some o):a < h.objs.size:=(x a o e).lt
theorem HOk.fresh (x:HOk P w H h) (e:h.objs.size<=a):H a=none:=by
 cases q:H a with
 | none=>rfl
 | some u=>exact absurd (aAi (x.lt q) e) (aAE _)
theorem HOk.kept (x:HOk P w H h) (k:∀ b u,h.get? b=some u->h'.get? b=some u):HOk P w H h':=λa o e =>
 (x a o e).stay (λb u _ q=>k b u q) (λ_ q=>q) λ_ _ q=>q
theorem HOk.laid (x:HOk P w H h) (k:∀ b u,h.get? b=some u->h'.get? b=some u) (hp:h.objs.size<=a) (new:ObjOk P w (upd H a o) h' a o):HOk P w (upd H a o) h':=λb u e=>by
 have hn:=x.fresh hp
 by_cases hb:b=a
 ·subst hb;rw [ac] at e;cases e;exact new
 ·rw [ah hb] at e;exact (x b u e).stay (λc v _ q=>k c v q) (λc q=>by rw [ah (aw q hn)];exact q) λc xs q=>by rw [ah (aw q hn)];exact q
end
def Rd (H:Hp) (a:Addr) (u:HO):Prop:=H a=some u\/∃ o,H a=some (.frz o u)
theorem Rd.ok {P:Program} {w:World} {H:Hp} {h:Heap} {a:Addr} {u:HO} (r:Rd H a u) (x:HOk P w H h):ObjOk P w H h a u:=by
 rcases r with r | ⟨o,r⟩
 ·exact x a u r
 ·obtain ⟨_,q⟩:=x a _ r;exact q
def Mut:Option HO->Prop
 | some (.lst _)=>True
 | some (.dK _)=>True
 | some (.dT _)=>True
 | some (.set _ _)=>True
 | some (.ins _ _ _)=>True
 | some (.ext _)=>True
 | _=>False
section
variable {P:Program} {w:World} {H:Hp} {h h':Heap} {x e:Addr} {o':HO}
theorem HOk.write (ok:HOk P w H h) (mu:Mut (H x)) (he:e=x\/H e=some (.own x)) (k:∀ b u,b≠e->h.get? b=some u->h'.get? b=some u) (heo:∃ u,h'.get? e=some u)
  (new:ObjOk P w (upd H x o') h' x o'):HOk P w (upd H x o') h':=λb u q=>by
 have nown:∀ c y,H c=some (.own y)->c≠x:=λc y r z=>by subst z;rw [r] at mu;exact mu
 have ntup:∀ c xs,H c=some (.tup xs)->c≠x:=λc xs r z=>by subst z;rw [r] at mu;exact mu
 by_cases hb:b=x
 ·subst hb;rw [ac] at q;cases q;exact new
 ·rw [ah hb] at q
  by_cases hbe:b=e
  ·have q':H b=some (.own x):=by
    rcases he with z | z
    ·exact absurd (hbe.trans z) hb
    ·rw [hbe];exact z
   rw [q] at q';cases q';obtain ⟨v,hv⟩:=heo;exact ⟨v,by rw [hbe];exact hv⟩
  ·refine (ok b u q).stay (λc v hc r=>k c v ?_ r) (λc r=>by rw [ah (nown c b r)];exact r) λc xs r=>by rw [ah (ntup c xs r)];exact r
   rcases hc with rfl | hc
   ·exact hbe
   ·rintro rfl;rcases he with z | z
    ·exact nown c b hc z
    ·rw [hc] at z;cases z;exact hb rfl
end
structure Un (fs ex:List Addr) (H H':Hp) (h h':Heap):Prop where
 keep:∀ b o,h.get? b=some o->H b=none->b∉fs->b∉ex->h'.get? b=some o
 slot:∀ b o,h.get? b=some o->H b=none->b∈fs->b∉ex->∃ sl,h'.get? b=some { o with slots:=sl }
 free:∀ b o,h.get? b=some o->H b=none->b∉ex->H' b=none
 there:∀ b o,h.get? b=some o->b∉ex->∃ o',h'.get? b=some o'
 tups:∀ b xs,H b=some (.tup xs)->H' b=some (.tup xs)
 frzs:∀ b o u,H b=some (.frz o u)->H' b=some (.frz o u)
 tbls:∀ b ps,H b=some (.tbl ps)->∃ more,H' b=some (.tbl (ps++more))
section
variable {fs fs' ex ex':List Addr} {H H1 H2:Hp} {h h1 h2 h':Heap} {a x e:Addr} {o:HO}
theorem Un.any (u:Un fs ex H H1 h h1) {b:Addr} {ob:Obj} (q:h.get? b=some ob) (n:H b=none) (hx:b∉ex):∃ sl,h1.get? b=some { ob with slots:=sl }:=by
 by_cases hb:b∈fs
 ·exact u.slot b ob q n hb hx
 ·exact ⟨ob.slots,u.keep b ob q n hb hx⟩
theorem Un.trans (a:Un fs ex H H1 h h1) (b:Un fs ex H1 H2 h1 h2):Un fs ex H H2 h h2 where
 keep:=λc ob q n hc hx=>b.keep c ob (a.keep c ob q n hc hx) (a.free c ob q n hx) hc hx
 slot:=λc ob q n hc hx=>by
  obtain ⟨sl,e1⟩:=a.slot c ob q n hc hx;obtain ⟨sl',e2⟩:=b.slot c _ e1 (a.free c ob q n hx) hc hx;exact ⟨sl',e2⟩
 free:=λc ob q n hx=>by
  obtain ⟨o',e1⟩:=a.there c ob q hx;exact b.free c o' e1 (a.free c ob q n hx) hx
 there:=λc ob q hx=>by
  obtain ⟨o',e1⟩:=a.there c ob q hx;exact b.there c o' e1 hx
 tups:=λc xs q=>b.tups c xs (a.tups c xs q)
 frzs:=λc ob xs q=>b.frzs c ob xs (a.frzs c ob xs q)
 tbls:=λc ps q=>by
  obtain ⟨m1,e1⟩:=a.tbls c ps q;obtain ⟨m2,e2⟩:=b.tbls c _ e1;exact ⟨m1++m2,by rw [e2,aBA]⟩
theorem Un.kept (k:∀ b u,h.get? b=some u->h'.get? b=some u):Un fs ex H H h h' :=
 ⟨λb ob q _ _ _=>k b ob q,λb ob q _ _ _=>⟨ob.slots,k b ob q⟩,λ_ _ _ n _=>n,λb ob q _=>⟨ob,k b ob q⟩,λ_ _ q=>q,λ_ _ _ q=>q,λ_ ps q=>⟨#[],by rw [q];simp⟩⟩
theorem Un.refl:Un fs ex H H h h:=Un.kept λ_ _ q=>q
theorem Un.laid (k:∀ b u,h.get? b=some u->h'.get? b=some u) (hp:h.objs.size<=a) (hn:H a=none):Un fs ex H (upd H a o) h h' where
 keep:=λb u q _ _ _=>k b u q
 slot:=λb u q _ _ _=>⟨u.slots,k b u q⟩
 free:=λb u q n _=>by rw [ah (aAl (aAi (aAd q) hp))];exact n
 there:=λb u q _=>⟨u,k b u q⟩
 tups:=λb xs q=>by rw [ah (aw q hn)];exact q
 frzs:=λb u xs q=>by rw [ah (aw q hn)];exact q
 tbls:=λb ps q=>⟨#[],by rw [ah (aw q hn),q];simp⟩
theorem Un.write (mu:Mut (H x)) (he:e=x\/H e=some (.own x)) (k:∀ b u,b≠e->h.get? b=some u->h'.get? b=some u) (heo:∃ u,h'.get? e=some u):Un fs ex H (upd H x o) h h':=by
 have hx:∀ b,H b=none->b≠x:=λb n z=>by subst z;rw [n] at mu;exact mu
 have hb:∀ b,H b=none->b≠e:=λb n z=>by
  subst z;rcases he with r | r
  ·exact hx b n r
  ·rw [n] at r;cases r
 have hm:∀ b u,H b=some u->¬ Mut (some u)->b≠x:=λb u q nm z=>by subst z;rw [q] at mu;exact nm mu
 refine ⟨λb u q n _ _=>k b u (hb b n) q,λb u q n _ _=>⟨u.slots,k b u (hb b n) q⟩,λb u q n _=>by rw [ah (hx b n)];exact n,λb u q _=>?_,
  λb xs q=>by rw [ah (hm b _ q λz=>z)];exact q,λb u xs q=>by rw [ah (hm b _ q λz=>z)];exact q,λb ps q=>⟨#[],by rw [ah (hm b _ q λz=>z),q];simp⟩⟩
 by_cases hbe:b=e
 ·subst hbe;exact heo
 ·exact ⟨u,k b u hbe q⟩
end
def trk (h:Heap) (H:Hp):List Addr:=(List.range h.objs.size).filter λa=>(H a).isSome
def kS (h:Heap) (H:Hp):Heap:=W.hideAll h (trk h H)
theorem rB (h:Heap) (H:Hp):(kS h H).objs.size=h.objs.size:=W.hideAll_size _ _
theorem tz {h:Heap} {H:Hp} {b:Addr} {o:Obj} (e:h.get? b=some o) (n:H b=none):(kS h H).get? b=some o :=
 W.hideAll_get _ e λhm=>by
  have q:(H b).isSome=true:=(aBM.mp hm).2;rw [n] at q;simp at q
theorem vU {h:Heap} {H:Hp} {b:Addr} {o:Obj} (e:(kS h H).get? b=some o):h.get? b=some o/\H b=none:=by
 have e':h.get? b=some o:=W.of_hideAll (trk h H) e;refine ⟨e',?_⟩
 cases q:H b with
 | none=>rfl
 | some x =>
  have hm:b∈trk h H:=aBM.mpr ⟨aBR.mpr (aAd e'),by simp [q]⟩;have z:(kS h H).get? b=none:=W.hideAll_none (trk h H) hm;rw [z] at e;cases e
def vV (g h:Heap) (L:Addr):List (Addr×Obj):=(List.range h.objs.size).filterMap λa=>if a=L\/(g.get? a).isSome=true then none else (h.get? a).map λo=>(a,o)
def rest (g h:Heap) (L d:Addr):List (Addr×Obj):=(vV g h L).filter λp=>decide (p.1≠d)
structure Mod (K:W.Frag) (mg:Str->Option Value) (base:Heap):Prop where
 kin:K.In base
 glob:base.Ns mainGlobals mg
 blt:∃ mb,base.Ns builtinsNs mb/\∀ x:Str,x≠ "__name__" ->mb x=bootBuiltins x
 nolimit:base.NoLimit
structure Cx where
 prog:Program
 w:World
 K:W.Frag
 mg:Str->Option Value
 base:Heap
 A:Around
 N:List Str
 s₀:Shared
 H₀:Hp
 env:Env
 outer:List Env
 stack:List Env
 ex:List Addr
 fn:Str->Bool
 calm:Bool
 pn:List (Addr×Obj)
 xe:Value->Shared->Prop
def frs (l:List Env):List Addr:=l.filterMap (·.frame)
abbrev Cx.fs (X:Cx):List Addr:=frs X.outer
def Vis (sc:Scope) (x:Str):Prop:=sc.names.lookup x=some .local\/sc.names.lookup x=some .cell\/sc.names.lookup x=some .free
def Loc (sc:Scope) (x:Str):Prop:=sc.names.lookup x=some .local\/sc.names.lookup x=some .cell
def Ip (env:Env) (h:Heap) (m:Str->Option Value) (x:Str) (u:Value):Prop :=
 (env.kindOf x=some .local/\m x=some u)\/((env.kindOf x=some .cell\/env.kindOf x=some .free)/\∃ c,env.cells.lookup x=some c/\h.IsCell c (some u))
structure Cx.Ok (X:Cx):Prop where
 mod:Mod X.K X.mg X.base
 kind:X.env.scope.kind=.function
 glob:X.env.globals=mainGlobals
 blt:X.env.builtins=builtinsNs
 above:X.s₀.heap.objs.size<=X.env.locals
 inj:∀ x y c,X.env.cells.lookup x=some c->X.env.cells.lookup y=some c->x=y
 has:∀ x,(X.env.kindOf x=some .cell\/X.env.kindOf x=some .free)->∃ c,X.env.cells.lookup x=some c
 cab:∀ x c,X.fn x=true->X.env.cells.lookup x=some c->X.s₀.heap.objs.size<=c
 hd:X.calm=true->X.A.handled=none
 frames:X.A.frames=some X.stack
 stk:X.stack=X.outer\/(X.stack=X.env :: X.outer/\X.env.frame=some X.env.locals)
 exf:∀ b∈X.ex,b≠X.env.locals/\∀ x c,X.env.cells.lookup x=some c->c≠b
 bs:∀ b o,X.base.get? b=some o->X.s₀.heap.get? b=some o/\X.H₀ b=none
 bsz:X.base.objs.size<=X.s₀.heap.objs.size
 noex:∀ b o,X.base.get? b=some o->b∉X.ex
 exfs:∀ b∈X.ex,b∉X.fs
 funs:X.s₀.heap.FunFrames X.base X.outer
 frf:∀ b∈X.fs,X.H₀ b=none
structure Inv (X:Cx) (pins:List (Addr×Obj)) (σ:List (Option V)) (H:Hp) (s:Shared):Prop where
 ok:X.Ok
 os:s.os=X.s₀.os
 bare:AllBare s.gens
 base:Un X.fs X.ex X.H₀ H X.s₀.heap s.heap
 loc:∃ m,s.heap.Ns X.env.locals m/\∀ (i:Nat) (x:Str) (v:V),X.N[i]?=some x->σ[i]?=some (some v)->Vis X.env.scope x->∃ u,RelV v u/\Ip X.env s.heap m x u
 cell:∀ x c,X.env.cells.lookup x=some c->∃ v,s.heap.IsCell c v
 free:H X.env.locals=none
 freeC:∀ x c,X.env.cells.lookup x=some c->H c=none
 pin:∀ p∈X.pn++pins,s.heap.get? p.1=some p.2/\H p.1=none/\p.1≠X.env.locals/\p.1∉X.fs/\∀ v,p.2.data≠.cell v
 hok:HOk X.prog X.w H s.heap
 len:σ.length=X.N.length
section
variable {X:Cx} {pins:List (Addr×Obj)} {σ:List (Option V)} {H H':Hp} {s:Shared} {h':Heap}
theorem Cx.Ok.nofr (ok:X.Ok) {b:Addr} {o:Obj} (e:X.base.get? b=some o):b∉X.fs:=λhb=>by
 have:=(ok.funs.mem hb).1;rw [e] at this;cases this
theorem Inv.bs (I:Inv X pins σ H s):∀ b o,X.base.get? b=some o->s.heap.get? b=some o/\H b=none:=λb o e =>
 ⟨I.base.keep b o (I.ok.bs b o e).1 (I.ok.bs b o e).2 (I.ok.nofr e) (I.ok.noex b o e),I.base.free b o (I.ok.bs b o e).1 (I.ok.bs b o e).2 (I.ok.noex b o e)⟩
theorem Inv.bk (I:Inv X pins σ H s):∀ b o,X.base.get? b=some o->s.heap.get? b=some o:=λb o e=>(I.bs b o e).1
theorem Inv.mod (I:Inv X pins σ H s):Mod X.K X.mg X.base:=I.ok.mod
theorem Inv.kIn (I:Inv X pins σ H s):X.K.In s.heap:=I.ok.mod.kin.keeps I.bk
theorem Inv.lt (I:Inv X pins σ H s):X.env.locals < s.heap.objs.size:=let ⟨_,hn,_⟩:=I.loc;hn.lt
theorem Inv.sz (I:Inv X pins σ H s):X.s₀.heap.objs.size<=s.heap.objs.size:=aAx I.ok.above (aAL I.lt)
theorem Inv.nofs (I:Inv X pins σ H s) {a:Addr} (h:s.heap.objs.size<=a):a∉X.fs:=λhb=>by
 obtain ⟨_,o,ho,_⟩:=I.ok.funs.mem hb;exact absurd (aAi (aAd ho) (aAx I.sz h)) (aAE _)
theorem Inv.cne (I:Inv X pins σ H s):∀ x c,X.env.cells.lookup x=some c->c≠X.env.locals:=λx c e z=>by
 obtain ⟨v,o,ho,hd⟩:=I.cell x c e;obtain ⟨m,⟨o',es,ep,ho',hd',_⟩,_⟩:=I.loc;rw [z,ho'] at ho;cases ho;rw [hd'] at hd;cases hd
theorem Inv.funs (I:Inv X pins σ H s):s.heap.FunFrames X.base X.outer:=by
 have all:∀ (l:List Env),(∀ b∈frs l,b∈X.fs)->X.s₀.heap.FunFrames X.base l->s.heap.FunFrames X.base l:=by
  intro l
  induction l with
  | nil=>intro _ _;trivial
  | cons env r ih =>
   intro hs hl;obtain ⟨hk,⟨L,o,hf,hn,ho,hd⟩,hr⟩:=hl;have hL:L∈X.fs:=hs L (by unfold frs;rw [aBx,hf];exact aAh);obtain ⟨sl,e⟩:=I.base.slot L o ho (I.ok.frf L hL) hL λz=>I.ok.exfs L z hL;exact ⟨hk,⟨L,_,hf,hn,e,hd⟩,ih (λb hb=>hs b (by unfold frs;rw [aBx,hf];exact aAj _ hb)) hr⟩
 exact all X.outer (λ_ hb=>hb) I.ok.funs
theorem Inv.stack (I:Inv X pins σ H s):s.heap.FunFrames X.base X.stack:=by
 rcases I.ok.stk with e | ⟨e,hf⟩
 ·rw [e];exact I.funs
 ·rw [e];obtain ⟨m,hn,_⟩:=I.loc;refine .cons (by rw [I.ok.kind];decide) hf hn ?_ I.funs;exact Heap.get?_none_of_le (aAx I.ok.bsz I.ok.above)
theorem Inv.stkSub (I:Inv X pins σ H s):∀ b∈frs X.stack,b∈X.env.locals :: X.fs:=λb hb=>by
 rcases I.ok.stk with e | ⟨e,hf⟩
 ·rw [e] at hb;exact aAj _ hb
 ·rw [e] at hb;unfold frs at hb;rw [aBx,hf] at hb;exact hb
theorem Inv.stkFree (I:Inv X pins σ H s):∀ b∈frs X.stack,H b=none:=λb hb=>by
 rcases aAb.mp (I.stkSub b hb) with e | hb
 ·rw [e];exact I.free
 ·obtain ⟨_,o,ho,_⟩:=I.ok.funs.mem hb;exact I.base.free b o ho (I.ok.frf b hb) λz=>I.ok.exfs b z hb
theorem Inv.step {g':Array GenState} {t':Nat} {d':Drawn} {ch:List Addr} (I:Inv X pins σ H s)
  (hch:∀ b∈ch,(b∈X.ex\/X.s₀.heap.objs.size<=b)/\b≠X.env.locals/\(∀ x c,X.env.cells.lookup x=some c->c≠b)/\∀ p∈X.pn++pins,p.1≠b)
  (keep:∀ b o,b≠X.env.locals->b∉X.fs->b∉ch->s.heap.get? b=some o->H b=none->h'.get? b=some o)
  (slot:∀ b o,b≠X.env.locals->b∈X.fs->b∉ch->s.heap.get? b=some o->H b=none->∃ sl,h'.get? b=some { o with slots:=sl }) (free:∀ b o,b∉ch->s.heap.get? b=some o->H b=none->H' b=none)
  (there:∀ b o,b∉ch->s.heap.get? b=some o->∃ o',h'.get? b=some o')
  (tups:∀ b xs,H b=some (.tup xs)->H' b=some (.tup xs)) (frzs:∀ b o u,H b=some (.frz o u)->H' b=some (.frz o u)) (tbls:∀ b ps,H b=some (.tbl ps)->∃ more,H' b=some (.tbl (ps++more)))
  (ns:∀ m,s.heap.Ns X.env.locals m->h'.Ns X.env.locals m) (hok:HOk X.prog X.w H' h') (hg:AllBare g') :
  Inv X pins σ H' { s with heap:=h',gens:=g',drawn:=d',toks:=t' }:=by
 have neL:∀ b o,X.s₀.heap.get? b=some o->b≠X.env.locals:=λb o e=>aAl (aAi (aAd e) I.ok.above);have neC:∀ b o,X.s₀.heap.get? b=some o->b∉X.ex->b∉ch:=λb o e hx hb=>by
  rcases (hch b hb).1 with z | z
  ·exact hx z
  ·exact absurd (aAi (aAd e) z) (aAE _)
 have cellK:∀ x c,X.env.cells.lookup x=some c->∀ v,s.heap.IsCell c v->h'.IsCell c v:=λx c e v ⟨o,ho,hd⟩=>by
  have nch:c∉ch:=λz=>(hch c z).2.2.1 x c e rfl
  by_cases hc:c∈X.fs
  ·obtain ⟨sl,q⟩:=slot c o (I.cne x c e) hc nch ho (I.freeC x c e);exact ⟨_,q,hd⟩
  ·exact ⟨o,keep c o (I.cne x c e) hc nch ho (I.freeC x c e),hd⟩
 refine ⟨I.ok,I.os,hg,⟨λb o e n hb hx=>?_,λb o e n hb hx=>?_,λb o e n hx=>?_,λb o e hx=>?_,λb xs e=>tups b xs (I.base.tups b xs e),λb o xs e=>frzs b o xs (I.base.frzs b o xs e),λb ps e=>?_⟩,?_,λx c e=>?_,?_,λx c e=>?_,λp hp=>?_,hok,I.len⟩
 ·exact keep b o (neL b o e) hb (neC b o e hx) (I.base.keep b o e n hb hx) (I.base.free b o e n hx)
 ·obtain ⟨sl,e1⟩:=I.base.slot b o e n hb hx;obtain ⟨sl',e2⟩:=slot b _ (neL b o e) hb (neC b o e hx) e1 (I.base.free b o e n hx);exact ⟨sl',e2⟩
 ·obtain ⟨o',e1⟩:=I.base.there b o e hx;exact free b o' (neC b o e hx) e1 (I.base.free b o e n hx)
 ·obtain ⟨o',e1⟩:=I.base.there b o e hx;exact there b o' (neC b o e hx) e1
 ·obtain ⟨m1,e1⟩:=I.base.tbls b ps e;obtain ⟨m2,e2⟩:=tbls b _ e1;exact ⟨m1++m2,by rw [e2,aBA]⟩
 ·obtain ⟨m,hn,hl⟩:=I.loc;refine ⟨m,ns m hn,λi x v e1 e2 e3=>?_⟩;obtain ⟨u,r,l⟩:=hl i x v e1 e2 e3;refine ⟨u,r,?_⟩;rcases l with l | ⟨k,c,e,z⟩
  ·exact .inl l
  ·exact .inr ⟨k,c,e,cellK x c e _ z⟩
 ·obtain ⟨v,z⟩:=I.cell x c e;exact ⟨v,cellK x c e v z⟩
 ·obtain ⟨m,⟨o,_,_,ho,_⟩,_⟩:=I.loc;exact free _ o (λz=>(hch _ z).2.1 rfl) ho I.free
 ·obtain ⟨v,o,ho,hd⟩:=I.cell x c e;exact free c o (λz=>(hch c z).2.2.1 x c e rfl) ho (I.freeC x c e)
 ·obtain ⟨e,n,ne,nf,d⟩:=I.pin p hp;have nch:p.1∉ch:=λz=>(hch p.1 z).2.2.2 p hp rfl;exact ⟨keep p.1 p.2 ne nf nch e n,free p.1 p.2 nch e n,ne,nf,d⟩
theorem Inv.un {t':Nat} (I:Inv X pins σ H s) (u:Un X.fs [] H H' s.heap h') (hok:HOk X.prog X.w H' h'):Inv X pins σ H' { s with heap:=h',toks:=t' }:=by
 obtain ⟨m,⟨o,es,ep,ho,r⟩,_⟩:=id I.loc;obtain ⟨sl,hL⟩:=u.any ho I.free (by simp);exact I.step (g':=s.gens) (d':=s.drawn) (ch:=[]) (λ_ z=>nomatch z) (λb o _ hb _ e n=>u.keep b o e n hb (by simp)) (λb o _ hb _ e n=>u.slot b o e n hb (by simp)) (λb o _ e n=>u.free b o e n (by simp)) (λb o _ e=>u.there b o e (by simp)) u.tups u.frzs u.tbls (λm' hm=>by
  obtain ⟨o',es',ep',ho',r'⟩:=hm;rw [ho] at ho';cases ho';exact ⟨_,es',ep',hL,r'⟩) hok I.bare
theorem Inv.call {g':Array GenState} {t':Nat} {d':Drawn} {ch:List Addr} (I:Inv X pins σ H s) (u:Un (frs X.stack) ch H H' s.heap h') (hok:HOk X.prog X.w H' h') (hg:AllBare g')
  (hch:∀ b∈ch,(b∈X.ex\/X.s₀.heap.objs.size<=b)/\b≠X.env.locals/\(∀ x c,X.env.cells.lookup x=some c->c≠b)/\∀ p∈X.pn++pins,p.1≠b) :
  Inv X pins σ H' { s with heap:=h',gens:=g',drawn:=d',toks:=t' }:=by
 obtain ⟨m,⟨o,es,ep,ho,r⟩,_⟩:=id I.loc;obtain ⟨sl,hL⟩:=u.any ho I.free λz=>(hch _ z).2.1 rfl;exact I.step (ch:=ch) hch (λb o hL hb hc e n=>u.keep b o e n (λz=>(aAb.mp (I.stkSub b z)).elim hL hb) hc) (λb o _ _ hc e n=>u.any e n hc) (λb o hc e n=>u.free b o e n hc) (λb o hc e=>u.there b o e hc) u.tups u.frzs u.tbls (λm' hm=>by
  obtain ⟨o',es',ep',ho',r'⟩:=hm;rw [ho] at ho';cases ho';exact ⟨_,es',ep',hL,r'⟩) hok hg
theorem Inv.turned {t':Nat} {it:Addr} (I:Inv X pins σ H s) (k:∀ b o,b≠it->s.heap.get? b=some o->h'.get? b=some o) (hn:H it=none) (hL:it≠X.env.locals)
  (h1:it∈X.ex\/X.s₀.heap.objs.size<=it) (h2:∀ x c,X.env.cells.lookup x=some c->c≠it) (h3:∀ p∈X.pn++pins,p.1≠it):Inv X pins σ H { s with heap:=h',toks:=t' }:=by
 have nit:∀ b u,H b=some u->b≠it:=λb u e z=>by rw [z,hn] at e;cases e
 refine I.step (g':=s.gens) (d':=s.drawn) (ch:=[it]) (λb hb=>?_) (λb o _ _ hc e _=>k b o (λz=>hc (by simp [z])) e) (λb o _ _ hc e _=>⟨o.slots,k b o (λz=>hc (by simp [z])) e⟩) (λ_ _ _ _ n=>n)
  (λb o hc e=>⟨o,k b o (λz=>hc (by simp [z])) e⟩) (λ_ _ e=>e) (λ_ _ _ e=>e) (λb ps e=>⟨#[],by rw [e];simp⟩) (λm hm=>?_) (λb u e=>?_) I.bare
 ·have e:b=it:=by simpa using hb
  subst e;exact ⟨h1,hL,h2,h3⟩
 ·obtain ⟨o,es,ep,ho,r⟩:=hm;exact ⟨o,es,ep,k _ o (Ne.symm hL) ho,r⟩
 ·refine (I.hok b u e).stay (λc v hc q=>k c v ?_ q) (λ_ q=>q) λ_ _ q=>q;rcases hc with z | z
  ·rw [z];exact nit b u e
  ·exact nit c _ z
theorem Inv.tok (I:Inv X pins σ H s) (t:Nat):Inv X pins σ H { s with toks:=t }:=I.un (h':=s.heap) (t':=t) Un.refl I.hok
theorem Inv.kept {t':Nat} (I:Inv X pins σ H s) (k:∀ b u,s.heap.get? b=some u->h'.get? b=some u):Inv X pins σ H { s with heap:=h',toks:=t' }:=I.un (Un.kept k) (I.hok.kept k)
theorem Inv.laid {a:Addr} {o:HO} {t':Nat} (I:Inv X pins σ H s) (k:∀ b u,s.heap.get? b=some u->h'.get? b=some u) (hp:s.heap.objs.size<=a) (new:ObjOk X.prog X.w (upd H a o) h' a o) :
  Inv X pins σ (upd H a o) { s with heap:=h',toks:=t' }:=I.un (Un.laid k hp (I.hok.fresh hp)) (I.hok.laid k hp new)
theorem Inv.write {x e:Addr} {o:HO} {t':Nat} (I:Inv X pins σ H s) (mu:Mut (H x)) (he:e=x\/H e=some (.own x)) (k:∀ b u,b≠e->s.heap.get? b=some u->h'.get? b=some u) (heo:∃ u,h'.get? e=some u)
  (new:ObjOk X.prog X.w (upd H x o) h' x o):Inv X pins σ (upd H x o) { s with heap:=h',toks:=t' }:=I.un (Un.write mu he k heo) (I.hok.write mu he k heo new)
theorem Inv.pins_of {pins':List (Addr×Obj)} (I:Inv X pins σ H s) (h:∀ p∈pins',s.heap.get? p.1=some p.2/\H p.1=none/\p.1≠X.env.locals/\p.1∉X.fs/\∀ v,p.2.data≠.cell v):Inv X pins' σ H s :=
 ⟨I.ok,I.os,I.bare,I.base,I.loc,I.cell,I.free,I.freeC,λp hp=>(aAI.mp hp).elim (λz=>I.pin p (List.mem_append_left _ z)) (h p),I.hok,I.len⟩
theorem iy {N:List Str} (hN:N.Nodup) {i j:Nat} {x:Str} (a:N[i]?=some x) (b:N[j]?=some x):i=j:=by
 obtain ⟨h1,e1⟩:=aAg.mp a;obtain ⟨h2,e2⟩:=aAg.mp b;exact (List.getElem_inj hN).mp (e1.trans e2.symm)
theorem kc {M:Model} {A:Around} {E:Value->Shared->Prop} {i:Nat} {x:Str} {v:V} {u:Value} {Q:Unit->Shared->Prop} (I:Inv X pins σ H s) (hN:X.N.Nodup) (hi:X.N[i]?=some x) (hx:Loc X.env.scope x) (r:RelV v u)
  (h:∀ s',Inv X pins (σ.set i (some v)) H s'->(∃ a,Heap.SameBut a s.heap s'.heap/\(a=X.env.locals\/X.env.cells.lookup x=some a))->Q () s') (hf:X.fn x=true\/X.env.scope.names.lookup x=some .local:=by first | exact .inl rfl | exact .inr rfl | assumption):wpAny M A (storeName X.env x u) Q E s:=by
 obtain ⟨m,hn,hl⟩:=id I.loc;have hcls:(X.env.scope.kind == .class || (X.env.scope.kind == .module && X.env.locals != X.env.globals))=false:=by rw [I.ok.kind];rfl
 have hiσ:i < σ.length:=by rw [I.len];exact (aAg.mp hi).1
 have cne:=I.cne;have tracked:∀ {a:Addr} {h':Heap},(∃ o,s.heap.get? a=some o/\H a=none)->Heap.SameBut a s.heap h'->HOk X.prog X.w H h':=λ{a h'} ha hs b ob e=>by
  obtain ⟨_,_,hfree⟩:=ha;refine (I.hok b ob e).stay (λc w' hc q=>(hs.2 c ?_).trans q) (λ_ q=>q) λ_ _ q=>q;rintro rfl;rcases hc with rfl | hc
  ·rw [hfree] at e;cases e
  ·rw [hfree] at hc;cases hc
 rcases hx with hk | hk
 ·refine wpAny_storeName_local hk hn (λh' hn' hs=>?_) hcls;obtain ⟨oL,_,_,hoL,_⟩:=id hn;refine h _ ⟨I.ok,I.os,I.bare,⟨λb o e n hb hx=>?_,λb o e n hb hx=>?_,I.base.free,λb o e hx=>?_,I.base.tups,I.base.frzs,I.base.tbls⟩,⟨_,hn',λj y v' e1 e2 e3=>?_⟩,λy c e=>?_,I.free,I.freeC,λp hp=>?_,tracked ⟨oL,hoL,I.free⟩ hs,by simpa using I.len⟩ ⟨_,hs,.inl rfl⟩
  ·exact (hs.2 b (aAl (aAi (aAd e) I.ok.above))).trans (I.base.keep b o e n hb hx)
  ·obtain ⟨sl,e1⟩:=I.base.slot b o e n hb hx;exact ⟨sl,(hs.2 b (aAl (aAi (aAd e) I.ok.above))).trans e1⟩
  ·obtain ⟨o',e1⟩:=I.base.there b o e hx;exact ⟨o',(hs.2 b (aAl (aAi (aAd e) I.ok.above))).trans e1⟩
  ·by_cases hj:j=i
   ·subst hj;rw [hi] at e1;cases e1;rw [aBl hiσ] at e2
    cases e2
    exact ⟨u,r,.inl ⟨hk,by simp⟩⟩
   ·rw [aBt (Ne.symm hj)] at e2;obtain ⟨u',r',q⟩:=hl j y v' e1 e2 e3;refine ⟨u',r',?_⟩;rcases q with ⟨k,e⟩ | ⟨k,c,e,z⟩
    ·refine .inl ⟨k,?_⟩;have:y≠x:=λe=>hj (iy hN e1 (e ▸ hi));simp [this,e]
    ·exact .inr ⟨k,c,e,z.sameBut hs (cne y c e)⟩
  ·obtain ⟨w',z⟩:=I.cell y c e;exact ⟨w',z.sameBut hs (cne y c e)⟩
  ·obtain ⟨e,n,ne,nf,d⟩:=I.pin p hp;exact ⟨(hs.2 p.1 ne).trans e,n,ne,nf,d⟩
 ·have hfn:X.fn x=true:=by
   rcases hf with z | z
   ·exact z
   ·rw [z] at hk;cases hk
  obtain ⟨c,hc⟩:=I.ok.has x (.inl hk);obtain ⟨w',z⟩:=I.cell x c hc;refine wpAny_storeName_cell I.ok.kind hk hc z (λh' hc' hs=>?_);obtain ⟨oc,hoc,hocd⟩:=id z;refine h { s with heap:=h' } ⟨I.ok,I.os,I.bare,⟨λb o e n hb hx=>?_,λb o e n hb hx=>?_,I.base.free,λb o e hx=>?_,I.base.tups,I.base.frzs,I.base.tbls⟩,⟨m,hn.sameBut hs (Ne.symm (cne x c hc)),λj y v' e1 e2 e3=>?_⟩,λy c' e=>?_,I.free,I.freeC,λp hp=>?_,tracked ⟨oc,hoc,I.freeC x c hc⟩ hs,by simpa using I.len⟩ ⟨c,hs,.inr hc⟩
  ·exact (hs.2 b (aAl (aAi (aAd e) (I.ok.cab x c hfn hc)))).trans (I.base.keep b o e n hb hx)
  ·obtain ⟨sl,e1⟩:=I.base.slot b o e n hb hx;exact ⟨sl,(hs.2 b (aAl (aAi (aAd e) (I.ok.cab x c hfn hc)))).trans e1⟩
  ·obtain ⟨o',e1⟩:=I.base.there b o e hx;exact ⟨o',(hs.2 b (aAl (aAi (aAd e) (I.ok.cab x c hfn hc)))).trans e1⟩
  ·by_cases hj:j=i
   ·subst hj;rw [hi] at e1;cases e1;rw [aBl hiσ] at e2
    cases e2
    exact ⟨u,r,.inr ⟨.inl hk,c,hc,hc'⟩⟩
   ·rw [aBt (Ne.symm hj)] at e2;obtain ⟨u',r',q⟩:=hl j y v' e1 e2 e3;refine ⟨u',r',?_⟩;rcases q with q | ⟨k,c',e,z'⟩
    ·exact .inl q
    ·refine .inr ⟨k,c',e,z'.sameBut hs ?_⟩;rintro rfl;exact hj (iy hN e1 (I.ok.inj _ _ _ e hc ▸ hi))
  ·by_cases hcc:c'=c
   ·subst hcc;exact ⟨_,hc'⟩
   ·obtain ⟨w2,z2⟩:=I.cell y c' e;exact ⟨w2,z2.sameBut hs hcc⟩
  ·obtain ⟨e,n,ne,nf,d⟩:=I.pin p hp;refine ⟨(hs.2 p.1 ?_).trans e,n,ne,nf,d⟩;intro q;rw [q,hoc] at e;have q':oc=p.2:=Option.some.inj e;exact d w' (by rw [<- q'];exact hocd)
theorem iz {M:Model} {A:Around} {E:Value->Shared->Prop} {i:Nat} {x:Str} {v:V} {u:Value} {Q:Unit->Shared->Prop} (I:Inv X pins σ H s) (hN:X.N.Nodup) (hi:X.N[i]?=some x) (hx:Loc X.env.scope x) (r:RelV v u)
  (h:∀ s',Inv X pins (σ.set i (some v)) H s'->Q () s') (hf:X.fn x=true\/X.env.scope.names.lookup x=some .local:=by first | exact .inl rfl | exact .inr rfl | assumption):wpAny M A (storeName X.env x u) Q E s :=
 kc I hN hi hx r (λs' I' _=>h s' I') hf
theorem Inv.call' {s':Shared} {ch:List Addr} (I:Inv X pins σ H s) (ho:s'.os=s.os) (u:Un (frs X.stack) ch H H' s.heap s'.heap) (hok:HOk X.prog X.w H' s'.heap) (hg:AllBare s'.gens)
  (hch:∀ b∈ch,(b∈X.ex\/X.s₀.heap.objs.size<=b)/\b≠X.env.locals/\(∀ x c,X.env.cells.lookup x=some c->c≠b)/\∀ p∈X.pn++pins,p.1≠b):Inv X pins σ H' s':=by
 obtain ⟨h',g',d',t',o'⟩:=s';have e:o'=s.os:=ho;subst e;exact I.call (g':=g') (t':=t') (d':=d') u hok hg hch
end
abbrev XK:=Value->Option Addr->Hp->Prop
abbrev St:=List (Option V)
abbrev VK:=V->Hp->Prop
abbrev TE:=St->Hp->VK->Prop
abbrev TT:=St->Hp->(Bool->Hp->Prop)->Prop
abbrev TA:=St->Hp->(List V->Hp->Prop)->Prop
structure Ends where
 nx:St->Hp->Prop
 rt:VK
 bk:St->Hp->Prop:=λ_ _=>False
 ct:St->Hp->Prop:=λ_ _=>False
abbrev TS:=Ends->St->Hp->Prop
def EP (X:Cx) (pins:List (Addr×Obj)) (σ:St) (Q:VK) (u:Value) (s':Shared):Prop:=∃ v H',Inv X pins σ H' s'/\RelV v u/\Q v H'
def TP (X:Cx) (pins:List (Addr×Obj)) (σ:St) (Q:Bool->Hp->Prop) (b:Bool) (s':Shared):Prop:=∃ H',Inv X pins σ H' s'/\Q b H'
def AP (X:Cx) (pins:List (Addr×Obj)) (σ:St) (Q:List V->Hp->Prop) (us:List Value) (s':Shared):Prop:=∃ vs H',Inv X pins σ H' s'/\Vals vs us/\Q vs H'
def SP (X:Cx) (pins:List (Addr×Obj)) (D:Ends) (f:Flow) (s':Shared):Prop :=
 match f with
 | .next=>∃ σ' H',Inv X pins σ' H' s'/\D.nx σ' H'
 | .brk=>∃ σ' H',Inv X pins σ' H' s'/\D.bk σ' H'
 | .cont=>∃ σ' H',Inv X pins σ' H' s'/\D.ct σ' H'
 | .ret u=>∃ v σ' H',Inv X pins σ' H' s'/\RelV v u/\D.rt v H'
def PE (X:Cx) (e:Expr) (t:TE):Prop :=
 ∀ (pins:List (Addr×Obj)) (s:Shared) (σ:St) (H:Hp) (Q:VK),Inv X pins σ H s->t σ H Q->wpAny (model X.prog X.w) X.A (eval e X.env) (EP X pins σ Q) X.xe s
def PT (X:Cx) (e:Expr) (t:TT):Prop :=
 ∀ (pins:List (Addr×Obj)) (s:Shared) (σ:St) (H:Hp) (Q:Bool->Hp->Prop),Inv X pins σ H s->t σ H Q->wpAny (model X.prog X.w) X.A (isTrue e X.env (eval e X.env)) (TP X pins σ Q) X.xe s
def PW (X:Cx) (e:Expr) (t:TT):Prop :=
 ∀ (whole:Sem Value) (pins:List (Addr×Obj)) (s:Shared) (σ:St) (H:Hp) (Q:Bool->Hp->Prop),Inv X pins σ H s->t σ H Q->wpAny (model X.prog X.w) X.A (isTrue e X.env whole) (TP X pins σ Q) X.xe s
theorem PW.pt {X:Cx} {e:Expr} {t:TT} (h:PW X e t):PT X e t:=h _
def PA (X:Cx) (es:List Expr) (t:TA):Prop :=
 ∀ (pos:Pos) (pins:List (Addr×Obj)) (s:Shared) (σ:St) (H:Hp) (Q:List V->Hp->Prop),Inv X pins σ H s->t σ H Q->wpAny (model X.prog X.w) X.A (spliced (backTo pos (starEach es X.env))) (AP X pins σ Q) X.xe s
def PS (X:Cx) (st:Stmt) (t:TS):Prop :=
 ∀ (pins:List (Addr×Obj)) (s:Shared) (σ:St) (H:Hp) (D:Ends),Inv X pins σ H s->t D σ H->wpAny (model X.prog X.w) X.A (exec st X.env) (SP X pins D) X.xe s
def PSs (X:Cx) (st:List Stmt) (t:TS):Prop :=
 ∀ (pins:List (Addr×Obj)) (s:Shared) (σ:St) (H:Hp) (D:Ends),Inv X pins σ H s->t D σ H->wpAny (model X.prog X.w) X.A (execs st X.env) (SP X pins D) X.xe s
theorem thn {α:Type} {t:Sem α} {Q Q':α->Shared->Prop} {M:Model} {A:Around} {E:Value->Shared->Prop} {s:Shared} (h:wpAny M A t Q E s) (hQ:∀ a s,Q a s->Q' a s):wpAny M A t Q' E s:=wpAny_mono h hQ λ_ _ x=>x
section
variable {X:Cx}
inductive IVar (i:Nat) (σ:St) (H:Hp) (Q:VK):Prop
 | mk (v:V):(σ[i]?=some (some v))->(Q v H)->IVar i σ H Q
def eh (i:Nat):TE:=λσ H Q=>IVar i σ H Q
def tC (v:V):TE:=λ_ H Q=>Q v H
theorem AO {i:Nat} {x:Str} {pos:Pos} (hN:X.N[i]?=some x) (hv:Vis X.env.scope x) (hd:(x == ("__debug__" : Str))=false:=by decide) (hcd:(x == ("__classdict__" : Str))=false:=by decide):PE X (.Name x pos) (eh i):=by
 intro pins s σ H Q I h;obtain ⟨v,e,h⟩:=h;obtain ⟨m,hn,hl⟩:=I.loc;obtain ⟨u,r,l⟩:=hl i x v hN e hv;have fin:EP X pins σ Q u s:=⟨v,H,I,r,h⟩;rcases l with ⟨hk,hm⟩ | ⟨hk,c,hc,hcell⟩
 ·exact wpAny_Name (wpAny_loadName_local I.ok.kind hk hn hm fin) hd
 ·rcases hk with hk | hk
  ·exact wpAny_Name (wpAny_loadName_cell I.ok.kind hk hc hcell fin) hd
  ·exact wpAny_Name (wpAny_loadName_free I.ok.kind hk hc hcell fin hcd) hd
theorem pe_int {i j pos}:PE X (.Constant (.int i) j pos) (tC (.int i)):=λ_ _ _ H _ I h=>wpAny_Constant_int ⟨.int i,H,I.tok _,⟨_,rfl⟩,h⟩
theorem pe_bl {b j pos}:PE X (.Constant (.bool b) j pos) (tC (.bl b)):=λ_ _ _ H _ I h=>Constant_bool ⟨.bl b,H,I,rfl,h⟩
theorem pe_non {j pos}:PE X (.Constant .none j pos) (tC .non):=λ_ _ _ H _ I h=>Constant_none ⟨.non,H,I,rfl,h⟩
theorem pe_str {x j pos}:PE X (.Constant (.str x) j pos) (tC (.str x)):=λ_ _ _ H _ I h=>Calls.Constant_str ⟨.str x,H,I.tok _,⟨_,rfl⟩,h⟩
def Gl (X:Cx) (x:Str):Prop:=X.env.kindOf x=some .globalImplicit
theorem aU {E:Value->Shared->Prop} {pins:List (Addr×Obj)} {s:Shared} {σ:St} {H:Hp} {x:Str} {u:Value} {pos:Pos} {Q:Value->Shared->Prop} (I:Inv X pins σ H s) (hg:Gl X x) (hm:X.mg x=some u) (h:Q u s)
  (hd:(x == ("__debug__" : Str))=false:=by decide):wpAny (model X.prog X.w) X.A (eval (.Name x pos) X.env) Q E s :=
 Calls.Name_function_global I.ok.kind hg (Calls.loadGlobal_global (by rw [I.ok.glob];exact I.mod.glob.keeps I.bk) hm h) hd
theorem dC {E:Value->Shared->Prop} {pins:List (Addr×Obj)} {s:Shared} {σ:St} {H:Hp} {x:Str} {u:Value} {pos:Pos} {Q:Value->Shared->Prop} (I:Inv X pins σ H s) (hg:Gl X x) (hm:X.mg x=none) (hv:bootBuiltins x=some u) (h:Q u s)
  (hn:x≠ "__name__" :=by decide) (hd:(x == ("__debug__" : Str))=false:=by decide):wpAny (model X.prog X.w) X.A (eval (.Name x pos) X.env) Q E s:=by
 obtain ⟨mb,h1,h2⟩:=I.mod.blt;exact Calls.Name_function_global I.ok.kind hg (Calls.loadGlobal_builtin (by rw [I.ok.glob];exact I.mod.glob.keeps I.bk) hm (by rw [I.ok.blt];exact h1.keeps I.bk) ((h2 x hn).trans hv) h) hd
theorem kT {x:Str} {v:V} {u:Value} {pos:Pos} (hg:Gl X x) (hm:X.mg x=some u) (r:RelV v u) (hd:(x == ("__debug__" : Str))=false:=by decide):PE X (.Name x pos) (tC v) :=
 λ_ _ _ H _ I h=>aU I hg hm ⟨v,H,I,r,h⟩ hd
theorem vW {x:Str} {v:V} {u:Value} {pos:Pos} (hg:Gl X x) (hm:X.mg x=none) (hv:bootBuiltins x=some u) (r:RelV v u) (hn:x≠ "__name__" :=by decide) (hd:(x == ("__debug__" : Str))=false:=by decide):PE X (.Name x pos) (tC v) :=
 λ_ _ _ H _ I h=>dC I hg hm hv ⟨v,H,I,r,h⟩ hn hd
variable {a b:Expr} {ta tb:TE} {pos:Pos}
def tB (t:TE):TT:=λσ H Q=>t σ H λx H1=>∃ c,x=.bl c/\Q c H1
theorem pt_val {e:Expr} {t:TE} (h:PE X e t) (he:∀ whole,isTrue e X.env whole=(do let v <- whole;standAt e.pos;holding [v] (truthy v)):=by intro _;rfl):PT X e (tB t):=by
 intro pins s σ H Q I hw;refine isTrue_plain (thn (h pins s σ H _ I hw) λv s1 ⟨x,H1,I1,r1,q1⟩=>?_) (he _);obtain ⟨d,rfl,q⟩:=q1
 cases r1
 exact wpAny_truthy_bool ⟨H1,I1,q⟩
variable {tA tB':TT} {rest:List Expr}
def Iq (t u:TT):TT:=λσ H Q=>t σ H λc H1=>if c=true then u σ H1 Q else Q false H1
def tOr (t u:TT):TT:=λσ H Q=>t σ H λc H1=>if c=true then Q true H1 else u σ H1 Q
def Ir (t:TT):TT:=λσ H Q=>t σ H λc H1=>Q (!c) H1
theorem pw_and1 (ha:PT X a tA):PW X (.BoolOp .And [a] pos) tA:=by
 intro wh pins s σ H Q I h;refine isTrue_and (thn (ha pins s σ H Q I h) λc s1 e=>?_)
 cases c with
 | true=>exact isTrue_and_nil e
 | false=>exact e
theorem pw_or1 (ha:PT X a tA):PW X (.BoolOp .Or [a] pos) tA:=by
 intro wh pins s σ H Q I h;refine isTrue_or (thn (ha pins s σ H Q I h) λc s1 e=>?_)
 cases c with
 | false=>exact isTrue_or_nil e
 | true=>exact e
theorem AQ (ha:PT X a tA) (hb:PW X (.BoolOp .And (b :: rest) pos) tB'):PW X (.BoolOp .And (a :: b :: rest) pos) (Iq tA tB'):=by
 intro wh pins s σ H Q I h;refine isTrue_and (thn (ha pins s σ H _ I h) λc s1 ⟨H1,I1,q1⟩=>?_)
 cases c with
 | true=>exact hb wh pins s1 σ H1 Q I1 q1
 | false=>exact ⟨H1,I1,q1⟩
theorem pw_or (ha:PT X a tA) (hb:PW X (.BoolOp .Or (b :: rest) pos) tB'):PW X (.BoolOp .Or (a :: b :: rest) pos) (tOr tA tB'):=by
 intro wh pins s σ H Q I h;refine isTrue_or (thn (ha pins s σ H _ I h) λc s1 ⟨H1,I1,q1⟩=>?_)
 cases c with
 | true=>exact ⟨H1,I1,q1⟩
 | false=>exact hb wh pins s1 σ H1 Q I1 q1
theorem pt_not (ha:PT X a tA):PT X (.UnaryOp .Not a pos) (Ir tA):=by
 intro pins s σ H Q I h;exact isTrue_not (ha pins s σ H (λc H1=>Q (!c) H1) I h)
def GO (ta tb:TE):TE:=λσ H Q=>ta σ H λx H1=>∃ c,x=.bl c/\if c=true then tb σ H1 Q else Q (.bl false) H1
def Iu (ta tb:TE):TE:=λσ H Q=>ta σ H λx H1=>∃ c,x=.bl c/\if c=true then Q (.bl true) H1 else tb σ H1 Q
def GP (ta:TE):TE:=λσ H Q=>ta σ H λx H1=>∃ c,x=.bl c/\Q (.bl (!c)) H1
theorem pe_one {op} {t:TE} (h:PE X a t):PE X (.BoolOp op [a] pos) t:=λpins s σ H Q I hw=>BoolOp_one (h pins s σ H Q I hw)
theorem pe_and (ha:PE X a ta) (hb:PE X (.BoolOp .And (b :: rest) pos) tb):PE X (.BoolOp .And (a :: b :: rest) pos) (GO ta tb):=by
 intro pins s σ H Q I h;refine BoolOp_and (thn (ha pins s σ H _ I h) λv s1 ⟨x,H1,I1,r1,q1⟩=>?_);obtain ⟨c,rfl,q1⟩:=q1
 cases r1
 refine wpAny_truthy_bool ?_
 cases c with
 | true=>exact hb pins s1 σ H1 Q I1 q1
 | false=>exact ⟨.bl false,H1,I1,rfl,q1⟩
theorem GQ (ha:PE X a ta) (hb:PE X (.BoolOp .Or (b :: rest) pos) tb):PE X (.BoolOp .Or (a :: b :: rest) pos) (Iu ta tb):=by
 intro pins s σ H Q I h;refine BoolOp_or (thn (ha pins s σ H _ I h) λv s1 ⟨x,H1,I1,r1,q1⟩=>?_);obtain ⟨c,rfl,q1⟩:=q1
 cases r1
 refine wpAny_truthy_bool ?_
 cases c with
 | false=>exact hb pins s1 σ H1 Q I1 q1
 | true=>exact ⟨.bl true,H1,I1,rfl,q1⟩
theorem AR (ha:PE X a ta):PE X (.UnaryOp .Not a pos) (GP ta):=by
 intro pins s σ H Q I h;refine UnaryOp_ (thn (ha pins s σ H _ I h) λv s1 ⟨x,H1,I1,r1,q1⟩=>?_);obtain ⟨c,rfl,q1⟩:=q1
 cases r1
 exact not_of (wpAny_truthy_bool ⟨.bl (!c),H1,I1,rfl,q1⟩)
def tIf (t:TT) (ta tb:TE):TE:=λσ H Q=>t σ H λc H1=>if c=true then ta σ H1 Q else tb σ H1 Q
theorem mI {c:Expr} (hc:PT X c tA) (ha:PE X a ta) (hb:PE X b tb):PE X (.IfExp c a b pos) (tIf tA ta tb):=by
 intro pins s σ H Q I h;refine wpAny_IfExp (thn (hc pins s σ H _ I h) λd s1 ⟨H1,I1,q1⟩=>?_)
 cases d with
 | true=>exact ha pins s1 σ H1 Q I1 q1
 | false=>exact hb pins s1 σ H1 Q I1 q1
end
def SqL (K:W.Frag) (H:Hp) (a:Addr) (xs:List V):Prop :=
 Rd H a (.lst xs) \/
  ∃ (o:Obj) (its:Array Value) (n:Nat),K.lookup a=some o/\o.cls=.type "list" /\o.dict=none/\o.data=.seq its n/\its.size<=sizeLine/\Vals xs its.toList
def SqT (K:W.Frag) (H:Hp) (a:Addr) (xs:List V):Prop :=
 Rd H a (.tup xs) \/
  ∃ (o:Obj) (its:Array Value) (n:Nat),K.lookup a=some o/\o.cls=.type "tuple" /\o.data=.seq its n/\its.size<=sizeLine/\Vals xs its.toList
def Iv:Value->Option V
 | .none=>some .non
 | .bool b=>some (.bl b)
 | .int i _=>some (.int i)
 | .str x _=>some (.str x)
 | .bytes b _=>some (.byt b)
 | .float b _=>some (.flt b)
 | .ref a=>some (.ref a)
 | .type n=>some (.ty n)
 | _=>none
theorem RelV.abs {x:V} {u:Value} (r:RelV x u):Iv u=some x:=by
 cases x with
 | non=>cases r;rfl
 | bl _=>cases r;rfl
 | int _=>obtain ⟨t,rfl⟩:=r;rfl
 | str _=>obtain ⟨t,rfl⟩:=r;rfl
 | byt _=>obtain ⟨t,rfl⟩:=r;rfl
 | flt _=>obtain ⟨t,rfl⟩:=r;rfl
 | ref _=>cases r;rfl
 | ty _=>cases r;rfl
theorem RelV.inj {x y:V} {u:Value} (r:RelV x u) (q:RelV y u):x=y:=Option.some.inj (r.abs.symm.trans q.abs)
theorem Vals.inj:∀ {xs ys:List V} {us:List Value},Vals xs us->Vals ys us->xs=ys
 | _,_,_,.nil,.nil=>rfl
 | _,_,_,.cons r t,.cons r' t'=>by rw [r.inj r',Vals.inj t t']
section
variable {X:Cx} {pins:List (Addr×Obj)} {σ:St} {H:Hp} {s:Shared} {a:Addr} {xs ys:List V}
theorem SqL.of {K:W.Frag} (h:H a=some (.lst xs)):SqL K H a xs:=.inl (.inl h)
theorem Inv.list (I:Inv X pins σ H s) (h:SqL X.K H a xs):∃ its:List Value,Vals xs its/\PlainL s.heap a its.toArray/\xs.length<=sizeLine:=by
 rcases h with h | ⟨o,its,n,hk,hc,hd,hs,hz,r⟩
 ·obtain ⟨z,its,n,r,e⟩:=h.ok I.hok;exact ⟨its,r,⟨_,n,e,rfl,rfl,rfl⟩,z⟩
 ·refine ⟨its.toList,r,⟨o,n,I.kIn a o hk,hc,hd,by simpa using hs⟩,?_⟩;have e:=r.length;simp only [aA9] at e;lia
theorem Inv.tuple (I:Inv X pins σ H s) (h:SqT X.K H a xs):∃ its:List Value,Vals xs its/\IsTup s.heap a its.toArray/\xs.length<=sizeLine:=by
 rcases h with h | ⟨o,its,n,hk,hc,hs,hz,r⟩
 ·obtain ⟨z,its,r,p⟩:=h.ok I.hok;exact ⟨its,r,p,z⟩
 ·refine ⟨its.toList,r,⟨o,I.kIn a o hk,hc,n,by simpa using hs⟩,?_⟩;have e:=r.length;simp only [aA9] at e;lia
theorem Inv.list_inj (I:Inv X pins σ H s) (h:SqL X.K H a xs) (h':SqL X.K H a ys):xs=ys:=by
 obtain ⟨its,r,⟨o,n,e,_,_,d⟩,_⟩:=I.list h;obtain ⟨its',r',⟨o',n',e',_,_,d'⟩,_⟩:=I.list h';rw [e] at e';cases e';rw [d] at d';injection d' with d1 _
 have:its=its':=by simpa using congrArg Array.toList d1
 subst this;exact r.inj r'
theorem Inv.tuple_inj (I:Inv X pins σ H s) (h:SqT X.K H a xs) (h':SqT X.K H a ys):xs=ys:=by
 obtain ⟨its,r,⟨o,e,_,n,d⟩,_⟩:=I.tuple h;obtain ⟨its',r',⟨o',e',_,n',d'⟩,_⟩:=I.tuple h';rw [e] at e';cases e';rw [d] at d';injection d' with d1 _
 have:its=its':=by simpa using congrArg Array.toList d1
 subst this;exact r.inj r'
end
abbrev Cx.wish (X:Cx) (E:Value->Shared->Prop):Cx:={ X with xe:=E }
abbrev Cx.nox (X:Cx):Cx:=X.wish λ_ _=>False
theorem Cx.Ok.wish {X:Cx} (ok:X.Ok) (E:Value->Shared->Prop):(X.wish E).Ok :=
 ⟨ok.mod,ok.kind,ok.glob,ok.blt,ok.above,ok.inj,ok.has,ok.cab,ok.hd,ok.frames,ok.stk,ok.exf,ok.bs,ok.bsz,ok.noex,ok.exfs,ok.funs,ok.frf⟩
theorem Cx.Ok.unwish {X:Cx} {E:Value->Shared->Prop} (ok:(X.wish E).Ok):X.Ok :=
 ⟨ok.mod,ok.kind,ok.glob,ok.blt,ok.above,ok.inj,ok.has,ok.cab,ok.hd,ok.frames,ok.stk,ok.exf,ok.bs,ok.bsz,ok.noex,ok.exfs,ok.funs,ok.frf⟩
section
variable {X:Cx} {pins:List (Addr×Obj)} {σ:St} {H:Hp} {s:Shared} {E:Value->Shared->Prop}
theorem Inv.wish (I:Inv X pins σ H s) (E:Value->Shared->Prop):Inv (X.wish E) pins σ H s:=⟨I.ok.wish E,I.os,I.bare,I.base,I.loc,I.cell,I.free,I.freeC,I.pin,I.hok,I.len⟩
theorem Inv.unwish (I:Inv (X.wish E) pins σ H s):Inv X pins σ H s:=⟨I.ok.unwish,I.os,I.bare,I.base,I.loc,I.cell,I.free,I.freeC,I.pin,I.hok,I.len⟩
theorem SP.unwish {D:Ends} {f:Flow} {s':Shared} (h:SP (X.wish E) pins D f s'):SP X pins D f s':=by
 cases f with
 | next=>obtain ⟨σ',H',I,q⟩:=h;exact ⟨σ',H',I.unwish,q⟩
 | brk=>obtain ⟨σ',H',I,q⟩:=h;exact ⟨σ',H',I.unwish,q⟩
 | cont=>obtain ⟨σ',H',I,q⟩:=h;exact ⟨σ',H',I.unwish,q⟩
 | ret u=>obtain ⟨v,σ',H',I,r,q⟩:=h;exact ⟨v,σ',H',I.unwish,r,q⟩
theorem PSs.nox {st:List Stmt} {t:TS} (h:PSs X.nox st t):PSs X st t:=λpins s σ H D I hw =>
 wpAny_mono (h pins s σ H D (I.wish _) hw) (λ_ _ q=>q.unwish) λ_ _ z=>False.elim z
end
section
variable {X:Cx} {st:Stmt} {rest:List Stmt} {t u:TS} {e:Expr} {te:TE} {pos:Pos}
def kf:TS:=λD σ H=>D.nx σ H
def kU (t u:TS):TS:=λD σ H=>t { D with nx:=u D } σ H
theorem pss_nil:PSs X [] kf:=λ_ _ σ H _ I h=>wpAny_execs_nil ⟨σ,H,I,h⟩
theorem pss_cons (h1:PS X st t) (h2:PSs X rest u):PSs X (st :: rest) (kU t u):=by
 intro pins s σ H D I h;refine wpAny_execs_cons (thn (h1 pins s σ H { D with nx:=u D } I h) λf s1 q=>?_)
 cases f with
 | next =>
  obtain ⟨σ',H',I',q⟩:=q;exact h2 pins s1 σ' H' D I' q
 | ret v=>exact q
 | brk=>exact q
 | cont=>exact q
theorem pss_one (h1:PS X st t):PSs X [st] t:=by
 intro pins s σ H D I h;refine wpAny_execs_cons (thn (h1 pins s σ H D I h) λf s1 q=>?_)
 cases f with
 | next=>exact wpAny_execs_nil q
 | ret v=>exact q
 | brk=>exact q
 | cont=>exact q
theorem Inv.quiet {pins:List (Addr×Obj)} {σ:St} {H:Hp} {s:Shared} (I:Inv X pins σ H s):interactive X.env=false:=by simp [interactive,I.ok.kind]
def GR (te:TE):TS:=λD σ H=>te σ H λ_ H1=>D.nx σ H1
theorem vX (he:PE X e te) (hs:swapsWith e none pos.line X.env=pure false:=by rfl):PS X (.Expr e pos) (GR te):=by
 intro pins s σ H D I h;exact wpAny_Expr_any (thn (he pins s σ H _ I h) λv s1 ⟨x,H1,I1,r1,q1⟩=>⟨σ,H1,I1,q1⟩) I.quiet hs
def GS (te:TE):TS:=λD σ H=>te σ H D.rt
theorem ps_ret (he:PE X e te):PS X (.Return (some e) pos) (GS te):=by
 intro pins s σ H D I h;exact wpAny_Return_some (thn (he pins s σ H _ I h) λv s1 ⟨x,H1,I1,r1,q1⟩=>⟨x,σ,H1,I1,r1,q1⟩)
def rC (c:TT) (t u:TS):TS:=λD σ H=>c σ H λb H1=>if b=true then t D σ H1 else u D σ H1
theorem ps_if {c:Expr} {a b:List Stmt} {tc:TT} (hc:PT X c tc) (ha:PSs X a t) (hb:PSs X b u):PS X (.If c a b pos) (rC tc t u):=by
 intro pins s σ H D I h;refine wpAny_If (thn (hc pins s σ H _ I h) λd s1 ⟨H1,I1,q1⟩=>?_)
 cases d with
 | true=>exact ha pins s1 σ H1 D I1 q1
 | false=>exact hb pins s1 σ H1 D I1 q1
def AS:TS:=λ_ _ _=>False
theorem aM {sts:List Stmt}:PSs X sts AS:=λ_ _ _ _ _ _ h=>h.elim
end
abbrev TG:=V->St->Hp->(St->Hp->Prop)->Prop
abbrev TGs:=List V->St->Hp->(St->Hp->Prop)->Prop
def PG (X:Cx) (target:Expr) (t:TG):Prop :=
 ∀ (pins:List (Addr×Obj)) (s:Shared) (σ:St) (H:Hp) (v:V) (u:Value) (Q:St->Hp->Prop),Inv X pins σ H s->RelV v u->t v σ H Q ->
  wpAny (model X.prog X.w) X.A (assign target X.env u) (λ_ s'=>∃ σ' H',Inv X pins σ' H' s'/\Q σ' H') X.xe s
def PGs (X:Cx) (ts:List Expr) (t:TGs):Prop :=
 ∀ (pins:List (Addr×Obj)) (s:Shared) (σ:St) (H:Hp) (vs:List V) (us:List Value) (Q:St->Hp->Prop),Inv X pins σ H s->Vals vs us->t vs σ H Q ->
  wpAny (model X.prog X.w) X.A (assignInOrder ((assignEach ts X.env).map (·.2)) us) (λ_ s'=>∃ σ' H',Inv X pins σ' H' s'/\Q σ' H') X.xe s
abbrev AT:=V->V->V->Hp->(Hp->Prop)->Prop
def GT (X:Cx) (t:AT):Prop :=
 ∀ (pins:List (Addr×Obj)) (s:Shared) (σ:St) (H:Hp) (o i v:V) (ov iv u:Value) (Q:Hp->Prop),Inv X pins σ H s->RelV o ov->RelV i iv->RelV v u->t o i v H Q ->
  wpAny (model X.prog X.w) X.A (setItem ov iv u) (λ_ s'=>∃ H',Inv X pins σ H' s'/\Q H') X.xe s
section
variable {X:Cx} {pos:Pos}
def fh (i:Nat):TG:=λv σ H Q=>Q (σ.set i (some v)) H
theorem ai {i:Nat} {x:Str} (hN:X.N.Nodup) (hi:X.N[i]?=some x) (hx:Loc X.env.scope x) (hf:X.fn x=true\/X.env.scope.names.lookup x=some .local:=by first | exact .inl rfl | exact .inr rfl | assumption):PG X (.Name x pos) (fh i):=by
 intro pins s σ H v u Q I r h;exact wpAny_assign_Name (iz I hN hi hx r (λs' I'=>⟨_,H,I',h⟩) hf)
def Iw:TGs:=λvs σ H Q=>vs=[]/\Q σ H
def GU (t:TG) (u:TGs):TGs:=λvs σ H Q=>∃ v r,vs=v :: r/\t v σ H λσ' H'=>u r σ' H' Q
theorem bW:PGs X [] Iw:=by
 intro pins s σ H vs us Q I r h;obtain ⟨e,h⟩:=h;subst e
 cases r
 exact assignInOrder_nil ⟨σ,H,I,h⟩
theorem aH {e:Expr} {es:List Expr} {t:TG} {u:TGs} (h1:PG X e t) (h2:PGs X es u)
  (hs:(assignEach (e :: es) X.env).map (·.2)=assign e X.env :: (assignEach es X.env).map (·.2):=by rfl):PGs X (e :: es) (GU t u):=by
 intro pins s σ H vs us Q I r h;obtain ⟨v,vr,e1,h⟩:=h;subst e1
 cases r with
 | cons r rr =>
  rw [hs];refine assignInOrder_cons (thn (h1 pins s σ H _ _ _ I r h) λ_ s1 ⟨σ1,H1,I1,q1⟩=>?_);exact h2 pins s1 σ1 H1 _ _ Q I1 rr q1
def GV (K:W.Frag) (n:Nat) (t:TGs):TG:=λv σ H Q=>∃ a xs,v=.ref a/\SqT K H a xs/\xs.length=n/\t xs σ H Q
theorem fX {es:List Expr} {k:Nat} {t:TGs} {n:Nat} (hc:X.calm=true) (h:PGs X es t)
  (hn:(assignEach es X.env).length=n:=by rfl) (hst:(assignEach es X.env).findIdx? (·.1)=none:=by rfl):PG X (.Tuple es k pos) (GV X.K n t):=by
 intro pins s σ H v u Q I r hw;obtain ⟨a,xs,e1,hq,hl,hw⟩:=hw;subst e1
 cases r
 obtain ⟨its,rv,ht,hz⟩:=I.tuple hq;refine assign_Tuple_tuple (I.ok.hd hc) ht (by simp [hn,<- hl,rv.length]) hst λh' hx=>?_;have I1:Inv X pins σ H { s with heap:=h' }:=I.kept (t':=s.toks) λb o e=>hx b o (aAl (aAd e)) e;exact h pins _ σ H xs _ Q I1 (by simpa using rv) hw
def gSub (to ti:TE) (t:AT):TG:=λv σ H Q=>to σ H λo H1=>ti σ H1 λi H2=>t o i v H2 λH3=>Q σ H3
theorem AU {o i:Expr} {to ti:TE} {t:AT} (ho:PE X o to) (hi:PE X i ti) (hs:GT X t)
  (ha:∀ v,assign (.Subscript o i pos) X.env v=(do
   let ov <- holding [v] (eval o X.env)
   let iv <- holding [v,ov] (eval i X.env)
   standAt pos
   holding [v,ov,iv] (setItem ov iv v)
   release [v,ov,iv] []):=by intro _;rfl):PG X (.Subscript o i pos) (gSub to ti t):=by
 intro pins s σ H v u Q I r h;rw [ha];refine wpAny_bind (wpAny_holding (thn (ho pins s σ H _ I h) λov s1 ⟨x,H1,I1,r1,q1⟩=>?_));refine wpAny_bind (wpAny_holding (thn (hi pins s1 σ H1 _ I1 q1) λiv s2 ⟨y,H2,I2,r2,q2⟩=>?_));refine wpAny_bind (wpAny_standAt (wpAny_bind (wpAny_holding (thn (hs pins s2 σ H2 x y v ov iv u _ I2 r1 r2 r q2) λ_ s3 ⟨H3,I3,q3⟩=>?_))));exact wpAny_release ⟨σ,H3,I3,q3⟩
def ph (te:TE) (g:TG):TS:=λD σ H=>te σ H λx H1=>g x σ H1 D.nx
theorem AV {tg e:Expr} {te:TE} {g:TG} (he:PE X e te) (hg:PG X tg g) (hs:swapsWithSole [tg] e pos.line X.env=pure false:=by rfl) (hw:swappedStores [tg] e X.env=pure none:=by rfl)
  (h1:(assignEach [tg] X.env).map (·.2)=[assign tg X.env]:=by rfl):PS X (.Assign [tg] e pos) (ph te g):=by
 intro pins s σ H D I h;refine wpAny_Assign_stores (thn (he pins s σ H _ I h) λv s1 ⟨x,H1,I1,r1,q1⟩=>?_) hs hw;rw [h1];exact thn (hg pins s1 σ H1 x v _ I1 r1 q1) λ_ s2 q=>q
theorem ps_set {i:Nat} {x:Str} {e:Expr} {te:TE} {pos':Pos} (hN:X.N.Nodup) (hi:X.N[i]?=some x) (hx:Loc X.env.scope x) (he:PE X e te) (hs:swapsWith e (some (.Name x pos')) pos.line X.env=pure false:=by rfl) (hf:X.fn x=true\/X.env.scope.names.lookup x=some .local:=by first | exact .inl rfl | exact .inr rfl | assumption) :
  PS X (.Assign [.Name x pos'] e pos) (ph te (fh i)):=by
 intro pins s σ H D I h;refine wpAny_Assign_Name (thn (he pins s σ H _ I h) λv s1 ⟨y,H1,I1,r1,q1⟩=>?_) hs;exact iz I1 hN hi hx r1 (λs2 I2=>⟨_,H1,I2,q1⟩) hf
end
section
variable {X:Cx} {pos:Pos}
end
structure It where
 go:Nat->Hp->Prop
 yld:Nat->Hp->V->Hp->Prop
 stop:Nat->Hp->Prop
def dD (X:Cx) (pins:List (Addr×Obj)) (H:Hp) (b:Addr):Prop :=
 H b=none/\b≠X.env.locals/\b∉X.fs/\(b∈X.ex\/X.s₀.heap.objs.size<=b)/\(∀ x c,X.env.cells.lookup x=some c->c≠b)/\∀ p∈X.pn++pins,p.1≠b
theorem Inv.fpOk {X:Cx} {pins:List (Addr×Obj)} {σ:St} {H H':Hp} {s:Shared} {b:Addr} (I:Inv X pins σ H s) (hb:s.heap.objs.size<=b) (hn:H' b=none):dD X pins H' b:=by
 refine ⟨hn,aAT (aAi I.lt hb),I.nofs hb,.inr (aAx I.sz hb),λx c e z=>?_,λp hp z=>?_⟩
 ·obtain ⟨v,q⟩:=I.cell x c e;exact absurd (aAi q.lt (by rw [z];exact hb)) (aAE _)
 ·exact absurd (aAi (aAd (I.pin p hp).1) (by rw [z];exact hb)) (aAE _)
structure Turn (P:Program) (w:World) (K:W.Frag) (tg:Expr) (J:It) (fp:List Addr) (it:Addr) (tn:Nat->Heap->Prop):Prop where
 mem:it∈fp
 obj:∀ i h,tn i h->∀ b∈fp,∃ o,h.get? b=some o/\∀ v,o.data≠.cell v
 keep:∀ i h h',tn i h->(∀ b∈fp,∀ o,h.get? b=some o->h'.get? b=some o)->tn i h'
 item:∀ (X:Cx),X.prog=P->X.w=w->X.K=K->X.calm=true->∀ (i:Nat) (pins:List (Addr×Obj)) (s:Shared) (σ:St) (H:Hp) (E:Value->Shared->Prop),Inv X pins σ H s->(∀ b∈fp,dD X pins H b)->tn i s.heap->J.go i H ->
  wpAny (model P w) X.A (pyNext (.ref it)) (λr s1=>∃ u,r=some u /\
   wpAny (model P w) X.A (letOwnedTupleGo tg (.ref it) u) (λ_ s2=>∃ x H',Inv X pins σ H' s2/\RelV x u/\J.yld i H x H'/\tn (i+1) s2.heap/\∀ b∈fp,H' b=none) E s1) E s
 done:∀ (X:Cx),X.prog=P->X.w=w->X.K=K->X.calm=true->∀ (i:Nat) (pins:List (Addr×Obj)) (s:Shared) (σ:St) (H:Hp) (E:Value->Shared->Prop),Inv X pins σ H s->(∀ b∈fp,dD X pins H b)->tn i s.heap->J.stop i H ->
  wpAny (model P w) X.A (pyNext (.ref it)) (λr s1=>r=none/\Inv X pins σ H s1) E s
 self:∀ (A:Around) (i:Nat) (s:Shared) (Q:Value->Shared->Prop) (E:Value->Shared->Prop),tn i s.heap->Q (.ref it) s->wpAny (model P w) A (pyIter (.ref it)) Q E s
abbrev TI:=St->Hp->(It->Hp->Prop)->Prop
def PIE (X:Cx) (pins:List (Addr×Obj)) (σ:St) (tg:Expr) (R:It->Hp->Prop) (itv:Value) (s2:Shared):Prop :=
 ∃ (it:Addr) (fp:List Addr) (tn:Nat->Heap->Prop) (J:It) (H':Hp),itv=.ref it/\Inv X pins σ H' s2/\Turn X.prog X.w X.K tg J fp it tn/\tn 0 s2.heap/\(∀ b∈fp,dD X pins H' b)/\R J H'
def PI (X:Cx) (tg iter:Expr) (wi:TI):Prop :=
 ∀ (pins:List (Addr×Obj)) (s:Shared) (σ:St) (H:Hp) (R:It->Hp->Prop),Inv X pins σ H s->wi σ H R ->
  wpAny (model X.prog X.w) X.A (eval iter X.env) (λv s1=>wpAny (model X.prog X.w) X.A (pyIter v) (PIE X pins σ tg R) X.xe s1) X.xe s
theorem mJ {M:Model} {A:Around} {E:Value->Shared->Prop} {s:Shared} {tg:Expr} {it:Addr} {u:Value} {o:Obj} {n:String} {vs:Array Value} {Q:Unit->Shared->Prop} (ho:s.heap.get? it=some o) (hc:o.cls=.type n) (hd:o.data=.fields vs)
    (hn:["enumerate","zip","dict_itemiterator","dict_reverseitemiterator","odict_iterator","itertools.zip_longest","itertools.pairwise"].contains n=false) (hQ:Q () s):wpAny M A (letOwnedTupleGo tg (.ref it) u) Q E s:=by
  unfold letOwnedTupleGo
  cases tg <;> first
    | exact wpAny_pure hQ
    | (cases u <;> first
        | exact wpAny_pure hQ
        | (refine wpAny_bind (wpAny_load ho ?_)
           rw [hc,hd];show wpAny M A (if (["enumerate","zip","dict_itemiterator","dict_reverseitemiterator","odict_iterator","itertools.zip_longest","itertools.pairwise"].contains n && vs[0]? == some (rawInt _))=true then _ else _) Q E s;rw [if_neg (by intro h;rw [hn,aAy] at h;cases h)];exact wpAny_pure hQ))
def Itl (K:W.Frag) (a:Addr):It :=
 ⟨λi H=>∃ xs x,SqL K H a xs/\xs[i]?=some x,λi H x H'=>H'=H/\∀ xs,SqL K H a xs->xs[i]?=some x,λi H=>∃ xs,SqL K H a xs/\xs.length<=i⟩
def Itt (K:W.Frag) (a:Addr):It :=
 ⟨λi H=>∃ xs x,SqT K H a xs/\xs[i]?=some x,λi H x H'=>H'=H/\∀ xs,SqT K H a xs->xs[i]?=some x,λi H=>∃ xs,SqT K H a xs/\xs.length<=i⟩
def Itr (lo:Int) (n:Nat):It:=⟨λi _=>i < n,λi H x H'=>H'=H/\x=.int (lo+i),λi _=>n<=i⟩
theorem rE {P:Program} {w:World} {K:W.Frag} {tg:Expr} (a it:Addr):Turn P w K tg (Itl K a) [it] it (λi h=>h.IsListIter it a i) where
 mem:=by simp
 obj:=λi h st b hb=>by
  have e:b=it:=by simpa using hb
  subst e;obtain ⟨o,e,c,d⟩:=st;exact ⟨o,e,λv z=>by rw [d] at z;cases z⟩
 keep:=λi h h' st k=>st.at λo e=>k it (by simp) o e
 item:=by
  intro X hP hw hK hc i pins s σ H E I hf st hg;subst hP hw hK;obtain ⟨xs,x,hq,hx⟩:=hg;obtain ⟨its,rv,p,hz⟩:=I.list hq;obtain ⟨u,hu,ru⟩:=rv.get hx;obtain ⟨f0,f1,f2,f3,f4,f5⟩:=hf it (by simp);refine wpAny_pyNext_list_item st p.isList (x:=u) (by simpa using hu) λh' st' sb=>?_;have I1:Inv X pins σ H { s with heap:=h' }:=I.turned (t':=s.toks) (λb o hb e=>(sb.2 b hb).trans e) f0 f1 f3 f4 f5;obtain ⟨o,e,c,d⟩:=id st';exact ⟨u,rfl,mJ (s:={ s with heap:=h' }) e c d (by decide) ⟨x,H,I1,ru,⟨rfl,λys hy=>by rw [I.list_inj hy hq];exact hx⟩,st',λb hb=>(hf b hb).1⟩⟩
 done:=by
  intro X hP hw hK hc i pins s σ H E I hf st hg;subst hP hw hK;obtain ⟨xs,hq,hx⟩:=hg;obtain ⟨its,rv,p,hz⟩:=I.list hq;obtain ⟨f0,f1,f2,f3,f4,f5⟩:=hf it (by simp);have hl:=rv.length;exact wpAny_pyNext_list_end (I.ok.hd hc) st p.isList (by simp;lia) λh' eb=>⟨rfl,I.turned (t':=s.toks) (λb o hb e=>eb b o hb e) f0 f1 f3 f4 f5⟩
 self:=λ_ _ _ _ _ st h=>wpAny_pyIter_listiter st h
theorem pi {P:Program} {w:World} {K:W.Frag} {tg:Expr} (a it:Addr):Turn P w K tg (Itt K a) [it] it (λi h=>h.IsTupleIter it a i) where
 mem:=by simp
 obj:=λi h st b hb=>by
  have e:b=it:=by simpa using hb
  subst e;obtain ⟨o,e,c,d⟩:=st;exact ⟨o,e,λv z=>by rw [d] at z;cases z⟩
 keep:=λi h h' st k=>st.at λo e=>k it (by simp) o e
 item:=by
  intro X hP hw hK hc i pins s σ H E I hf st hg;subst hP hw hK;obtain ⟨xs,x,hq,hx⟩:=hg;obtain ⟨its,rv,p,hz⟩:=I.tuple hq;obtain ⟨u,hu,ru⟩:=rv.get hx;obtain ⟨f0,f1,f2,f3,f4,f5⟩:=hf it (by simp);refine wpAny_pyNext_tuple_item st (show s.heap.IsTuple a its.toArray from p) (x:=u) (by simpa using hu) λh' st' sb=>?_;have I1:Inv X pins σ H { s with heap:=h' }:=I.turned (t':=s.toks) (λb o hb e=>(sb.2 b hb).trans e) f0 f1 f3 f4 f5;obtain ⟨o,e,c,d⟩:=id st';exact ⟨u,rfl,mJ (s:={ s with heap:=h' }) e c d (by decide) ⟨x,H,I1,ru,⟨rfl,λys hy=>by rw [I.tuple_inj hy hq];exact hx⟩,st',λb hb=>(hf b hb).1⟩⟩
 done:=by
  intro X hP hw hK hc i pins s σ H E I hf st hg;subst hP hw hK;obtain ⟨xs,hq,hx⟩:=hg;obtain ⟨its,rv,p,hz⟩:=I.tuple hq;obtain ⟨f0,f1,f2,f3,f4,f5⟩:=hf it (by simp);have hl:=rv.length;exact wpAny_pyNext_tuple_end (I.ok.hd hc) st (show s.heap.IsTuple a its.toArray from p) (by simp;lia) λh' eb=>⟨rfl,I.turned (t':=s.toks) (λb o hb e=>eb b o hb e) f0 f1 f3 f4 f5⟩
 self:=λ_ _ _ _ _ st h=>wpAny_pyIter_tupleiter st h
theorem pj {P:Program} {w:World} {K:W.Frag} {tg:Expr} (it:Addr) (lo:Int) (n:Nat):Turn P w K tg (Itr lo n) [it] it (λi h=>IsRangeIter h it (lo+(i:Nat)*1) ((n:Int) - (i:Nat)) 1) where
 mem:=by simp
 obj:=λi h st b hb=>by
  have e:b=it:=by simpa using hb
  subst e;exact ⟨_,st,λv z=>by
   have z':Data.fields _=Data.cell v:=z
   cases z'⟩
 keep:=λi h h' st k=>k it (by simp) _ st
 item:=by
  intro X hP hw hK hc i pins s σ H E I hf st hg;subst hP hw hK;obtain ⟨f0,f1,f2,f3,f4,f5⟩:=hf it (by simp);have W:=Walks.range (prog:=X.prog) (w:=X.w) (I.ok.hd hc) it lo 1 n;refine W.item i s _ _ hg st λv h' tk hv st' kk=>?_;obtain ⟨t,rfl⟩:=hv;have I1:Inv X pins σ H { s with heap:=h',toks:=tk }:=I.turned (λb o hb e=>kk b o (by simpa using hb) e) f0 f1 f3 f4 f5;refine ⟨_,rfl,mJ (s:={ s with heap:=h',toks:=tk }) (n:= "range_iterator") st' rfl rfl (by decide) ⟨.int (lo+i),H,I1,⟨t,?_⟩,⟨rfl,rfl⟩,st',λb hb=>(hf b hb).1⟩⟩;rw [Int.mul_one]
 done:=by
  intro X hP hw hK hc i pins s σ H E I hf st hg;subst hP hw hK;obtain ⟨f0,f1,f2,f3,f4,f5⟩:=hf it (by simp);exact wpAny_pyNext_range_end (I.ok.hd hc) st (by have:n<=i:=hg;lia) λh' eb=>⟨rfl,I.turned (t':=s.toks) (λb o hb e=>eb b o hb e) f0 f1 f3 f4 f5⟩
 self:=λ_ _ _ _ _ st h=>wpAny_pyIter_rangeiter st h
section
variable {X:Cx} {tg:Expr}
def xI (K:W.Frag) (tl:TE):TI:=λσ H R=>tl σ H λx H1=>∃ a,x=.ref a/\(∃ xs,SqL K H1 a xs)/\R (Itl K a) H1
def GW (K:W.Frag) (tl:TE):TI:=λσ H R=>tl σ H λx H1=>∃ a,x=.ref a/\(∃ xs,SqT K H1 a xs)/\R (Itt K a) H1
theorem vY {l:Expr} {tl:TE} (hl:PE X l tl):PI X tg l (xI X.K tl):=by
 intro pins s σ H R I h;refine thn (hl pins s σ H _ I h) λv s1 ⟨x,H1,I1,r1,q1⟩=>?_;obtain ⟨a,e,⟨xs,hq⟩,q⟩:=q1;subst e
 cases r1
 obtain ⟨its,rv,p,hz⟩:=I1.list hq;refine wpAny_pyIter_list p.isList ?_;refine ⟨s1.heap.objs.size,[s1.heap.objs.size],_,_,H1,rfl,I1.kept (t':=s1.toks) λb o e=>aAa _ e,rE a _,⟨_,aAf _ rfl,rfl,rfl⟩,λb hb=>?_,q⟩;have e:b=s1.heap.objs.size:=by simpa using hb
 subst e;exact I1.fpOk (aAo _) (I1.hok.fresh (aAo _))
theorem AW {l:Expr} {tl:TE} (hl:PE X l tl):PI X tg l (GW X.K tl):=by
 intro pins s σ H R I h;refine thn (hl pins s σ H _ I h) λv s1 ⟨x,H1,I1,r1,q1⟩=>?_;obtain ⟨a,e,⟨xs,hq⟩,q⟩:=q1;subst e
 cases r1
 obtain ⟨its,rv,p,hz⟩:=I1.tuple hq;refine wpAny_pyIter_tuple (show s1.heap.IsTuple a its.toArray from p) ?_;refine ⟨s1.heap.objs.size,[s1.heap.objs.size],_,_,H1,rfl,I1.kept (t':=s1.toks) λb o e=>aAa _ e,pi a _,⟨_,aAf _ rfl,rfl,rfl⟩,λb hb=>?_,q⟩;have e:b=s1.heap.objs.size:=by simpa using hb
 subst e;exact I1.fpOk (aAo _) (I1.hok.fresh (aAo _))
theorem tF {pins:List (Addr×Obj)} {σ:St} {H:Hp} {s:Shared} {R:It->Hp->Prop} {E:Value->Shared->Prop} {lo hi:Int} {t u v:Tok} {tk:Nat} (I:Inv X pins σ H s) (h1:-(2 ^ 62)<=lo) (h2:lo < 2 ^ 62) (h3:-(2 ^ 62)<=hi) (h4:hi < 2 ^ 62)
  (q:R (Itr lo (hi - lo).toNat) H):wpAny (model X.prog X.w) X.A (pyIter (.ref s.heap.objs.size)) (PIE X pins σ tg R) E { s with heap:=s.heap.push { cls:=.type "range",data:=.fields #[.int lo t,.int hi u,.int 1 v] },toks:=tk }:=by
 refine wpAny_pyIter_range (IsRange.new ..) (small_one h1 h2 h3 h4) ?_;have I1:Inv X pins σ H { s with heap:=s.heap.push { cls:=.type "range",data:=.fields #[.int lo t,.int hi u,.int 1 v] },toks:=tk }:=I.kept λb o e=>aAa _ e;refine ⟨(s.heap.push { cls:=.type "range",data:=.fields #[.int lo t,.int hi u,.int 1 v] }).objs.size,[(s.heap.push { cls:=.type "range",data:=.fields #[.int lo t,.int hi u,.int 1 v] }).objs.size],_,_,H,rfl,
  I1.kept (t':=tk) λb o e=>aAa _ e,pj _ lo (hi - lo).toNat,?_,λb hb=>?_,q⟩
 ·have e1:lo+((0:Nat):Int)*1=lo:=by simp
  have e2:(((hi - lo).toNat:Nat):Int) - ((0:Nat):Int)=Builtin.Range.rangeSize lo hi 1:=by rw [rangeSize_one];split <;> lia
  show IsRangeIter _ _ (lo+((0:Nat):Int)*1) ((((hi - lo).toNat:Nat):Int) - ((0:Nat):Int)) 1;rw [e1,e2];exact aAf _ rfl
 ·have e:b=(s.heap.push { cls:=.type "range",data:=.fields #[.int lo t,.int hi u,.int 1 v] }).objs.size:=by simpa using hb
  subst e;exact I1.fpOk (aAo _) (I1.hok.fresh (aAo _))
def GX (ta:TA):TI:=λσ H R=>ta σ H λvs H1=>∃ j:Int,vs=[.int j]/\-(2 ^ 62)<=j/\j < 2 ^ 62/\R (Itr 0 j.toNat) H1
theorem pi_range1 {a:Expr} {ta:TA} {p pos:Pos} (hg:Gl X "range") (hm:X.mg "range" = none) (ha:PA X [a] ta) (hs:starEach [a] X.env=[(false,eval a X.env)]:=by rfl):PI X tg (.Call (.Name "range" p) [a] [] pos) (GX ta):=by
 intro pins s σ H R I h;refine Call_ (dC I hg hm boot_range (PyProof.Rows.callWith_type1 (thn (ha pos pins s σ H _ I h) λus s1 ⟨vs,H1,I1,r1,q1⟩=>?_) hs rfl));obtain ⟨j,e,q1,q2,q⟩:=q1;subst e
 cases r1 with
 | cons r rr =>
  cases rr
  obtain ⟨t,rfl⟩:=r;exact call_range_1 (tF I1 (by lia) (by lia) q1 q2 (by simpa using q))
def tFor (wi:TI) (g:TG) (tb:TS):TS:=λD σ H=>wi σ H λJ H1=>∃ W:Nat->Nat->St->Hp->Prop,(∃ m,W 0 m σ H1)/\∀ i m σ H,W i m σ H ->
 (J.stop i H/\D.nx σ H)\/(J.go i H/\∃ N:St->Hp->Prop,(∀ σ' H',N σ' H'->∃ m',m' < m/\W (i+1) m' σ' H')/\∀ x H',J.yld i H x H'->g x σ H' λσ2 H2=>tb { D with nx:=N,ct:=N,bk:=D.nx } σ2 H2)
def kW (fp:List Addr) (h:Heap):List (Addr×Obj):=fp.filterMap λb=>(h.get? b).map λo=>(b,o)
theorem bJ {fp:List Addr} {h:Heap} {b:Addr} {o:Obj} (hb:b∈fp) (e:h.get? b=some o):(b,o)∈kW fp h:=aAn.mpr ⟨b,hb,by rw [e];rfl⟩
theorem rF {fp:List Addr} {h:Heap} {p:Addr×Obj} (hp:p∈kW fp h):p.1∈fp/\h.get? p.1=some p.2:=by
 obtain ⟨b,hb,e⟩:=aAn.mp hp
 cases q:h.get? b with
 | none=>rw [q] at e;cases e
 | some o =>
  rw [q] at e;have e':(b,o)=p:=Option.some.inj e;subst e';exact ⟨hb,q⟩
theorem Inv.pinned {pins:List (Addr×Obj)} {σ:St} {H:Hp} {s:Shared} {fp:List Addr} (I:Inv X pins σ H s) (hf:∀ b∈fp,dD X pins H b) (ho:∀ b∈fp,∃ o,s.heap.get? b=some o/\∀ v,o.data≠.cell v):Inv X (pins++kW fp s.heap) σ H s :=
 I.pins_of λp hp=>(aAI.mp hp).elim (λz=>I.pin p (aAA _ z)) λz=>by
  obtain ⟨hb,e⟩:=rF z;obtain ⟨f0,f1,f2,_⟩:=hf p.1 hb;obtain ⟨o,e',d⟩:=ho p.1 hb;rw [e] at e';cases e';exact ⟨e,f0,f1,f2,d⟩
theorem Inv.unpinned {pins pl:List (Addr×Obj)} {σ:St} {H:Hp} {s:Shared} (I:Inv X (pins++pl) σ H s):Inv X pins σ H s:=I.pins_of λp hp=>I.pin p (aAA _ (List.mem_append_left _ hp))
theorem ps_for {iter:Expr} {body:List Stmt} {wi:TI} {g:TG} {tb:TS} {pos:Pos} (hp:PassesOwn (model X.prog X.w) X.A X.env X.xe) (hc:X.calm=true) (hi:PI X tg iter wi) (hg:PG X tg g) (hb:PSs X body tb)
  (hs:∀ x,foldedSetIterable iter X.env x=pure x:=by intro _;rfl):PS X (.For tg iter body [] pos) (tFor wi g tb):=by
 intro pins s σ H D I h;refine wpAny_For (thn (hi pins s σ H _ I h) λv s1 h1=>thn h1 λitv s2 h2=>?_) hs;obtain ⟨it,fp,tn,J,H2,e,I2,T,st2,f2,W,⟨m0,w0⟩,turn⟩:=h2;subst e;have stat:∀ {H':Hp},(∀ b∈fp,H' b=none)->∀ b∈fp,dD X pins H' b:=λhn b hb=>⟨hn b hb,(f2 b hb).2⟩;refine codeAny_forLoop_any (λn s'=>∃ i σ' H',Inv X pins σ' H' s'/\tn i s'.heap/\(∀ b∈fp,H' b=none)/\W i n σ' H') ?_ m0 ⟨0,σ,H2,I2,st2,λb hb=>(f2 b hb).1,w0⟩;rintro n s3 ⟨i,σ3,H3,I3,st3,fr3,w3⟩;rcases turn i n σ3 H3 w3 with ⟨stop,qn⟩ | ⟨go,N,hN,step⟩
 ·refine wpAny_passesOwn hp (thn (T.done X rfl rfl rfl hc i pins s3 σ3 H3 X.xe I3 (stat fr3) st3 stop) λr s4 ⟨hr,I4⟩=>?_);subst hr;exact wpAny_execs_nil ⟨σ3,H3,I4,qn⟩
 ·refine wpAny_passesOwn hp (thn (T.item X rfl rfl rfl hc i pins s3 σ3 H3 X.xe I3 (stat fr3) st3 go) λr s4 ⟨u,hr,h4⟩=>?_);subst hr;refine wpAny_passesOwn hp (thn h4 λ_ s5 ⟨x,H5,I5,r5,y5,st5,fr5⟩=>?_);have I5':=I5.pinned (stat fr5) (T.obj _ _ st5);refine wpAny_passesOwn hp (thn (hg _ s5 σ3 H5 x u _ I5' r5 (step x H5 y5)) λ_ s6 ⟨σ6,H6,I6,q6⟩=>?_);refine wpAny_passesOwn hp (thn (hb _ s6 σ6 H6 _ I6 q6) λf s7 q7=>?_);have again:∀ {σ7:St} {H7:Hp},Inv X (pins++kW fp s5.heap) σ7 H7 s7->N σ7 H7->∃ m,m < n/\∃ i σ' H',Inv X pins σ' H' s7/\tn i s7.heap/\(∀ b∈fp,H' b=none)/\W i m σ' H':=λ{σ7 H7} I7 n7=>by
   obtain ⟨m',hm,w7⟩:=hN σ7 H7 n7;refine ⟨m',hm,i+1,σ7,H7,I7.unpinned,T.keep _ _ _ st5 λb hb o e=>(I7.pin (b,o) (aAA _ (aAA _ (bJ hb e)))).1,λb hb=>?_,w7⟩;obtain ⟨o,e,d⟩:=T.obj _ _ st5 b hb;exact (I7.pin (b,o) (aAA _ (aAA _ (bJ hb e)))).2.1
  cases f with
  | next=>obtain ⟨σ7,H7,I7,n7⟩:=q7;exact again I7 n7
  | cont=>obtain ⟨σ7,H7,I7,n7⟩:=q7;exact again I7 n7
  | brk=>obtain ⟨σ7,H7,I7,q7⟩:=q7;exact ⟨σ7,H7,I7.unpinned,q7⟩
  | ret v=>obtain ⟨x7,σ7,H7,I7,r7,q7⟩:=q7;exact ⟨x7,σ7,H7,I7.unpinned,r7,q7⟩
end
theorem mK {K:W.Frag} {a:Addr} {xs:List V} {g:TG} {tb:TS} {D:Ends} {σ:St} {H:Hp} (Pv:Nat->St->Hp->Prop) (h0:Pv 0 σ H) (hl:∀ i σ H,i<=xs.length->Pv i σ H->SqL K H a xs)
  (hs:∀ i x σ H,xs[i]?=some x->Pv i σ H->g x σ H λσ2 H2=>tb { D with nx:=Pv (i+1),ct:=Pv (i+1),bk:=D.nx } σ2 H2) (hd:∀ σ H,Pv xs.length σ H->D.nx σ H) :
  ∃ W:Nat->Nat->St->Hp->Prop,(∃ m,W 0 m σ H)/\∀ i m σ H,W i m σ H ->
   ((Itl K a).stop i H/\D.nx σ H)\/((Itl K a).go i H/\∃ N:St->Hp->Prop,(∀ σ' H',N σ' H'->∃ m',m' < m/\W (i+1) m' σ' H')/\∀ x H',(Itl K a).yld i H x H'->g x σ H' λσ2 H2=>tb { D with nx:=N,ct:=N,bk:=D.nx } σ2 H2):=by
 refine ⟨λi m σ H=>m=xs.length - i/\i<=xs.length/\Pv i σ H,⟨xs.length,by simp,aAF _,h0⟩,?_⟩;rintro i m σ H ⟨rfl,hi,p⟩;have q:=hl i σ H hi p
 by_cases hlt:i < xs.length
 ·refine .inr ⟨⟨xs,xs[i],q,by simp [hlt]⟩,Pv (i+1),λσ' H' p'=>⟨xs.length - (i+1),by lia,rfl,hlt,p'⟩,λx H' y=>?_⟩;obtain ⟨e,y⟩:=y;subst e;exact hs i x σ _ (y xs q) p
 ·have e:i=xs.length:=by lia
  subst e;exact .inl ⟨⟨xs,q,aAo _⟩,hd σ H p⟩
theorem ig {K:W.Frag} {a:Addr} {xs:List V} {g:TG} {tb:TS} {D:Ends} {σ:St} {H:Hp} (Pv:Nat->St->Hp->Prop) (h0:Pv 0 σ H) (hl:∀ i σ H,i<=xs.length->Pv i σ H->SqT K H a xs)
  (hs:∀ i x σ H,xs[i]?=some x->Pv i σ H->g x σ H λσ2 H2=>tb { D with nx:=Pv (i+1),ct:=Pv (i+1),bk:=D.nx } σ2 H2) (hd:∀ σ H,Pv xs.length σ H->D.nx σ H) :
  ∃ W:Nat->Nat->St->Hp->Prop,(∃ m,W 0 m σ H)/\∀ i m σ H,W i m σ H ->
   ((Itt K a).stop i H/\D.nx σ H)\/((Itt K a).go i H/\∃ N:St->Hp->Prop,(∀ σ' H',N σ' H'->∃ m',m' < m/\W (i+1) m' σ' H')/\∀ x H',(Itt K a).yld i H x H'->g x σ H' λσ2 H2=>tb { D with nx:=N,ct:=N,bk:=D.nx } σ2 H2):=by
 refine ⟨λi m σ H=>m=xs.length - i/\i<=xs.length/\Pv i σ H,⟨xs.length,by simp,aAF _,h0⟩,?_⟩;rintro i m σ H ⟨rfl,hi,p⟩;have q:=hl i σ H hi p
 by_cases hlt:i < xs.length
 ·refine .inr ⟨⟨xs,xs[i],q,by simp [hlt]⟩,Pv (i+1),λσ' H' p'=>⟨xs.length - (i+1),by lia,rfl,hlt,p'⟩,λx H' y=>?_⟩;obtain ⟨e,y⟩:=y;subst e;exact hs i x σ _ (y xs q) p
 ·have e:i=xs.length:=by lia
  subst e;exact .inl ⟨⟨xs,q,aAo _⟩,hd σ H p⟩
theorem fY {lo:Int} {n:Nat} {g:TG} {tb:TS} {D:Ends} {σ:St} {H:Hp} (Pv:Nat->St->Hp->Prop) (h0:Pv 0 σ H)
  (hs:∀ i σ H,i < n->Pv i σ H->g (.int (lo+i)) σ H λσ2 H2=>tb { D with nx:=Pv (i+1),ct:=Pv (i+1),bk:=D.nx } σ2 H2) (hd:∀ σ H,Pv n σ H->D.nx σ H) :
  ∃ W:Nat->Nat->St->Hp->Prop,(∃ m,W 0 m σ H)/\∀ i m σ H,W i m σ H ->
   ((Itr lo n).stop i H/\D.nx σ H)\/((Itr lo n).go i H/\∃ N:St->Hp->Prop,(∀ σ' H',N σ' H'->∃ m',m' < m/\W (i+1) m' σ' H')/\∀ x H',(Itr lo n).yld i H x H'->g x σ H' λσ2 H2=>tb { D with nx:=N,ct:=N,bk:=D.nx } σ2 H2):=by
 refine ⟨λi m σ H=>m=n - i/\i<=n/\Pv i σ H,⟨n,by simp,aAF _,h0⟩,?_⟩;rintro i m σ H ⟨rfl,hi,p⟩
 by_cases hlt:i < n
 ·refine .inr ⟨hlt,Pv (i+1),λσ' H' p'=>⟨n - (i+1),by lia,rfl,hlt,p'⟩,λx H' y=>?_⟩;obtain ⟨e,y⟩:=y;subst e y;exact hs i σ _ hlt p
 ·have e:i=n:=by lia
  subst e;exact .inl ⟨aAo _,hd σ H p⟩
abbrev R2:=V->V->Hp->VK->Prop
def OpR (X:Cx) (f:Value->Value->Sem Value) (r:R2):Prop :=
 ∀ (pins:List (Addr×Obj)) (s:Shared) (σ:St) (H:Hp) (x y:V) (v u:Value) (Q:VK),Inv X pins σ H s->RelV x v->RelV y u->r x y H Q ->
  wpAny (model X.prog X.w) X.A (f v u) (EP X pins σ Q) X.xe s
def UnR (X:Cx) (f:Value->Sem Value) (r:V->Hp->VK->Prop):Prop :=
 ∀ (pins:List (Addr×Obj)) (s:Shared) (σ:St) (H:Hp) (x:V) (v:Value) (Q:VK),Inv X pins σ H s->RelV x v->r x H Q ->
  wpAny (model X.prog X.w) X.A (f v) (EP X pins σ Q) X.xe s
def aN (X:Cx) (f:Value) (r:List V->Hp->VK->Prop):Prop :=
 ∀ (pins:List (Addr×Obj)) (s:Shared) (σ:St) (H:Hp) (xs:List V) (us:List Value) (Q:VK),Inv X pins σ H s->Vals xs us->r xs H Q ->
  wpAny (model X.prog X.w) X.A (call f us) (EP X pins σ Q) X.xe s
def tOp (r:R2) (ta tb:TE):TE:=λσ H Q=>ta σ H λx H1=>tb σ H1 λy H2=>r x y H2 Q
def tUn (r:V->Hp->VK->Prop) (ta:TE):TE:=λσ H Q=>ta σ H λx H1=>r x H1 Q
inductive IRI (C:Int->Int->Prop) (g:Int->Int->V) (x y:V) (H:Hp) (Q:VK):Prop
 | mk (i j:Int):(x=.int i)->(y=.int j)->(C i j)->(Q (g i j) H)->IRI C g x y H Q
def rI (C:Int->Int->Prop) (g:Int->Int->V):R2:=λx y H Q=>IRI C g x y H Q
inductive IRI0 (g:Int->Int->V) (x y:V) (H:Hp) (Q:VK):Prop
 | mk (i j:Int):(x=.int i)->(y=.int j)->(Q (g i j) H)->IRI0 g x y H Q
def rI0 (g:Int->Int->V):R2:=λx y H Q=>IRI0 g x y H Q
def rU (g:Int->V):V->Hp->VK->Prop:=λx H Q=>∃ i,x=.int i/\Q (g i) H
section
variable {X:Cx} {a b c:Expr} {ta tb tc:TE} {pos:Pos}
theorem AX (ha:PE X a ta) (hb:PE X b tb) {pins:List (Addr×Obj)} {s:Shared} {σ:St} {H:Hp} {R:V->V->Hp->Prop} (I:Inv X pins σ H s)
  (h:ta σ H λx H1=>tb σ H1 λy H2=>R x y H2) {Q:Value->Shared->Prop} {f:Value->Value->Sem Value}
  (hf:∀ v u s2 x y H2,Inv X pins σ H2 s2->RelV x v->RelV y u->R x y H2->wpAny (model X.prog X.w) X.A (f v u) Q X.xe s2) :
  wpAny (model X.prog X.w) X.A (eval a X.env) (λv s₁=>wpAny (model X.prog X.w) X.A (eval b X.env) (λu s₂=>wpAny (model X.prog X.w) X.A (f v u) Q X.xe s₂) X.xe s₁) X.xe s:=by
 refine thn (ha pins s σ H _ I h) λv s1 ⟨x,H1,I1,r1,q1⟩=>?_;refine thn (hb pins s1 σ H1 _ I1 q1) λu s2 ⟨y,H2,I2,r2,q2⟩=>?_;exact hf v u s2 x y H2 I2 r1 r2 q2
theorem pe_op {op:Operator} {r:R2} (ho:OpR X (binaryOp op) r) (ha:PE X a ta) (hb:PE X b tb):PE X (.BinOp a op b pos) (tOp r ta tb):=by
 intro pins s σ H Q I h;exact wpAny_BinOp (AX ha hb I h λv u s2 x y H2 I2 rx ry q=>ho pins s2 σ H2 x y v u Q I2 rx ry q)
theorem pe_un {op:UnaryOp} {r:V->Hp->VK->Prop} (ho:UnR X (unaryOp op) r) (ha:PE X a ta):PE X (.UnaryOp op a pos) (tUn r ta):=by
 intro pins s σ H Q I h;exact UnaryOp_ (thn (ha pins s σ H _ I h) λv s1 ⟨x,H1,I1,r1,q1⟩=>ho pins s1 σ H1 x v Q I1 r1 q1)
theorem opI {f:Value->Value->Sem Value} {C:Int->Int->Prop} {g:Int->Int->Int}
  (rule:∀ (i j:Int) (t u:Tok) (s:Shared) (Q:Value->Shared->Prop) (E:Value->Shared->Prop),C i j->Q (.int (g i j) s.toks) { s with toks:=s.toks+1 }->wpAny (model X.prog X.w) X.A (f (.int i t) (.int j u)) Q E s) :
  OpR X f (rI C λi j=>.int (g i j)):=by
 intro pins s σ H x y v u Q I rx ry h;obtain ⟨i,j,rfl,rfl,hc,q⟩:=h;obtain ⟨t,rfl⟩:=rx;obtain ⟨t',rfl⟩:=ry;exact rule i j t t' s _ _ hc ⟨.int (g i j),H,I.tok _,⟨_,rfl⟩,q⟩
theorem GY {f:Value->Value->Sem Value} {g:Int->Int->Int}
  (rule:∀ (i j:Int) (t u:Tok) (s:Shared) (Q:Value->Shared->Prop) (E:Value->Shared->Prop),Q (.int (g i j) s.toks) { s with toks:=s.toks+1 }->wpAny (model X.prog X.w) X.A (f (.int i t) (.int j u)) Q E s) :
  OpR X f (rI0 λi j=>.int (g i j)):=by
 intro pins s σ H x y v u Q I rx ry h;obtain ⟨i,j,rfl,rfl,q⟩:=h;obtain ⟨t,rfl⟩:=rx;obtain ⟨t',rfl⟩:=ry;exact rule i j t t' s _ _ ⟨.int (g i j),H,I.tok _,⟨_,rfl⟩,q⟩
theorem AY {f:Value->Value->Sem Value} {g:Int->Int->Bool}
  (rule:∀ (i j:Int) (t u:Tok) (s:Shared) (Q:Value->Shared->Prop) (E:Value->Shared->Prop),Q (.bool (g i j)) s->wpAny (model X.prog X.w) X.A (f (.int i t) (.int j u)) Q E s) :
  OpR X f (rI0 λi j=>.bl (g i j)):=by
 intro pins s σ H x y v u Q I rx ry h;obtain ⟨i,j,rfl,rfl,q⟩:=h;obtain ⟨t,rfl⟩:=rx;obtain ⟨t',rfl⟩:=ry;exact rule i j t t' s _ _ ⟨.bl (g i j),H,I,rfl,q⟩
def Ix (i j:Int):Prop:=0<=j/\j<=1000000/\i.natAbs < 2 ^ 64
def CMul (i j:Int):Prop:=(-(2 ^ 64) < i/\i < 2 ^ 64)\/(-(2 ^ 64) < j/\j < 2 ^ 64)
theorem CMul.ok {i j:Int} (h:CMul i j):IntMulOk i j:=by
 rcases h with ⟨h1,h2⟩ | ⟨h1,h2⟩
 ·exact .of_left (intBits_le_64 h1 h2)
 ·exact .of_right (intBits_le_64 h1 h2)
theorem op_add:OpR X (binaryOp .Add) (rI0 λi j=>.int (i+j)):=GY λ_ _ _ _ _ _ _ q=>add_int q
theorem op_sub:OpR X (binaryOp .Sub) (rI0 λi j=>.int (i - j)):=GY λ_ _ _ _ _ _ _ q=>sub_int q
theorem fZ:OpR X (binaryOp .Mult) (rI CMul λi j=>.int (i*j)):=opI λ_ _ _ _ _ _ _ hc q=>mul_int q hc.ok
theorem dE:OpR X (binaryOp .Mod) (rI (λ_ j=>0 < j) λi j=>.int (i % j)):=opI λi j _ _ _ _ _ hc q=>by
 have h1:(0:Int) < j:=hc;exact mod_int' (by lia) (by rw [Int.fmod_eq_emod_of_nonneg i (by lia)];exact q)
theorem op_pow:OpR X (binaryOp .Pow) (rI Ix λi j=>.int (i ^ j.toNat)):=opI λ_ _ _ _ _ _ _ hc q=>pow_int_small hc.1 hc.2.1 hc.2.2 q
theorem unI {f:Value->Sem Value} {g:Int->Int}
  (rule:∀ (i:Int) (t:Tok) (s:Shared) (Q:Value->Shared->Prop) (E:Value->Shared->Prop),Q (.int (g i) s.toks) { s with toks:=s.toks+1 }->wpAny (model X.prog X.w) X.A (f (.int i t)) Q E s) :
  UnR X f (rU λi=>.int (g i)):=by
 intro pins s σ H x v Q I rx h;obtain ⟨i,rfl,q⟩:=h;obtain ⟨t,rfl⟩:=rx;exact rule i t s _ _ ⟨.int (g i),H,I.tok _,⟨_,rfl⟩,q⟩
theorem un_neg:UnR X (unaryOp .USub) (rU λi=>.int (-i)):=unI λ_ _ _ _ _ q=>neg_int q
end
def AZ:V->V->Bool
 | .non,.non=>true | .non,.int _=>true | .int _,.non=>true | .non,.bl _=>true | .bl _,.non=>true | .non,.str _=>true | .str _,.non=>true
 | .int _,.int _=>true | .bl _,.bl _=>true | .str _,.str _=>true | .byt _,.byt _=>true
 | .int _,.str _=>true | .str _,.int _=>true | .bl _,.str _=>true | .str _,.bl _=>true
 | _,_=>false
def rEq:R2:=λx y H Q=>AZ x y=true/\Q (.bl (decide (x=y))) H
def rNe:R2:=λx y H Q=>AZ x y=true/\Q (.bl (!decide (x=y))) H
theorem qC {i j:Int}:decide (V.int i=V.int j)=(i == j):=by
 rw [aAU];simp
theorem tG {i j:Bool}:decide (V.bl i=V.bl j)=(i == j):=by
 rw [aAU];simp
theorem qD {i j:Str}:decide (V.str i=V.str j)=(i == j):=by
 rw [aAU];simp
theorem qE {i j:Array UInt8}:decide (V.byt i=V.byt j)=(i.toList == j.toList):=by
 rw [aAU]
 cases i
 cases j
 simp
section
variable {X:Cx} {a b c:Expr} {ta tb tc:TE} {pos:Pos}
theorem ax {pins:List (Addr×Obj)} {σ:St} {H:Hp} {s:Shared} {Q:VK} {k k':Bool} (I:Inv X pins σ H s) (q:Q (.bl k) H) (e:k=k'):EP X pins σ Q (.bool k') s:=by
 subst e;exact ⟨.bl k,H,I,rfl,q⟩
theorem op_eq:OpR X (compareOp .Eq) rEq:=by
 intro pins s σ H x y v u Q I rx ry h;obtain ⟨hs,q⟩:=h
 cases x with
 | non =>
  cases rx
  cases y with
  | non=>cases ry;exact PySem.EqNone.eq_none_none (ax I q (by simp))
  | bl j=>cases ry;exact PySem.EqNone.eq_none_bool (ax I q (by simp))
  | int j=>obtain ⟨t',rfl⟩:=ry;exact PySem.EqNone.eq_none_int (ax I q (by simp))
  | str j=>obtain ⟨t',rfl⟩:=ry;exact PySem.EqNone.eq_none_str (ax I q (by simp))
  | _=>exact absurd (show false=true from hs) aAq
 | bl i =>
  cases rx
  cases y with
  | non=>cases ry;exact PySem.EqNone.eq_bool_none (ax I q (by simp))
  | bl j=>cases ry;exact eq_bool (ax I q tG)
  | str j=>obtain ⟨t',rfl⟩:=ry;exact PySem.EqMixed.eq_bool_str (ax I q (by simp))
  | _=>exact absurd (show false=true from hs) aAq
 | int i =>
  obtain ⟨t,rfl⟩:=rx
  cases y with
  | non=>cases ry;exact PySem.EqNone.eq_int_none (ax I q (by simp))
  | int j=>obtain ⟨t',rfl⟩:=ry;exact eq_int (ax I q qC)
  | str j=>obtain ⟨t',rfl⟩:=ry;exact PySem.EqMixed.eq_int_str (ax I q (by simp))
  | _=>exact absurd (show false=true from hs) aAq
 | str i =>
  obtain ⟨t,rfl⟩:=rx
  cases y with
  | non=>cases ry;exact PySem.EqNone.eq_str_none (ax I q (by simp))
  | bl j=>cases ry;exact PySem.EqMixed.eq_str_bool (ax I q (by simp))
  | int j=>obtain ⟨t',rfl⟩:=ry;exact PySem.EqMixed.eq_str_int (ax I q (by simp))
  | str j=>obtain ⟨t',rfl⟩:=ry;exact eq_str (ax I q qD)
  | _=>exact absurd (show false=true from hs) aAq
 | byt i =>
  obtain ⟨t,rfl⟩:=rx
  cases y with
  | byt j=>obtain ⟨t',rfl⟩:=ry;exact W.eq_bytes (ax I q qE)
  | _=>exact absurd (show false=true from hs) aAq
 | _=>cases y <;> exact absurd (show false=true from hs) aAq
theorem op_ne:OpR X (compareOp .NotEq) rNe:=by
 intro pins s σ H x y v u Q I rx ry h;obtain ⟨hs,q⟩:=h
 cases x with
 | non =>
  cases rx
  cases y with
  | non=>cases ry;exact PySem.EqNone.ne_none_none (ax I q (by simp))
  | bl j=>cases ry;exact PySem.EqNone.ne_none_bool (ax I q (by simp))
  | int j=>obtain ⟨t',rfl⟩:=ry;exact PySem.EqNone.ne_none_int (ax I q (by simp))
  | str j=>obtain ⟨t',rfl⟩:=ry;exact PySem.EqNone.ne_none_str (ax I q (by simp))
  | _=>exact absurd (show false=true from hs) aAq
 | bl i =>
  cases rx
  cases y with
  | non=>cases ry;exact PySem.EqNone.ne_bool_none (ax I q (by simp))
  | bl j=>cases ry;exact ne_bool (ax I q (congrArg not tG))
  | str j=>obtain ⟨t',rfl⟩:=ry;exact PySem.EqMixed.ne_bool_str (ax I q (by simp))
  | _=>exact absurd (show false=true from hs) aAq
 | int i =>
  obtain ⟨t,rfl⟩:=rx
  cases y with
  | non=>cases ry;exact PySem.EqNone.ne_int_none (ax I q (by simp))
  | int j=>obtain ⟨t',rfl⟩:=ry;exact ne_int (ax I q (congrArg not qC))
  | str j=>obtain ⟨t',rfl⟩:=ry;exact PySem.EqMixed.ne_int_str (ax I q (by simp))
  | _=>exact absurd (show false=true from hs) aAq
 | str i =>
  obtain ⟨t,rfl⟩:=rx
  cases y with
  | non=>cases ry;exact PySem.EqNone.ne_str_none (ax I q (by simp))
  | bl j=>cases ry;exact PySem.EqMixed.ne_str_bool (ax I q (by simp))
  | int j=>obtain ⟨t',rfl⟩:=ry;exact PySem.EqMixed.ne_str_int (ax I q (by simp))
  | str j=>obtain ⟨t',rfl⟩:=ry;exact ne_str (ax I q (congrArg not qD))
  | _=>exact absurd (show false=true from hs) aAq
 | byt i =>
  obtain ⟨t,rfl⟩:=rx
  cases y with
  | byt j=>obtain ⟨t',rfl⟩:=ry;exact W.ne_bytes (ax I q (congrArg not qE))
  | _=>exact absurd (show false=true from hs) aAq
 | _=>cases y <;> exact absurd (show false=true from hs) aAq
theorem op_le:OpR X (compareOp .LtE) (rI0 λi j=>.bl (decide (i<=j))):=AY λ_ _ _ _ _ _ _ q=>le_int q
theorem op_gt:OpR X (compareOp .Gt) (rI0 λi j=>.bl (decide (j < i))):=AY λ_ _ _ _ _ _ _ q=>gt_int q
theorem GZ:OpR X (compareOp .GtE) (rI0 λi j=>.bl (decide (j<=i))):=AY λ_ _ _ _ _ _ _ q=>ge_int q
theorem rG:OpR X (compareOp .Lt) (λx y H Q=>∃ i j,x=.str i/\y=.str j/\Q (.bl (decide (i.cps.toList < j.cps.toList))) H):=by
 intro pins s σ H x y v u Q I rx ry h;obtain ⟨i,j,rfl,rfl,q⟩:=h;obtain ⟨t,rfl⟩:=rx;obtain ⟨t',rfl⟩:=ry;exact lt_str (ax I q rfl)
theorem rH:OpR X (compareOp .In) (λx y H Q=>∃ i j,x=.str i/\y=.str j/\Q (.bl (!(Builtin.Str.occurrences j i 0 j.length 1).isEmpty)) H):=by
 intro pins s σ H x y v u Q I rx ry h;obtain ⟨i,j,rfl,rfl,q⟩:=h;obtain ⟨t,rfl⟩:=rx;obtain ⟨t',rfl⟩:=ry;exact in_str (ax I q rfl)
theorem op_isN:OpR X (compareOp .Is) (λx y H Q=>y=.non/\Q (.bl (decide (x=.non))) H):=by
 intro pins s σ H x y v u Q I rx ry h;obtain ⟨rfl,q⟩:=h
 cases ry
 refine is_none_gen (ax I q ?_)
 cases x <;> first
  | (cases rx;rfl)
  | (obtain ⟨t,rfl⟩:=rx;rfl)
theorem op_notN:OpR X (compareOp .IsNot) (λx y H Q=>y=.non/\Q (.bl (!decide (x=.non))) H):=by
 intro pins s σ H x y v u Q I rx ry h;obtain ⟨rfl,q⟩:=h
 cases ry
 refine isnot_none_gen (ax I q ?_)
 cases x <;> first
  | (cases rx;rfl)
  | (obtain ⟨t,rfl⟩:=rx;rfl)
theorem nomark (b:Expr) {op:CmpOp} (h:op≠.In:=by decide) (h2:op≠.NotIn:=by decide):behindInMarks op b=false:=by
 have e1:(op == CmpOp.In)=false:=by cases op <;> first | rfl | exact absurd rfl h
 have e2:(op == CmpOp.NotIn)=false:=by cases op <;> first | rfl | exact absurd rfl h2
 cases b <;> simp [behindInMarks,e1,e2]
theorem pe_cmpR {op:CmpOp} {r:R2} (ho:OpR X (compareOp op) r) (ha:PE X a ta) (hb:PE X b tb) (hm:behindInMarks op b=false):PE X (.Compare a [op] [b] pos) (tOp r ta tb):=by
 intro pins s σ H Q I h;exact wpAny_Compare1 (AX ha hb I h λv u s2 x y H2 I2 rx ry q=>ho pins s2 σ H2 x y v u Q I2 rx ry q) hm
inductive IBl (x:V) (H':Hp) (Q:Bool->Hp->Prop):Prop
 | mk (k:Bool):(x=.bl k)->(Q k H')->IBl x H' Q
def iA (t:TE):TT:=λσ H Q=>t σ H λx H'=>IBl x H' Q
theorem pt_cmpR {op:CmpOp} {r:R2} (ho:OpR X (compareOp op) r) (ha:PE X a ta) (hb:PE X b tb) (hm:behindInMarks op b=false):PT X (.Compare a [op] [b] pos) (iA (tOp r ta tb)):=by
 intro pins s σ H Q I h;refine wpAny_isTrue_Compare1 (thn (ha pins s σ H _ I h) λv s1 ⟨x,H1,I1,r1,q1⟩=>thn (hb pins s1 σ H1 _ I1 q1) λu s2 ⟨y,H2,I2,r2,q2⟩ =>
  thn (ho pins s2 σ H2 x y v u _ I2 r1 r2 q2) λc s3 ⟨z,H3,I3,r3,k,e,q3⟩=>?_) hm
 subst e
 cases r3
 exact wpAny_truthy_bool ⟨H3,I3,q3⟩
def tH (r r':R2) (ta tb tc:TE):TE:=λσ H Q=>ta σ H λx H1=>tb σ H1 λy H2=>r x y H2 λz H3=>∃ k,z=.bl k /\
 (if k=true then tc σ H3 λw' H4=>r' y w' H4 Q else Q (.bl false) H3)
theorem mL {op op':CmpOp} {r r':R2} (ho:OpR X (compareOp op) r) (ho':OpR X (compareOp op') r') (ha:PE X a ta) (hb:PE X b tb) (hc:PE X c tc)
  (hm:lastMarks [op,op'] [b,c]=false:=by with_unfolding_all rfl):PE X (.Compare a [op,op'] [b,c] pos) (tH r r' ta tb tc):=by
 intro pins s σ H Q I h;refine Compare_chain (thn (ha pins s σ H _ I h) λv s1 ⟨x,H1,I1,r1,q1⟩=>chain_link (thn (hb pins s1 σ H1 _ I1 q1) λu s2 ⟨y,H2,I2,r2,q2⟩ =>
  thn (ho pins s2 σ H2 x y v u _ I2 r1 r2 q2) λd s3 ⟨z,H3,I3,r3,k,e,q3⟩=>?_)) hm
 subst e
 cases r3
 refine wpAny_truthy_bool ?_
 cases k with
 | false=>exact ite_ff ⟨.bl false,H3,I3,rfl,q3⟩
 | true=>exact ite_tt (chain_last (thn (hc pins s3 σ H3 _ I3 q3) λw' s4 ⟨z',H4,I4,r4,q4⟩=>ho' pins s4 σ H4 y z' u w' Q I4 r2 r4 q4))
theorem pt_chain {op op':CmpOp} {r r':R2} (ho:OpR X (compareOp op) r) (ho':OpR X (compareOp op') r') (ha:PE X a ta) (hb:PE X b tb) (hc:PE X c tc)
  (hm:lastMarks [op,op'] [b,c]=false:=by with_unfolding_all rfl):PT X (.Compare a [op,op'] [b,c] pos) (iA (tH r r' ta tb tc)):=by
 intro pins s σ H Q I h;refine isTrue_chain (thn (ha pins s σ H _ I h) λv s1 ⟨x,H1,I1,r1,q1⟩=>test_link (thn (hb pins s1 σ H1 _ I1 q1) λu s2 ⟨y,H2,I2,r2,q2⟩ =>
  thn (ho pins s2 σ H2 x y v u _ I2 r1 r2 q2) λd s3 ⟨z,H3,I3,r3,k,e,q3⟩=>?_)) hm
 subst e
 cases r3
 refine wpAny_truthy_bool ?_
 cases k with
 | false =>
  obtain ⟨k',e',q'⟩:=q3
  cases e'
  exact ite_ff ⟨H3,I3,q'⟩
 | true =>
  refine ite_tt (test_last (thn (hc pins s3 σ H3 _ I3 q3) λw' s4 ⟨z',H4,I4,r4,q4⟩=>thn (ho' pins s4 σ H4 y z' u w' _ I4 r2 r4 q4) λd' s5 ⟨z2,H5,I5,r5,k2,e2,q5⟩=>?_));subst e2
  cases r5
  exact wpAny_truthy_bool ⟨H5,I5,q5⟩
theorem iB:(sizeLine:Nat) < 2 ^ 63:=by rw [sizeLine_eq];decide
theorem cc {x:V} {us:List Value} (r:Vals [x] us):∃ u,us=[u]/\RelV x u:=by
 cases r with
 | cons r1 r2=>cases r2;exact ⟨_,rfl,r1⟩
theorem mM {x y:V} {us:List Value} (r:Vals [x,y] us):∃ u w',us=[u,w']/\RelV x u/\RelV y w':=by
 cases r with
 | cons r1 r2 =>
  cases r2 with
  | cons r3 r4=>cases r4;exact ⟨_,_,rfl,r1,r3⟩
theorem rJ (hc:X.calm=true):aN X (.builtin "max") (λxs H Q=>∃ i j,xs=[.int i,.int j]/\Q (.int (if j > i then j else i)) H):=by
 intro pins s σ H xs us Q I r h;obtain ⟨i,j,rfl,q⟩:=h;obtain ⟨u,w',rfl,⟨t,rfl⟩,⟨t',rfl⟩⟩:=mM r;refine max_two_ints (I.ok.hd hc) λh' tk k=>⟨_,H,I.kept k,?_,q⟩
 by_cases hj:j > i
 ·rw [if_pos hj,if_pos hj];exact ⟨_,rfl⟩
 ·rw [if_neg hj,if_neg hj];exact ⟨_,rfl⟩
theorem call_min2 (hc:X.calm=true):aN X (.builtin "min") (λxs H Q=>∃ i j,xs=[.int i,.int j]/\Q (.int (if j < i then j else i)) H):=by
 intro pins s σ H xs us Q I r h;obtain ⟨i,j,rfl,q⟩:=h;obtain ⟨u,w',rfl,⟨t,rfl⟩,⟨t',rfl⟩⟩:=mM r;refine min_two_ints (I.ok.hd hc) λh' tk k=>⟨_,H,I.kept k,?_,q⟩
 by_cases hj:j < i
 ·rw [if_pos hj,if_pos hj];exact ⟨_,rfl⟩
 ·rw [if_neg hj,if_neg hj];exact ⟨_,rfl⟩
theorem kX:aN X (.type "str") (λxs H Q=>∃ i,xs=[.int i]/\i.natAbs.log2 < 1920/\Q (.str (toString i)) H):=by
 intro pins s σ H xs us Q I r h;obtain ⟨i,rfl,hz,q⟩:=h;obtain ⟨u,rfl,t,rfl⟩:=cc r;exact PySem.P.str_of_int hz ⟨.str _,H,I.tok _,⟨_,rfl⟩,q⟩
theorem tI:aN X (.builtin "ord") (λxs H Q=>∃ x,xs=[.str x]/\x.length=1/\Q (.int (x.cps.getD 0 0:Nat)) H):=by
 intro pins s σ H xs us Q I r h;obtain ⟨x,rfl,hz,q⟩:=h;obtain ⟨u,rfl,t,rfl⟩:=cc r;exact ord_of_one hz ⟨.int _,H,I.tok _,⟨_,rfl⟩,q⟩
end
structure ObjM (h:Heap) (x dx C:Addr) (mA:Str->Option Value):Prop where
 obj:h.get? x=some (W.instObj C dx)
 ns:h.Ns1 dx mA
 ne:dx≠x
section
variable {prog:Program} {w:World} {A:Around} {E:Value->Shared->Prop} {s:Shared} {K:W.Frag} {x dx C f:Addr} {mA:Str->Option Value} {name:Str} {v:Value}
end
theorem RelO.some_of {v:V} {o:Option Value} (r:RelO (some v) o):∃ u,o=some u/\RelV v u:=by
 cases o with
 | none=>exact (show False from r).elim
 | some u=>exact ⟨u,rfl,r⟩
section
variable {P:Program} {w:World} {H H':Hp} {h h':Heap} {a C dx:Addr} {fs fs':List (Str×V)}
end
structure Cls (K:W.Frag) (C:Addr):Prop where
 pg:W.plainGet K C Str.empty=true
 hd:W.hasDictIn K C=true
 po:W.plainOver K C=true
 sa:W.findIn K (.ref C) "__setattr__" = some (some (.builtin "object.__setattr__"))
section
variable {X:Cx} {pins:List (Addr×Obj)} {σ:St} {H:Hp} {s:Shared} {a C dx:Addr} {fs:List (Str×V)} {f:Str} {v:V} {A:Around} {E:Value->Shared->Prop}
end
section
variable {X:Cx} {o e value:Expr} {f:Str} {pos pos' tpos:Pos} {ta tv:TE}
end
section
variable {X:Cx} {pins:List (Addr×Obj)} {σ:St} {H:Hp} {s:Shared} {A:Around} {E:Value->Shared->Prop} {Q:Value->Shared->Prop} {c:Value} {b:Bool}
end
structure Room (k:Nat) (A:Around):Prop where
 hd:A.handled=none
 dp:A.depth+3*k+5 < recursionLimit
 un:A.units+16*k+200 < cLine
theorem Room.mono {j k:Nat} {A:Around} (r:Room k A) (h:j<=k):Room j A:=⟨r.hd,by have:=r.dp;lia,by have:=r.un;lia⟩
theorem Room.deeper {k:Nat} {A:Around} (r:Room (k+1) A) (env:Env):Room k (A.deeper env) :=
 ⟨r.hd,by have:=r.dp;show A.depth+1+3*k+5 < _;lia,by have:=r.un;show A.units+3+16*k+200 < _;lia⟩
theorem Room.depth {k:Nat} {A:Around} (r:Room k A):A.depth < recursionLimit:=by have:=r.dp;lia
theorem Room.units {k:Nat} {A:Around} (r:Room k A):A.units+64 < cLine:=by have:=r.un;lia
def iC:TA:=λ_ H Q=>Q [] H
def bV (ta:TE) (tr:TA):TA:=λσ H Q=>ta σ H λx H1=>tr σ H1 λxs H2=>Q (x :: xs) H2
section
variable {X:Cx} {e:Expr} {es:List Expr} {te:TE} {t:TA} {pos:Pos}
theorem cW:PA X [] iC:=λ_ _ _ _ H Q I h=>Calls.spliced_nil ⟨[],H,I,.nil,h⟩
theorem pa_cons (ha:PE X e te) (hr:PA X es t) (hs:starEach (e :: es) X.env=(false,eval e X.env) :: starEach es X.env:=by rfl):PA X (e :: es) (bV te t):=by
 intro pos pins s σ H Q I h;rw [hs];show wpAny _ _ (spliced ((false,eval e X.env) :: backTo pos (starEach es X.env))) _ _ s;refine Calls.spliced_cons (thn (ha pins s σ H _ I h) λu s1 ⟨x,H1,I1,r1,q1⟩=>?_);exact thn (hr pos pins s1 σ H1 _ I1 q1) λus s2 ⟨xs,H2,I2,r2,q2⟩=>⟨x :: xs,H2,I2,.cons r1 r2,q2⟩
def kY (t:TA):TE:=λσ H Q=>t σ H λxs H1=>xs.length<=sizeLine/\∀ p,H1 p=none->Q (.ref p) (upd H1 p (.lst xs))
theorem ao (h:PA X es t):PE X (.List es pos) (kY t):=by
 intro pins s σ H Q I hq;refine wpAny_List_spliced (thn (h pos pins s σ H _ I hq) λus s1 ⟨xs,H1,I1,r,z,q⟩=>⟨by rw [<- r.length];exact z,?_⟩);have hf:H1 s1.heap.objs.size=none:=I1.hok.fresh (aAo _);refine ⟨.ref s1.heap.objs.size,upd H1 s1.heap.objs.size (.lst xs),I1.laid (t':=s1.toks) (λb u e=>aAa _ e) (aAo _) ?_,rfl,q _ hf⟩;exact ⟨z,us,0,r,aAf _ rfl⟩
end
abbrev Sp:=List V->Hp->VK->XK->Prop
abbrev CXT:=List Env->Hp->Shared->XK->Value->Shared->Prop
structure Env0 (P:Program) (w:World) (K:W.Frag) (mg:Str->Option Value) (base:Heap) (A:Around) (outer:List Env) (s:Shared) (H:Hp):Prop where
 frames:A.frames=some outer
 mod:Mod K mg base
 bs:∀ b o,base.get? b=some o->s.heap.get? b=some o/\H b=none
 bsz:base.objs.size<=s.heap.objs.size
 funs:s.heap.FunFrames base outer
 frf:∀ b∈frs outer,H b=none
 hok:HOk P w H s.heap
 bare:AllBare s.gens
def CE (outer:List Env) (P:Program) (w:World) (H:Hp) (s:Shared) (Q:VK) (u:Value) (s':Shared):Prop :=
 ∃ v H',s'.os=s.os/\AllBare s'.gens/\Un (frs outer) [] H H' s.heap s'.heap/\HOk P w H' s'.heap/\RelV v u/\Q v H'
def CR (CX:CXT) (outer:List Env) (P:Program) (w:World) (H:Hp) (s:Shared) (Q:VK) (E:XK) (r:Result) (s':Shared):Prop :=
 match r with
 | .ok (.ret u)=>CE outer P w H s Q u s'
 | .ok _=>False
 | .error e=>CX outer H s E e s'
structure FnOk (P:Program) (w:World) (K:W.Frag) (mg:Str->Option Value) (base:Heap) (CX:CXT) (k:Nat) (f:Addr) (fd:FuncData) (ps:List Str) (sp:Sp):Prop where
 len:∀ vs H Q E,sp vs H Q E->vs.length=ps.length
 run:∀ (A:Around) (outer:List Env) (s:Shared) (H:Hp) (args:Args) (us:List Value) (vs:List V) (Q:VK) (E:XK),Room k A->Env0 P w K mg base A outer s H->BindsTo s fd args (ps.zip us)->Vals vs us->sp vs H Q E ->
  codeAny (model P w) A (.call (.ref f) args) (CR CX outer P w H s Q E) s
theorem FnOk.imp {P:Program} {w:World} {K:W.Frag} {mg:Str->Option Value} {base:Heap} {CX:CXT} {k:Nat} {f:Addr} {fd:FuncData} {ps:List Str} {sp sp':Sp} (F:FnOk P w K mg base CX k f fd ps sp)
  (h:∀ vs H Q E,sp' vs H Q E->sp vs H Q E):FnOk P w K mg base CX k f fd ps sp' :=
 ⟨λvs H Q E q=>F.len vs H Q E (h _ _ _ _ q),λA outer s H args us vs Q E hr he hb hv hs=>F.run A outer s H args us vs Q E hr he hb hv (h _ _ _ _ hs)⟩
section
variable {X:Cx} {pins:List (Addr×Obj)} {σ:St} {H:Hp} {s s':Shared}
theorem Inv.env0 (I:Inv X pins σ H s):Env0 X.prog X.w X.K X.mg X.base X.A X.stack s H :=
 ⟨I.ok.frames,I.ok.mod,I.bs,aAx I.ok.bsz I.sz,I.stack,I.stkFree,I.hok,I.bare⟩
theorem Inv.after {Q:VK} {u:Value} (I:Inv X pins σ H s) (h:CE X.stack X.prog X.w H s Q u s'):EP X pins σ Q u s':=by
 obtain ⟨v,H',os,bare,un,hok,r,q⟩:=h;obtain ⟨hh,g,d,t,os'⟩:=s';obtain rfl:os'=s.os:=os;exact ⟨v,H',I.call (h':=hh) (g':=g) (d':=d) (t':=t) (ch:=[]) un hok bare (λb z=>absurd z (by simp)),r,q⟩
end
def tJ (sp:Sp) (dvs:List V) (E:XK) (t:TA):TE:=λσ H Q=>t σ H λvs H1=>sp (vs++dvs) H1 Q E
def Binds (K:W.Frag) (fd:FuncData) (ps:List Str) (ds:List Value):Prop :=
 ∀ (s:Shared) (us:List Value),K.In s.heap->(us++ds).length=ps.length->BindsTo s fd ⟨us,[]⟩ (ps.zip (us++ds))
theorem Binds.all {K:W.Frag} {fd:FuncData} {ps:List Str} (h:∀ us:List Value,us.length=ps.length->bindArgs fd ⟨us,[]⟩=pure (ps.zip us)):Binds K fd ps []:=λs us _ hl=>by
 rw [aA4] at hl ⊢;exact .of_eq (h us hl)
def f9 (CX:CXT) (X:Cx) (E:XK):Prop:=∀ (pins:List (Addr×Obj)) (σ:St) (H:Hp) (s:Shared) (e:Value) (s':Shared),Inv X pins σ H s->CX X.stack H s E e s'->X.xe e s'
section
variable {X:Cx} {CX:CXT} {k:Nat} {f C:Addr} {fd:FuncData} {ps:List Str} {sp:Sp} {dvs:List V} {ds:List Value} {E:XK} {x m:Str} {p pos apos:Pos} {e o:Expr} {es:List Expr} {ta:TE} {t:TA}
theorem tK {pins:List (Addr×Obj)} {σ:St} {H:Hp} {s:Shared} {Q:VK} {us:List Value} {vs:List V} (F:FnOk X.prog X.w X.K X.mg X.base CX k f fd ps sp) (hr:Room k X.A) (hb:Binds X.K fd ps ds) (hd:Vals dvs ds) (hx:f9 CX X E)
  (I:Inv X pins σ H s) (r:Vals vs us) (h:sp (vs++dvs) H Q E):wpAny (model X.prog X.w) X.A (call (.ref f) us) (EP X pins σ Q) X.xe s:=by
 have r2:Vals (vs++dvs) (us++ds):=r.append hd;have hl:(us++ds).length=ps.length:=by rw [<- r2.length];exact F.len _ _ _ _ h
 refine wpAny_call (codeAny_mono (F.run X.A X.stack s H ⟨us,[]⟩ (us++ds) (vs++dvs) Q E hr I.env0 (hb s us I.kIn hl) r2 h) λr s' hq=>?_)
 cases r with
 | error e=>exact hx pins σ H s e s' I hq
 | ok fl =>
  cases fl with
  | ret u=>exact I.after hq
  | next=>exact False.elim hq
  | brk=>exact False.elim hq
  | cont=>exact False.elim hq
theorem pe_call (F:FnOk X.prog X.w X.K X.mg X.base CX k f fd ps sp) (hr:Room k X.A) (hg:Gl X x) (hm:X.mg x=some (.ref f)) (hk:W.keepIn X.K (.ref f)=true) (hb:Binds X.K fd ps ds) (hd:Vals dvs ds) (hx:f9 CX X E)
  (ha:PA X (e :: es) t) (hdb:(x == ("__debug__" : Str))=false:=by decide) (he:starEach (e :: es) X.env=(false,eval e X.env) :: starEach es X.env:=by rfl) (hpl:(backTo pos (starEach es X.env)).any (·.1)=false:=by rfl) :
  PE X (.Call (.Name x p) (e :: es) [] pos) (tJ sp dvs E t):=by
 intro pins s σ H Q I h;refine wpAny_Call_Name_kw (aU I hg hm ?_ hdb);refine W.callWith_K (h₀:=X.base) I.ok.mod.kin hk (thn (ha pos pins s σ H _ I h) λus s1 ⟨vs,H1,I1,r,q⟩=>⟨I1.kIn,?_⟩) he hpl;exact tK F hr hb hd hx I1 r q
theorem mO (F:FnOk X.prog X.w X.K X.mg X.base CX k f fd ps sp) (hr:Room k X.A) (hg:Gl X x) (hm:X.mg x=some (.ref f)) (hk:W.keepIn X.K (.ref f)=true) (hb:Binds X.K fd ps ds) (hd:Vals dvs ds) (hx:f9 CX X E)
  (hdb:(x == ("__debug__" : Str))=false:=by decide):PE X (.Call (.Name x p) [] [] pos) (tJ sp dvs E iC):=by
 intro pins s σ H Q I h;refine wpAny_Call_Name_kw (aU I hg hm ?_ hdb);exact W.callWith_K0 I.kIn hk (tK (us:=[]) F hr hb hd hx I .nil h)
end
section
variable {X:Cx} {CX:CXT} {k:Nat} {f C:Addr} {fd:FuncData} {ps ks:List Str} {sp:Sp} {E:XK} {x m:Str} {p pos apos kpos:Pos} {e o:Expr} {es:List Expr} {kws:List Keyword} {te ta:TE} {t tk:TA} {nm:Option Str}
variable {g:List Value->List Value->List Value} {gV:List V->List V->List V}
end
structure FnScope (N P:List Str) (sc:Scope):Prop where
 kind:sc.kind=.function
 co:sc.isCoroutine=false
 gen:sc.isGenerator=false
 nd:N.Nodup
 pre:N.take P.length=P
 par:∀ x∈P,sc.names.lookup x=some .local\/sc.names.lookup x=some .cell
 nofree:∀ y∈sc.names,y.2≠.free
theorem kg {kindOf:Str->Option NameKind} {x:Str}:∀ {binds:List (Str×Value)} {m:Str->Option Value},(∀ v,(x,v)∉binds)->bindL kindOf binds m x=m x
 | [],_,_=>rfl
 | (n,v) :: r,m,h=>by
  unfold bindL;rw [kg λw hw=>h w (aAj _ hw)]
  split
  ·have:x≠n:=by rintro rfl;exact h v aAh
   simp [this]
  ·rfl
theorem kh {kindOf:Str->Option NameKind} {x:Str}:∀ {binds:List (Str×Value)} {m:Str->Option Value},(∀ v,(x,v)∉binds)->bindC kindOf binds m x=m x
 | [],_,_=>rfl
 | (n,v) :: r,m,h=>by
  unfold bindC;rw [kh λw hw=>h w (aAj _ hw)]
  split
  ·rfl
  ·have:x≠n:=by rintro rfl;exact h v aAh
   simp [this]
theorem ki {kindOf:Str->Option NameKind} {x:Str} {v:Value}:∀ {P:List Str} {vs:List Value} {i:Nat} {m:Str->Option Value},P.Nodup->P[i]?=some x->vs[i]?=some v->kindOf x=some .local ->
  bindL kindOf (P.zip vs) m x=some v
 | [],_,_,_,_,h,_,_=>by simp at h
 | _ :: _,[],_,_,_,_,h,_=>by simp at h
 | p :: P,w :: vs,0,m,nd,h1,h2,hk=>by
  simp at h1 h2;subst h1;subst h2;show bindL kindOf ((p,w) :: P.zip vs) m p=_;unfold bindL;rw [kg λv hv=>(aBb.mp nd).1 (aBN hv).1,if_pos hk];simp
 | p :: P,w :: vs,i+1,m,nd,h1,h2,hk=>by
  show bindL kindOf ((p,w) :: P.zip vs) m x=_;unfold bindL;exact ki (i:=i) (aBb.mp nd).2 (by simpa using h1) (by simpa using h2) hk
theorem kj {kindOf:Str->Option NameKind} {x:Str} {v:Value}:∀ {P:List Str} {vs:List Value} {i:Nat} {m:Str->Option Value},P.Nodup->P[i]?=some x->vs[i]?=some v->kindOf x≠some .local ->
  bindC kindOf (P.zip vs) m x=some v
 | [],_,_,_,_,h,_,_=>by simp at h
 | _ :: _,[],_,_,_,_,h,_=>by simp at h
 | p :: P,w :: vs,0,m,nd,h1,h2,hk=>by
  simp at h1 h2;subst h1;subst h2;show bindC kindOf ((p,w) :: P.zip vs) m p=_;unfold bindC;rw [kh λv hv=>(aBb.mp nd).1 (aBN hv).1,if_neg hk];simp
 | p :: P,w :: vs,i+1,m,nd,h1,h2,hk=>by
  show bindC kindOf ((p,w) :: P.zip vs) m x=_;unfold bindC;exact kj (i:=i) (aBb.mp nd).2 (by simpa using h1) (by simpa using h2) hk
def dF (N:List Str) (vs:List V):St:=vs.map some++List.replicate (N.length - vs.length) none
def gQ (CX:CXT) (P:Program) (w:World) (K:W.Frag) (mg:Str->Option Value) (base:Heap) (N:List Str) (qual:Str) (scope:Scope) (f:Addr) (cd:Value) (A:Around) (outer:List Env) (s:Shared) (H:Hp) (E:XK):Cx where
 prog:=P
 w:=w
 K:=K
 mg:=mg
 base:=base
 A:=A.deeper (envOfC qual scope s.heap.objs.size f cd)
 N:=N
 s₀:=s
 H₀:=H
 env:=envOfC qual scope s.heap.objs.size f cd
 outer:=outer
 stack:=envOfC qual scope s.heap.objs.size f cd :: outer
 ex:=[]
 calm:=true
 fn:=λ_=>true
 pn:=[]
 xe:=λe s'=>wpAny (model P w) (A.deeper (envOfC qual scope s.heap.objs.size f cd)) (leaving (envOfC qual scope s.heap.objs.size f cd) e) (λ_ s''=>CX outer H s E e s'') (λe' s''=>CX outer H s E e' s'') s'
theorem mP {sc:Scope} {n:Nat} {x:Str} (h:sc.names.lookup x=some .cell):∃ c,(cellsFrom n sc.names []).lookup x=some c:=by
 have q:=W.cellsFrom_some sc.names n [] (.inl h);exact aBG.mp q
theorem rK {CX:CXT} {P:Program} {w:World} {K:W.Frag} {mg:Str->Option Value} {base:Heap} {N ps:List Str} {qual:Str} {scope:Scope} {f:Addr} {cd:Value} {A:Around} {outer:List Env} {s s1:Shared} {H:Hp} {E:XK} {us:List Value} {vs:List V}
  (S:FnScope N ps scope) (hd:A.handled=none) (e0:Env0 P w K mg base A outer s H) (hl:vs.length=ps.length) (r:Vals vs us)
  (x:InCallC s s.heap.objs.size (bindL (envOfC qual scope s.heap.objs.size f cd).kindOf (ps.zip us) λ_=>none) (cellsFrom (s.heap.objs.size+1) scope.names []) (bindC (envOfC qual scope s.heap.objs.size f cd).kindOf (ps.zip us) λ_=>none) s1) :
  Inv (gQ CX P w K mg base N qual scope f cd A outer s H E) [] (dF N vs) H s1:=by
 have hpl:ps.length<=N.length:=by have:=congrArg List.length S.pre;rw [aAQ] at this;lia
 obtain ⟨h1,tk,rfl,hk⟩:=x.done;have noA:∀ b:Addr,b∉(gQ CX P w K mg base N qual scope f cd A outer s H E).ex:=λb z=>absurd (show b∈([]:List Addr) from z) (by simp);refine ⟨⟨e0.mod,S.kind,rfl,rfl,aAo _,λy z c h1 h2=>?_,λy hy=>?_,λy c _ h=>?_,λ_=>hd,Around.frames_deeper e0.frames,.inr ⟨rfl,rfl⟩,λb z=>absurd z (noA b),e0.bs,e0.bsz,λb _ _=>noA b,λb z=>absurd z (noA b),e0.funs,e0.frf⟩,
  rfl,e0.bare,Un.kept hk,⟨_,x.toInCall.ns,λi y v h1 h2 h3=>?_⟩,λy c h=>⟨_,x.cell y c h⟩,e0.hok.fresh (aAo _),λy c h=>?_,λp hp=>absurd (show p∈([]:List (Addr×Obj)) from hp) (by simp),e0.hok.kept hk,?_⟩
 ·exact name_of_addr x.apart (PySem.mem_of_lookup h1) (PySem.mem_of_lookup h2)
 ·have hy:scope.names.lookup y=some .cell\/scope.names.lookup y=some .free:=hy;rcases hy with hy | hy
  ·exact mP hy
  ·exact absurd rfl (S.nofree _ (PySem.mem_of_lookup hy))
 ·exact aAL (x.above y c (PySem.mem_of_lookup h))
 ·have hi:i < vs.length:=by
   unfold dF at h2
   by_cases hi:i < vs.length
   ·exact hi
   ·rw [aBi (by simpa using hi)] at h2;rw [aBK] at h2
    split at h2 <;> cases h2
  have ha:vs[i]?=some v:=by
   unfold dF at h2;rw [aBE (by simpa using hi),aAt] at h2
   cases e:vs[i]? with
   | none=>rw [e] at h2;cases h2
   | some a=>rw [e] at h2;cases h2;rfl
  obtain ⟨u,hu,rv⟩:=r.get ha;have hp:ps[i]?=some y:=by
   rw [<- S.pre,List.getElem?_take_of_lt (by lia)];exact h1
  have ndP:ps.Nodup:=by rw [<- S.pre];exact S.nd.sublist (List.take_sublist _ _)
  refine ⟨u,rv,?_⟩;rcases S.par y (aAw hp) with k | k
  ·exact .inl ⟨k,ki ndP hp hu k⟩
  ·obtain ⟨c,e⟩:=mP (n:=s.heap.objs.size+1) k;refine .inr ⟨.inl k,c,e,?_⟩;have q:=x.cell y c e;rw [kj ndP hp hu (by show scope.names.lookup y≠_;rw [k];decide)] at q;exact q
 ·exact e0.hok.fresh (aAL (x.above y c (PySem.mem_of_lookup h)))
 ·unfold dF;show _=N.length;rw [aAX,aAe,aBq];lia
theorem qF {CX:CXT} {P:Program} {w:World} {K:W.Frag} {mg:Str->Option Value} {base:Heap} {k:Nat} {f:Addr} {name qual:Str} {params:Arguments} {body:List Stmt} {scope:Scope} {dV kV doc pm cdv ct oc:Value} {an od:Option Addr}
  {osl:Array (Option Value)} {N ps:List Str} {sp:Sp} (lk:K.lookup f=some ⟨oc,od,.func (W.fnOf name qual params body scope dV kV doc pm an cdv ct),osl⟩) (hcd:W.codeIn K cdv qual=true) (S:FnScope N ps scope)
  (len:∀ vs H Q E,sp vs H Q E->vs.length=ps.length)
  (hbody:∀ (A:Around) (outer:List Env) (s:Shared) (H:Hp) (vs:List V) (Q:VK) (E:XK),Room k (A.deeper (envOfC qual scope s.heap.objs.size f cdv))->sp vs H Q E ->
   ∃ t,PSs (gQ CX P w K mg base N qual scope f cdv A outer s H E) body t/\t { nx:=λ_ H'=>Q .non H',rt:=Q } (dF N vs) H) :
  FnOk P w K mg base CX (k+1) f (W.fnOf name qual params body scope dV kV doc pm an cdv ct) ps sp:=by
 refine ⟨len,λA outer s H args us vs Q E hr e0 hb r hsp=>?_⟩;have hl:=len _ _ _ _ hsp;have KX:K.In s.heap:=e0.mod.kin.keeps λb o e=>(e0.bs b o e).1;have lim:s.heap.NoLimit:=e0.mod.nolimit.keeps λb o e=>(e0.bs b o e).1;have hkind:∀ y∈ps.zip us,scope.names.lookup y.1=some .local\/(scope.names.lookup y.1=some .cell/\((cellsFrom (s.heap.objs.size+1) scope.names []).lookup y.1).isSome=true):=λ⟨n,v⟩ hy=>by
  rcases S.par n (aBN hy).1 with q | q
  ·exact .inl q
  ·exact .inr ⟨q,W.cellsFrom_some _ _ _ (.inl q)⟩
 refine codeAny_call_function hr.depth (KX _ _ lk) rfl S.co S.gen rfl (W.codeRec_of KX hcd) (hb _ _ _ _ ?_);refine wpAny_newFunctionEnv_cells S.kind hkind λenv he s1 x=>?_;subst he;refine ⟨lim.keeps x.toInCall.keep,codeAny_func ?_⟩;obtain ⟨t,ht,hq⟩:=hbody A outer s H vs Q E (hr.deeper _) hsp;have I:Inv (gQ CX P w K mg base N qual scope f cdv A outer s H E) [] (dF N vs) H s1:=rK S hr.hd e0 hl r x;refine wpAny_mono (ht [] s1 (dF N vs) H _ I hq) (λfl s' hs=>?_) λe s' hs=>hs;have fin:∀ {σ':St} {H':Hp} {v:V} {u:Value},Inv (gQ CX P w K mg base N qual scope f cdv A outer s H E) [] σ' H' s'->RelV v u->Q v H'->CE outer P w H s Q u s' :=
  λ{σ' H' v u} J rv q=>⟨v,H',J.os,J.bare,J.base,J.hok,rv,q⟩
 cases fl with
 | ret u =>
  obtain ⟨v,σ',H',J,rv,q⟩:=hs;exact fin J rv q
 | next =>
  obtain ⟨σ',H',J,q⟩:=hs;exact fin (v:=V.non) (u:=Value.none) J rfl q
 | brk =>
  obtain ⟨_,_,_,q⟩:=hs;exact False.elim q
 | cont =>
  obtain ⟨_,_,_,q⟩:=hs;exact False.elim q
section
variable {X:Cx} {x:Str} {p pos:Pos} {e:Expr} {es:List Expr} {t:TA} {id T:String} {r:List V->Hp->VK->Prop}
def tCB (r:List V->Hp->VK->Prop) (t:TA):TE:=λσ H Q=>t σ H λvs H1=>r vs H1 Q
theorem pe_callB (hc:aN X (.builtin id) r) (hg:Gl X x) (hm:X.mg x=none) (hv:bootBuiltins x=some (.builtin id)) (ha:PA X (e :: es) t) (hn:x≠ "__name__" :=by decide) (hdb:(x == ("__debug__" : Str))=false:=by decide)
  (he:starEach (e :: es) X.env=(false,eval e X.env) :: starEach es X.env:=by rfl) (hpl:(backTo pos (starEach es X.env)).any (·.1)=false:=by rfl):PE X (.Call (.Name x p) (e :: es) [] pos) (tCB r t):=by
 intro pins s σ H Q I h;refine wpAny_Call_Name_kw (dC I hg hm hv ?_ hn hdb);exact PyProof.Rows.callWith_builtin1 (thn (ha pos pins s σ H _ I h) λus s1 ⟨vs,H1,I1,r1,q1⟩=>hc pins s1 σ H1 vs us Q I1 r1 q1) he hpl
theorem bh (hc:aN X (.type T) r) (hg:Gl X x) (hm:X.mg x=none) (hv:bootBuiltins x=some (.type T)) (ha:PA X (e :: es) t) (hn:x≠ "__name__" :=by decide) (hdb:(x == ("__debug__" : Str))=false:=by decide)
  (he:starEach (e :: es) X.env=(false,eval e X.env) :: starEach es X.env:=by rfl) (hpl:(backTo pos (starEach es X.env)).any (·.1)=false:=by rfl):PE X (.Call (.Name x p) (e :: es) [] pos) (tCB r t):=by
 intro pins s σ H Q I h;refine wpAny_Call_Name_kw (dC I hg hm hv ?_ hn hdb);exact PyProof.Rows.callWith_type1 (thn (ha pos pins s σ H _ I h) λus s1 ⟨vs,H1,I1,r1,q1⟩=>hc pins s1 σ H1 vs us Q I1 r1 q1) he hpl
end
end L2
namespace HT
open PySem PyProof.Rows
section
open PySem.SeqAt
open PySem.AutoSeq1 (wpAny_loadPart')
open PySem.MeetsSeq PySem.MeetsSeq2 PySem.MeetsSeq3
end
section
variable {prog:Program} {w:World} {A:Around} {E:Value->Shared->Prop} {s:Shared}
def sIx (n d:Nat):Option Int->Nat
 | none=>d
 | some v=>if v < 0 then (v+(n:Int)).toNat else min v.toNat n
theorem sIx_nat (n d k:Nat):sIx n d (some (k:Int))=min k n:=by
 show (if (k:Int) < 0 then ((k:Int)+(n:Int)).toNat else min (k:Int).toNat n)=min k n;rw [if_neg (by lia),aBC]
theorem A0 (n d:Nat) (hd:d<=n) (o:Option Int):sIx n d o<=n:=by
 cases o with
 | none=>exact hd
 | some v =>
  show (if v < 0 then (v+(n:Int)).toNat else min v.toNat n)<=n
  by_cases hv:v < 0
  ·rw [if_pos hv];lia
  ·rw [if_neg hv];exact Nat.min_le_right _ _
theorem qG (v:Int) (n d:Nat):(if v < 0 then max (v+(n:Int)) 0 else min v (n:Int))=((sIx n d (some v):Nat):Int):=by
 show (if v < 0 then max (v+(n:Int)) 0 else min v (n:Int))=(((if v < 0 then (v+(n:Int)).toNat else min v.toNat n):Nat):Int)
 by_cases hv:v < 0
 ·simp only [if_pos hv];lia
 ·simp only [if_neg hv];lia
theorem pp (lo hi:Option Int) (n:Nat):Builtin.Slice.sliceAdjust lo hi 1 (n:Int)=(((sIx n 0 lo:Nat):Int),((sIx n n hi:Nat):Int)):=by
 have h1:¬ ((1:Int) < 0):=by lia
 unfold Builtin.Slice.sliceAdjust;simp only [h1,if_false];refine Prod.ext ?_ ?_
 ·cases lo with
  | none=>rfl
  | some v=>exact qG v n 0
 ·cases hi with
  | none=>rfl
  | some v=>exact qG v n n
theorem pq (i j:Nat):Builtin.Slice.slicePlaces (i:Int) (j:Int) 1=j - i:=by
 unfold Builtin.Slice.slicePlaces;have h1:(1:Int) > 0:=by lia
 simp only [h1,if_true,Int.ediv_one]
 split <;> lia
theorem iD {v:Value} {o:Option Int} {Q:Option Int->Shared->Prop} (p:IsPart v o) (h:Q o s):wpAny (model prog w) A (Builtin.Slice.slicePartIndex v) Q E s:=by
 cases p with
 | none=>exact slicePart_none h
 | int i t=>exact slicePart_int h
theorem cN {sl:Addr} {vl vu:Value} {lo hi:Option Int} {n:Nat} {Q:Int×Int×Nat->Shared->Prop} (hs:s.heap.IsSliceOf sl vl vu .none) (pl:IsPart vl lo) (pu:IsPart vu hi)
  (h:Q (((sIx n 0 lo:Nat):Int),1,sIx n n hi - sIx n 0 lo) s):wpAny (model prog w) A (Builtin.Slice.sliceApplied (.ref sl) (pure (n:Int))) Q E s:=by
 obtain ⟨os,hos,hcs,hds⟩:=id hs;unfold Builtin.Slice.sliceApplied Builtin.Slice.sliceFields;refine wpAny_bind (wpAny_bind (wpAny_field hos hds (x:=vl) rfl (wpAny_bind (wpAny_field hos hds (x:=vu) rfl (wpAny_bind (wpAny_field hos hds (x:=.none) rfl (wpAny_pure ?_)))))));refine wpAny_bind (slicePart_none ?_);show wpAny _ _ (if ((1:Int) == 0)=true then _ else _) _ _ s;rw [if_neg (by decide)];refine wpAny_bind (iD pl (wpAny_bind (iD pu (wpAny_bind (wpAny_pure ?_)))));show wpAny _ _ (match Builtin.Slice.sliceAdjust lo hi 1 (n:Int) with | (lo,hi)=>pure (lo,(1:Int),Builtin.Slice.slicePlaces lo hi 1)) _ _ s;rw [pp lo hi n];show wpAny _ _ (pure (((sIx n 0 lo:Nat):Int),(1:Int),Builtin.Slice.slicePlaces ((sIx n 0 lo:Nat):Int) ((sIx n n hi:Nat):Int) 1)) _ _ s;rw [pq];exact wpAny_pure h
theorem tL (xs:Array Value) (i k:Nat):((List.range k).filterMap λ(m:Nat)=>xs[((i:Int)+(m:Int)*1).toNat]?).toArray=((xs.toList.drop i).take k).toArray:=by
 have e:(λ(m:Nat)=>xs[((i:Int)+(m:Int)*1).toNat]?)=λm=>xs[i+m]?:=by
  funext m
  have:((i:Int)+(m:Int)*1).toNat=i+m:=by lia
  rw [this]
 rw [e];have:=pick_run xs i k;rw [List.filterMap_map] at this;have e2:((λx=>xs[x]?) ∘ λx=>i+x)=λm=>xs[i+m]?:=rfl;rw [e2] at this;rw [this]
theorem getItem_tuple_cut {t sl:Addr} {items:Array Value} {vl vu:Value} {lo hi:Option Int} {Q:Value->Shared->Prop} (ht:IsTup s.heap t items) (hs:s.heap.IsSliceOf sl vl vu .none) (pl:IsPart vl lo) (pu:IsPart vu hi)
  (hw:¬ (sIx items.size 0 lo=0/\sIx items.size items.size hi=items.size))
  (h:Q (.ref s.heap.objs.size) { s with heap:=s.heap.push { cls:=.type "tuple",data:=.seq ((items.toList.drop (sIx items.size 0 lo)).take (sIx items.size items.size hi - sIx items.size 0 lo)).toArray } })
  (hsz:items.size<=sizeLine):wpAny (model prog w) A (getItem (.ref t) (.ref sl)) Q E s:=by
 have htake:sizeOk (.seq ((items.toList.drop (sIx items.size 0 lo)).take (sIx items.size items.size hi - sIx items.size 0 lo)).toArray):=by
  show ((items.toList.drop (sIx items.size 0 lo)).take (sIx items.size items.size hi - sIx items.size 0 lo)).toArray.size<=sizeLine;rw [aAm,aAQ,aBn,aA9];lia
 have hj:sIx items.size items.size hi<=items.size:=A0 _ _ (aAo _) hi;obtain ⟨os,hos,hcs,hds⟩:=id hs;have hTs:s.TypeIs (.ref sl) "slice" :=⟨os,hos,hcs⟩;unfold getItem
 try with_reducible refine wpAny_holding ?_
 first | refine wpAny_bind (wpAny_pure ?_) | skip
 refine wpAny_bind (wpAny_sequenceKey ht.typeIs (by decide) ?_);refine wpAny_bind (wpAny_callSpecial?_slot (name:=Str.ofString "__getitem__") ht.typeIs PyProof.Rows.slot_tuple_getitem
  (wpAny_call_entry PyProof.Rows.slot_tuple_getitem ht.typeIs entry_tuple_getitem ?_ (args_tuple_getitem _ _)))
 show wpAny _ _ (Builtin.Tuple.tupleItemsOf (.ref t) >>= _) _ _ s;refine wpAny_bind (tupleItemsOf_ ht ?_);refine wpAny_bind (wpAny_typeOf hTs ?_);rw [if_pos (by decide)];refine wpAny_bind (cN hs pl pu ?_);have hno:¬ ((((sIx items.size 0 lo:Nat):Int) == 0 && (1:Int) == 1 && (sIx items.size items.size hi - sIx items.size 0 lo) == items.size)=true):=by
  intro q;rw [aAr,aAr] at q;have q1:((sIx items.size 0 lo:Nat):Int)=0:=eq_of_beq q.1.1;have q2:sIx items.size items.size hi - sIx items.size 0 lo=items.size:=eq_of_beq q.2;exact hw ⟨by lia,by lia⟩
 show wpAny _ _ (if (((sIx items.size 0 lo:Nat):Int) == 0 && (1:Int) == 1 && (sIx items.size items.size hi - sIx items.size 0 lo) == items.size)=true then _ else _) _ _ s;rw [if_neg hno,tL]
 first
  | exact wpAny_bind (m:=Builtin.Tuple.tupleExact _) (wpAny_newObj_type (wpAny_pure ⟨_,rfl,wpAny_pure h⟩) htake)
  | exact wpAny_bind (m:=Builtin.Tuple.tupleExact _) (wpAny_newObj_type (wpAny_bind (wpAny_pure (wpAny_pure ⟨_,rfl,wpAny_pure h⟩))) htake)
  | exact wpAny_bind (wpAny_bind (m:=Builtin.Tuple.tupleExact _) (wpAny_newObj_type (wpAny_pure (wpAny_pure ⟨_,rfl,wpAny_pure h⟩)) htake))
  | exact wpAny_bind (wpAny_bind (m:=Builtin.Tuple.tupleExact _) (wpAny_newObj_type (wpAny_pure ⟨_,rfl,wpAny_pure h⟩) htake))
end
end HT
namespace L2
open PySem PySem.Spec PyProof.Rows
abbrev TO:=St->Hp->(Option Int->Hp->Prop)->Prop
def PO (X:Cx) (e:Option Expr) (t:TO):Prop :=
 ∀ (pins:List (Addr×Obj)) (s:Shared) (σ:St) (H:Hp) (Q:Option Int->Hp->Prop),Inv X pins σ H s->t σ H Q ->
  wpAny (model X.prog X.w) X.A (evalPart e X.env) (λu s'=>∃ o H',Inv X pins σ H' s'/\IsPart u o/\Q o H') X.xe s
def vZ:TO:=λ_ H Q=>Q none H
inductive IPrt (x:V) (H1:Hp) (Q:Option Int->Hp->Prop):Prop
 | mk (i:Int):(x=.int i)->(Q (some i) H1)->IPrt x H1 Q
def G0 (t:TE):TO:=λσ H Q=>t σ H λx H1=>IPrt x H1 Q
section
variable {X:Cx} {e:Expr} {te:TE} {lo hi:Option Expr} {tl th:TO} {pos p2:Pos}
theorem cX:PO X none vZ:=by
 intro pins s σ H Q I h;rw [evalPart_none];exact wpAny_pure ⟨none,H,I,.none,h⟩
theorem bX (h:PE X e te):PO X (some e) (G0 te):=by
 intro pins s σ H Q I hw;rw [evalPart_some];refine thn (h pins s σ H _ I hw) λu s1 ⟨x,H1,I1,r1,q1⟩=>?_;obtain ⟨i,rfl,q⟩:=q1;obtain ⟨t,rfl⟩:=r1;exact ⟨some i,H1,I1,.int i t,q⟩
def SlR (X:Cx) (r:V->Option Int->Option Int->Hp->VK->Prop):Prop :=
 ∀ (pins:List (Addr×Obj)) (s:Shared) (σ:St) (H:Hp) (x:V) (v vl vu:Value) (lo hi:Option Int) (sl:Addr) (Q:VK),Inv X pins σ H s->RelV x v->s.heap.IsSliceOf sl vl vu .none->IsPart vl lo->IsPart vu hi->r x lo hi H Q ->
  ∃ T id,typeLookup (.type T) "__getitem__" = pure (some (.builtin id))/\s.TypeIs v T/\wpAny (model X.prog X.w) X.A (getItem v (.ref sl)) (EP X pins σ Q) X.xe s
def tSl (r:V->Option Int->Option Int->Hp->VK->Prop) (te:TE) (tl th:TO):TE:=λσ H Q=>te σ H λx H1=>tl σ H1 λl H2=>th σ H2 λu H3=>r x l u H3 Q
theorem bO {r:V->Option Int->Option Int->Hp->VK->Prop} (hr:SlR X r) (he:PE X e te) (hl:PO X lo tl) (hu:PO X hi th):PE X (.Subscript e (.Slice lo hi none p2) pos) (tSl r te tl th):=by
 intro pins s σ H Q I h;refine Subscript_ (thn (he pins s σ H _ I h) λv s1 ⟨x,H1,I1,r1,q1⟩=>?_);refine wpAny_Slice (thn (hl pins s1 σ H1 _ I1 q1) λvl s2 ⟨l,H2,I2,pl,q2⟩=>thn (hu pins s2 σ H2 _ I2 q2) λvu s3 ⟨u,H3,I3,pu,q3⟩=>?_);rw [evalPart_none];refine wpAny_pure ?_;have I4:Inv X pins σ H3 { s3 with heap:=s3.heap.push { cls:=.type "slice",data:=.fields #[vl,vu,.none] } }:=I3.kept (t':=s3.toks) λb ob q=>aAa _ q;obtain ⟨T,id,hT,ht,hg⟩:=hr pins { s3 with heap:=s3.heap.push { cls:=.type "slice",data:=.fields #[vl,vu,.none] } } σ H3 x v vl vu l u s3.heap.objs.size Q I4 r1 (Heap.IsSliceOf.new ..) pl pu q3;show wpAny (model X.prog X.w) X.A (subscriptTail e (.Slice lo hi none p2) v (.ref s3.heap.objs.size)) (EP X pins σ Q) X.xe { s3 with heap:=s3.heap.push { cls:=.type "slice",data:=.fields #[vl,vu,.none] } };exact tail_any (ops:=[.ref s3.heap.objs.size,v]) ht hT hg (by with_unfolding_all rfl)
def gR (xs:List V) (lo hi:Option Int):List V:=(xs.drop (HT.sIx xs.length 0 lo)).take (HT.sIx xs.length xs.length hi - HT.sIx xs.length 0 lo)
theorem gG (xs:List V) (lo hi:Option Int):(gR xs lo hi).length<=xs.length:=by
 unfold gR;rw [aAQ,aBn];lia
end
def ixN (n:Nat) (i:Int):Option Nat:=if 0<=i then (if i < n then some i.toNat else none) else if -(n:Int)<=i then some (i+n).toNat else none
def atI {α:Type} (xs:List α) (i:Int):Option α:=(ixN xs.length i).bind λj=>xs[j]?
theorem kZ {n:Nat} {i:Int} {j:Nat} (h:ixN n i=some j):seqIndex? i n=some j/\j < n/\-(n:Int)<=i/\i < n:=by
 unfold ixN at h
 by_cases h0:0<=i
 ·rw [if_pos h0] at h
  by_cases h1:i < n
  ·rw [if_pos h1] at h;have e:i.toNat=j:=Option.some.inj h;exact ⟨by rw [seqIndex_of h0 h1,e],by lia,by lia,h1⟩
  ·rw [if_neg h1] at h;cases h
 ·rw [if_neg h0] at h
  by_cases h1:-(n:Int)<=i
  ·rw [if_pos h1] at h;have e:(i+n).toNat=j:=Option.some.inj h;exact ⟨by rw [seqIndex_neg (by lia) h1,e],by lia,h1,by lia⟩
  ·rw [if_neg h1] at h;cases h
theorem la {α:Type} {xs:List α} {i:Int} {v:α} (h:atI xs i=some v):∃ j,seqIndex? i xs.length=some j/\xs[j]?=some v/\j < xs.length/\-(xs.length:Int)<=i/\i < xs.length:=by
 unfold atI at h
 cases e:ixN xs.length i with
 | none=>rw [e] at h;cases h
 | some j =>
  rw [e] at h;obtain ⟨h1,h2,h3,h4⟩:=kZ e;exact ⟨j,h1,h,h2,h3,h4⟩
theorem ii {α:Type} {xs:List α} {j:Nat} {v:α} (h:xs[j]?=some v):atI xs (j:Int)=some v:=by
 have hj:j < xs.length:=(aAg.mp h).1;have e:ixN xs.length (j:Int)=some j:=by
  unfold ixN;rw [if_pos (by lia),if_pos (by lia)];simp
 unfold atI;rw [e];exact h
def v9 (b:Expr):Prop:=∀ o i,subscripted b false o i=operate [o,i] (getItem o i)
def IxR (X:Cx) (r:R2):Prop :=
 ∀ (value slice:Expr) (pins:List (Addr×Obj)) (s:Shared) (σ:St) (H:Hp) (x y:V) (v u:Value) (Q:VK),Inv X pins σ H s->RelV x v->RelV y u->r x y H Q ->
  subscripted slice false v u=operate [v,u] (getItem v u)->wpAny (model X.prog X.w) X.A (subscriptTail value slice v u) (EP X pins σ Q) X.xe s
def MtR (X:Cx) (id:String) (r:V->List V->Hp->VK->Prop):Prop :=
 ∀ (pins:List (Addr×Obj)) (s:Shared) (σ:St) (H:Hp) (x:V) (xs:List V) (v:Value) (us:List Value) (Q:VK),Inv X pins σ H s->RelV x v->Vals xs us->r x xs H Q ->
  wpAny (model X.prog X.w) X.A (call (.builtin id) (v :: us)) (EP X pins σ Q) X.xe s
section
variable {X:Cx} {a b:Expr} {ta tb:TE} {pos:Pos}
theorem ce {r:R2} (hr:IxR X r) (ha:PE X a ta) (hb:PE X b tb) (hs:v9 b):PE X (.Subscript a b pos) (tOp r ta tb):=by
 intro pins s σ H Q I h;exact Subscript_ (AX ha hb I h λv u s2 x y H2 I2 rx ry q=>hr a b pins s2 σ H2 x y v u Q I2 rx ry q (hs _ _))
inductive IIxL (K:W.Frag) (x y:V) (H:Hp) (Q:VK):Prop
 | mk (p:Addr) (xs:List V) (i:Int) (v:V):(x=.ref p)->(y=.int i)->(SqL K H p xs)->(atI xs i=some v)->(Q v H)->IIxL K x y H Q
def G9 (K:W.Frag):R2:=λx y H Q=>IIxL K x y H Q
def Iy (K:W.Frag):R2:=λx y H Q=>∃ p xs i v,x=.ref p/\y=.int i/\SqT K H p xs/\atI xs i=some v/\Q v H
theorem wc:IxR X (G9 X.K):=by
 intro value slice pins s σ H x y v u Q I rx ry h hs;obtain ⟨p,xs,i,z,rfl,rfl,hq,he,q⟩:=h
 cases rx
 obtain ⟨t,rfl⟩:=ry;obtain ⟨its,r,pl,hz⟩:=I.list hq;obtain ⟨j,h1,h2,h3,h4,h5⟩:=la he;obtain ⟨w,ew,rw'⟩:=r.get h2;have hl:=r.length;have hn:=iB;have fin:EP X pins σ Q w s:=⟨z,H,I,rw',q⟩
 by_cases h0:0<=i
 ·have hj:i.toNat=j:=by
   rw [seqIndex_of h0 h5] at h1;exact Option.some.inj h1
  exact item_listR pl.isList h0 (by lia) (by rw [hj];simpa using ew) fin hs
 ·have hj:(i+(its.toArray.size:Int)).toNat=j:=by
   rw [seqIndex_neg (by lia) h4] at h1;rw [aAm,<- hl];exact Option.some.inj h1
  exact subscriptTail_builtinR (x:=w) pl.isList.typeIs slot_list_getitem.lookup
   (wpAny_getItem_list_neg (Q:=λr s'=>r=w/\EP X pins σ Q r s') pl.isList (by lia) (by rw [aAm] <;> lia) (by lia) (by rw [hj];simpa using ew) ⟨rfl,fin⟩) hs
theorem A1:IxR X (Iy X.K):=by
 intro value slice pins s σ H x y v u Q I rx ry h hs;obtain ⟨p,xs,i,z,rfl,rfl,hq,he,q⟩:=h
 cases rx
 obtain ⟨t,rfl⟩:=ry;obtain ⟨its,r,pl,hz⟩:=I.tuple hq;obtain ⟨j,h1,h2,h3,h4,h5⟩:=la he;obtain ⟨w,ew,rw'⟩:=r.get h2;have hl:=r.length;have hn:=iB;have fin:EP X pins σ Q w s:=⟨z,H,I,rw',q⟩;exact subscriptTail_builtinR (x:=w) pl.typeIs slot_tuple_getitem.lookup
  (getItem_tuple (j:=j) (Q:=λr s'=>r=w/\EP X pins σ Q r s') pl (by lia) (by lia) (by rw [aAm,<- hl];exact h1) (by simpa using ew) ⟨rfl,fin⟩) hs
theorem pz (its:List Value) (n j:Nat) (u:Value):Obj.mapSeq (·.setIfInBounds j u) { cls:=.type "list",data:=.seq its.toArray n }={ cls:=.type "list",data:=.seq (its.set j u).toArray n }:=by
 simp [Obj.mapSeq]
theorem Inv.lst {pins:List (Addr×Obj)} {σ:St} {H:Hp} {s:Shared} {p:Addr} {xs:List V} (I:Inv X pins σ H s) (h:H p=some (.lst xs)) :
  ∃ (its:List Value) (n:Nat),Vals xs its/\s.heap.get? p=some { cls:=.type "list",data:=.seq its.toArray n }/\xs.length<=sizeLine:=by
 obtain ⟨z,its,n,r,e⟩:=I.hok p _ h;exact ⟨its,n,r,e,z⟩
theorem Inv.lstUpd {pins:List (Addr×Obj)} {σ:St} {H:Hp} {s:Shared} {p:Addr} {xs ys:List V} {its its':List Value} {n n':Nat} {f:Obj->Obj} (I:Inv X pins σ H s) (h:H p=some (.lst xs))
  (ho:s.heap.get? p=some { cls:=.type "list",data:=.seq its.toArray n }) (hf:f { cls:=.type "list",data:=.seq its.toArray n }={ cls:=.type "list",data:=.seq its'.toArray n' }) (r:Vals ys its') (hz:ys.length<=sizeLine) (t:Nat) :
  Inv X pins σ (upd H p (.lst ys)) { s with heap:=s.heap.update p f,toks:=t }:=by
 have e:(s.heap.update p f).get? p=some { cls:=.type "list",data:=.seq its'.toArray n' }:=by
  rw [aAJ f ho (by rw [hf] <;> rfl),hf]
 refine I.write (x:=p) (e:=p) (by rw [h];trivial) (.inl rfl) (λb u hb q=>(aAG _ _ (Ne.symm hb)).trans q) ⟨_,e⟩ ?_;exact ⟨hz,its',n',r,e⟩
inductive ISetL (o i v:V) (H:Hp) (Q:Hp->Prop):Prop
 | mk (p:Addr) (xs:List V) (k:Int) (j:Nat):(o=.ref p)->(i=.int k)->(H p=some (.lst xs))->(ixN xs.length k=some j)->(Q (upd H p (.lst (xs.set j v))))->ISetL o i v H Q
def Ha:V->V->V->Hp->(Hp->Prop)->Prop:=λo i v H Q=>ISetL o i v H Q
theorem tM:GT X Ha:=by
 intro pins s σ H o i v ov iv u Q I ro ri rv h;obtain ⟨p,xs,k,j,rfl,rfl,hp,hj,q⟩:=h
 cases ro
 obtain ⟨t,rfl⟩:=ri;obtain ⟨its,n,r,ho,hz⟩:=I.lst hp;obtain ⟨h1,h2,h3,h4⟩:=kZ hj;have hl:=r.length;have hn:=iB;have I':Inv X pins σ (upd H p (.lst (xs.set j v))) { s with heap:=s.heap.update p (Obj.mapSeq (·.setIfInBounds j u)) } :=
  I.lstUpd hp ho (pz its n j u) (r.set rv j) (by rw [List.length_set];exact hz) s.toks
 by_cases h0:0<=k
 ·have hk:k.toNat=j:=by
   rw [seqIndex_of h0 h4] at h1;exact Option.some.inj h1
  exact W.ki_setAt ho h0 (by lia) (by rw [aAm,<- hl];exact h4) (by rw [hk];exact ⟨_,I',q⟩)
 ·have hk:(k+(its.toArray.size:Int)).toNat=j:=by
   rw [seqIndex_neg (by lia) h3] at h1;rw [aAm,<- hl];exact Option.some.inj h1
  exact W.ki_setBack ho (by lia) (by rw [aAm,<- hl];exact h3) (by lia) (by rw [hk];exact ⟨_,I',q⟩)
theorem lb (lo hi:Option Int) (n:Nat):(sliceBounds lo hi none n).1=((HT.sIx n 0 lo:Nat):Int)/\(sliceBounds lo hi none n).2.1=((HT.sIx n n hi:Nat):Int)/\(sliceBounds lo hi none n).2.2=1:=by
 refine ⟨?_,?_,rfl⟩
 ·cases lo with
  | none=>simp [sliceBounds,HT.sIx]
  | some i =>
   simp only [sliceBounds,HT.sIx,aBo,show (1:Int) > 0 by decide,if_true]
   by_cases h:i < 0
   ·simp only [h,if_true] <;> lia
   ·simp only [h,if_false] <;> lia
 ·cases hi with
  | none=>simp [sliceBounds,HT.sIx]
  | some i =>
   simp only [sliceBounds,HT.sIx,aBo,show (1:Int) > 0 by decide,if_true]
   by_cases h:i < 0
   ·simp only [h,if_true] <;> lia
   ·simp only [h,if_false] <;> lia
theorem jw (its:List Value) (lo hi:Option Int):slicePick its.toArray lo hi none=((its.drop (HT.sIx its.length 0 lo)).take (HT.sIx its.length its.length hi - HT.sIx its.length 0 lo)).toArray:=by
 obtain ⟨h1,h2,h3⟩:=lb lo hi its.toArray.size;unfold slicePick;rw [h1,h2,h3];simp only [sliceRange_one,pick_run,aAm] <;> rfl
def Hb (K:W.Frag):V->Option Int->Option Int->Hp->VK->Prop:=λx lo hi H Q=>∃ a xs,x=.ref a/\SqL K H a xs/\∀ p,H p=none->Q (.ref p) (upd H p (.lst (gR xs lo hi)))
theorem wf:SlR X (Hb X.K):=by
 intro pins s σ H x v vl vu lo hi sl Q I rx hs pl pu h;obtain ⟨a,xs,rfl,hx,q⟩:=h
 cases rx
 obtain ⟨its,r,ht,hz⟩:=I.list hx;have hlen:=r.length;refine ⟨"list",_,slot_list_getitem.lookup,ht.isList.typeIs,?_⟩;refine wpAny_getItem_list_slice ht.isList hs pl pu .none (by simp) ?_ (by rw [aAm] <;> lia);rw [jw,<- hlen];refine ⟨.ref s.heap.objs.size,_,I.laid (t':=s.toks) (o:=.lst (gR xs lo hi)) (λb ob q=>aAa _ q) (aAo _) ?_,rfl,q _ (I.hok.fresh (aAo _))⟩;exact ⟨aAx (gG xs lo hi) hz,_,0,(r.drop (HT.sIx xs.length 0 lo)).take (HT.sIx xs.length xs.length hi - HT.sIx xs.length 0 lo),aAf _ rfl⟩
def fj:V->Bool
 | .non=>true
 | .bl _=>true
 | .int _=>true
 | .str _=>true
 | _=>false
def eqV:V->V->Bool
 | .non,.non=>true
 | .bl a,.bl b=>a == b
 | .bl a,.int b=>(if a then 1 else 0) == b
 | .int a,.bl b=>a == (if b then 1 else 0)
 | .int a,.int b=>a == b
 | .str a,.str b=>a == b
 | _,_=>false
theorem A2 {A:Around} {s:Shared} {y x:V} {u v:Value} (ry:RelV y u) (rx:RelV x v) (fy:fj y=true) (fx:fj x=true):SeqAt.EqAt A s u v (eqV y x):=by
 cases y with
 | non =>
  cases ry
  cases x with
  | non=>cases rx;exact SeqAt.EqAt.same _
  | bl b=>cases rx;exact SeqAt.EqAt.none_bool b
  | int b=>obtain ⟨t,rfl⟩:=rx;exact SeqAt.EqAt.none_int b t
  | str b=>obtain ⟨t,rfl⟩:=rx;exact SeqAt.EqAt.none_str b t
  | _=>exact absurd (show false=true from fx) aAq
 | bl a =>
  cases ry
  cases x with
  | non=>cases rx;exact SeqAt.EqAt.bool_none a
  | bl b=>cases rx;exact SeqAt.EqAt.bool_bool a b
  | int b=>obtain ⟨t,rfl⟩:=rx;exact SeqAt.EqAt.bool_int a b t
  | str b=>obtain ⟨t,rfl⟩:=rx;exact SeqAt.EqAt.bool_str a b t
  | _=>exact absurd (show false=true from fx) aAq
 | int a =>
  obtain ⟨t',rfl⟩:=ry
  cases x with
  | non=>cases rx;exact SeqAt.EqAt.int_none a t'
  | bl b=>cases rx;exact SeqAt.EqAt.int_bool a t' b
  | int b=>obtain ⟨t,rfl⟩:=rx;exact SeqAt.EqAt.int_int a t' b t
  | str b=>obtain ⟨t,rfl⟩:=rx;exact SeqAt.EqAt.int_str a t' b t
  | _=>exact absurd (show false=true from fx) aAq
 | str a =>
  obtain ⟨t',rfl⟩:=ry
  cases x with
  | non=>cases rx;exact SeqAt.EqAt.str_none a t'
  | bl b=>cases rx;exact SeqAt.EqAt.str_bool a t' b
  | int b=>obtain ⟨t,rfl⟩:=rx;exact SeqAt.EqAt.str_int a t' b t
  | str b=>obtain ⟨t,rfl⟩:=rx;exact SeqAt.EqAt.str_str a t' b t
  | _=>exact absurd (show false=true from fx) aAq
 | _=>exact absurd (show false=true from fy) aAq
def eqU (x:V) (u:Value):Bool:=match u with
 | .none=>eqV .non x
 | .bool b=>eqV (.bl b) x
 | .int i _=>eqV (.int i) x
 | .str z _=>eqV (.str z) x
 | _=>false
theorem tN {x y:V} {u:Value} (r:RelV y u) (f:fj y=true):eqU x u=eqV y x:=by
 cases y with
 | non=>cases r;rfl
 | bl b=>cases r;rfl
 | int i=>obtain ⟨t,rfl⟩:=r;rfl
 | str z=>obtain ⟨t,rfl⟩:=r;rfl
 | _=>exact absurd (show false=true from f) aAq
theorem fm {x:V}:∀ {xs:List V} {us:List Value},Vals xs us->xs.all fj=true->us.any (eqU x)=xs.any λy=>eqV y x
 | _,_,.nil,_=>rfl
 | y :: xs,u :: us,.cons r t,f=>by
  rw [aBm,aAr] at f;rw [aAV,aAV,tN r f.1,fm t f.2]
theorem dG {A:Around} {s:Shared} {x:V} {v:Value} (rx:RelV x v) (fx:fj x=true):∀ {xs:List V} {us:List Value},Vals xs us->xs.all fj=true->∀ u∈us,SeqAt.EqAt A s u v (eqU x u)
 | _,_,.nil,_=>λu hu=>by cases hu
 | y :: xs,u :: us,.cons r t,f=>λu' hu=>by
  rw [aBm,aAr] at f;rcases aAb.mp hu with rfl | hu
  ·rw [tN r f.1];exact A2 r rx f.1 fx
  ·exact dG rx fx t f.2 u' hu
def inV (x:V) (xs:List V):Bool:=xs.any λy=>eqV y x
def rIn (K:W.Frag) (neg:Bool):R2:=λx y H Q=>∃ p xs,y=.ref p/\(SqL K H p xs\/SqT K H p xs)/\fj x=true/\xs.all fj=true/\Q (.bl (if neg then !inV x xs else inV x xs)) H
theorem rL:OpR X (compareOp .In) (rIn X.K false):=by
 intro pins s σ H x y v u Q I rx ry h;obtain ⟨p,xs,rfl,hq,fx,fs,q⟩:=h
 cases ry
 rcases hq with hq | hq
 ·obtain ⟨its,r,pl,hz⟩:=I.list hq;refine SeqAt.in_listAt (eqU x) pl.isList (λw hw=>dG rx fx r fs w (by simpa using hw)) ⟨.bl _,H,I,rfl,?_⟩;rw [show its.toArray.any (eqU x)=its.any (eqU x) by simp,fm r fs];exact q
 ·obtain ⟨its,r,pl,hz⟩:=I.tuple hq;refine SeqAt.in_tupleAt (eqU x) pl (λw hw=>dG rx fx r fs w (by simpa using hw)) ⟨.bl _,H,I,rfl,?_⟩;rw [show its.toArray.any (eqU x)=its.any (eqU x) by simp,fm r fs];exact q
theorem op_notIn_seq:OpR X (compareOp .NotIn) (rIn X.K true):=by
 intro pins s σ H x y v u Q I rx ry h;obtain ⟨p,xs,rfl,hq,fx,fs,q⟩:=h
 cases ry
 rcases hq with hq | hq
 ·obtain ⟨its,r,pl,hz⟩:=I.list hq;refine SeqAt.notIn_listAt (eqU x) pl.isList (λw hw=>dG rx fx r fs w (by simpa using hw)) ⟨.bl _,H,I,rfl,?_⟩;rw [show its.toArray.any (eqU x)=its.any (eqU x) by simp,fm r fs];exact q
 ·obtain ⟨its,r,pl,hz⟩:=I.tuple hq;refine SeqAt.notIn_tupleAt (eqU x) pl (λw hw=>dG rx fx r fs w (by simpa using hw)) ⟨.bl _,H,I,rfl,?_⟩;rw [show its.toArray.any (eqU x)=its.any (eqU x) by simp,fm r fs];exact q
theorem fo:aN X (.builtin "len") (λxs H Q=>∃ p ys,xs=[.ref p]/\(SqL X.K H p ys\/SqT X.K H p ys)/\Q (.int ys.length) H):=by
 intro pins s σ H xs us Q I r h;obtain ⟨p,ys,rfl,hq,q⟩:=h;obtain ⟨u,rfl,rx⟩:=cc r
 cases rx
 have hn:=iB;rcases hq with hq | hq
 ·obtain ⟨its,r',pl,hz⟩:=I.list hq;have hlen:=r'.length;exact Calls.call_len_list pl.isList (by simp only [aAm] <;> lia) ⟨.int ys.length,H,I.tok _,⟨s.toks+1,by rw [aAm,hlen]⟩,q⟩
 ·obtain ⟨its,r',pl,hz⟩:=I.tuple hq;have hlen:=r'.length;exact len_tuple pl (by simp only [aAm] <;> lia) ⟨.int ys.length,H,I.tok _,⟨s.toks+1,by rw [aAm,hlen]⟩,q⟩
theorem call_len_str:aN X (.builtin "len") (λxs H Q=>∃ z,xs=[.str z]/\z.length<=sizeLine/\Q (.int z.length) H):=by
 intro pins s σ H xs us Q I r h;obtain ⟨z,rfl,hz,q⟩:=h;obtain ⟨u,rfl,t,rfl⟩:=cc r;have hn:=iB;exact len_str (by lia) ⟨.int z.length,H,I.tok _,⟨_,rfl⟩,q⟩
def tyV (K:W.Frag) (T:String) (x:V) (H:Hp):Prop:=match x with
 | .str _=>T= "str"
 | .int _=>T= "int"
 | .ref p=>(T= "list" /\∃ xs,SqL K H p xs)\/(T= "tuple" /\∃ o,K.lookup p=some o/\o.cls=.type "tuple" /\o.dict=none) \/
   (T= "dict" /\((∃ kvs,H p=some (.dK kvs))\/∃ kvs,H p=some (.dT kvs)))\/(T= "set" /\∃ S n,H p=some (.set S n))
 | _=>False
theorem A3 {pins:List (Addr×Obj)} {σ:St} {H:Hp} {s:Shared} {T:String} {x:V} {v:Value} (I:Inv X pins σ H s) (r:RelV x v) (ty:tyV X.K T x H) :
  s.TypeIs v T/\∀ a,v=.ref a->∃ ob,s.heap.get? a=some ob/\ob.dict=none:=by
 cases x with
 | str z =>
  obtain ⟨t,rfl⟩:=r
  cases (show T= "str" from ty)
  exact ⟨typeIs_str s z t,λ_ e=>nomatch e⟩
 | int i =>
  obtain ⟨t,rfl⟩:=r
  cases (show T= "int" from ty)
  exact ⟨typeIs_int s i t,λ_ e=>nomatch e⟩
 | ref p =>
  cases r
  rcases ty with ⟨rfl,xs,hq⟩ | ⟨rfl,o,hk,hc,hd⟩ | ⟨rfl,hk⟩ | ⟨rfl,S,n,hk⟩
  ·obtain ⟨its,_,pl,_⟩:=I.list hq;refine ⟨pl.isList.typeIs,λa e=>?_⟩
   cases e
   obtain ⟨o,n,e,c,hd,_⟩:=pl;exact ⟨o,e,hd⟩
  ·refine ⟨⟨o,I.kIn p o hk,hc⟩,λa e=>?_⟩
   cases e
   exact ⟨o,I.kIn _ o hk,hd⟩
  ·have z:∃ o,s.heap.get? p=some o/\o.ExactDict:=by
    rcases hk with ⟨kvs,hk⟩ | ⟨kvs,hk⟩
    ·obtain ⟨_,_,_,_,o,_,_,e,ex,_⟩:=I.hok p _ hk;exact ⟨o,e,ex⟩
    ·obtain ⟨_,_,_,_,o,_,_,e,ex,_⟩:=I.hok p _ hk;exact ⟨o,e,ex⟩
   obtain ⟨o,e,ex⟩:=z;refine ⟨⟨o,e,ex.1⟩,λa e2=>?_⟩
   cases e2
   exact ⟨o,e,ex.2.1⟩
  ·obtain ⟨o,_,_,_,e,ex,_⟩:=I.hok p _ hk;refine ⟨⟨o,e,ex.1⟩,λa e2=>?_⟩
   cases e2
   exact ⟨o,e,ex.2.1⟩
 | _=>exact False.elim ty
def tBM (K:W.Frag) (T:String) (r:V->List V->Hp->VK->Prop) (to:TE) (t:TA):TE:=λσ H Q=>to σ H λx H1=>tyV K T x H1/\t σ H1 λxs H2=>r x xs H2 Q
variable {o e:Expr} {es:List Expr} {to:TE} {t:TA} {name:Str} {apos cpos:Pos} {T id:String} {r:V->List V->Hp->VK->Prop}
theorem xJ (pa:PlainAttrs T) (slot:Slot T name id) (hty:typeOf (.builtin id)=pure (.type "method_descriptor")) (hm:MtR X id r) (ho:PE X o to) (ha:PA X (e :: es) t)
  (hbase:attributeBase o name X.env (eval o X.env)=eval o X.env:=by rfl)
  (hfew:((backTo cpos (starEach (e :: es) X.env)).all (λx=>!x.1) && (backToKw cpos (keywordEach [] X.env)).all (λx=>x.1.isSome)
   && decide ((e :: es).length+([]:List Keyword).length+(if ([]:List Keyword).isEmpty then 0 else 1) < 30))=true:=by rfl)
  (hline:(apos.endLine == cpos.line)=true:=by rfl) (hs:starEach (e :: es) X.env=(false,eval e X.env) :: starEach es X.env:=by rfl) (hplain:(backTo cpos (starEach es X.env)).any (·.1)=false:=by rfl) :
  PE X (.Call (.Attribute o name apos) (e :: es) [] cpos) (tBM X.K T r to t):=by
 intro pins s σ H Q I h;refine wpAny_Call_method_late hbase hfew hline rfl (thn (ho pins s σ H _ I h) λv s1 ⟨x,H1,I1,r1,ty,q1⟩=>?_);obtain ⟨h1,h2⟩:=A3 I1 r1 ty;refine ⟨T,id,pa,slot,hty,h1,h2,?_⟩;have hA:=ha cpos pins s1 σ H1 _ I1 q1;rw [hs] at hA ⊢;refine Calls.callWith_builtin (by show (false || (backTo cpos (starEach es X.env)).any (·.1))=false;rw [hplain] <;> rfl) (Calls.evalArgs_plain ?_);exact thn hA λus s2 ⟨vs,H2,I2,r2,q2⟩=>hm pins s2 σ H2 x vs v us Q I2 r1 r2 q2
end
def MtM (X:Cx) (id:String) (r:V->List V->Hp->VK->Prop):Prop :=
 ∀ (pins:List (Addr×Obj)) (s:Shared) (σ:St) (H:Hp) (x:V) (xs:List V) (v:Value) (us:List Value) (Q:VK),Inv X pins σ H s->RelV x v->Vals xs us->r x xs H Q ->
  wpAny (model X.prog X.w) X.A (call (.builtin id) (v :: us)) (EP X pins σ Q) X.xe s
theorem Vals.one:∀ {x:V} {us:List Value},Vals [x] us->∃ u,us=[u]/\RelV x u:=by
 intro x us h
 cases h with
 | cons r t =>
  cases t
  exact ⟨_,rfl,r⟩
theorem Vals.two:∀ {x y:V} {us:List Value},Vals [x,y] us->∃ u v,us=[u,v]/\RelV x u/\RelV y v:=by
 intro x y us h
 cases h with
 | cons r t =>
  cases t with
  | cons q t =>
   cases t
   exact ⟨_,_,rfl,r,q⟩
section
variable {X:Cx} {pins:List (Addr×Obj)} {σ:St} {H:Hp} {s:Shared} {l b:Addr} {xs ys zs:List V}
theorem Inv.lset {its its':List Value} {n:Nat} {f:Array Value->Array Value} {t':Nat} (I:Inv X pins σ H s) (hH:H l=some (.lst xs))
  (e:s.heap.get? l=some { cls:=.type "list",data:=.seq its.toArray n }) (hf:f its.toArray=its'.toArray) (hv:Vals ys its') (hz:ys.length<=sizeLine) :
  Inv X pins σ (upd H l (.lst ys)) { s with heap:=s.heap.update l (Obj.mapSeq f),toks:=t' }:=by
 have q:=PySem.IsL.update e f;rw [hf] at q;refine I.write (x:=l) (e:=l) (by rw [hH];exact trivial) (.inl rfl) (λb' u hb hu=>(aAG s.heap (Obj.mapSeq f) (Ne.symm hb)).trans hu) ⟨_,q⟩ ?_;exact ⟨hz,its',_,hv,q⟩
theorem Inv.lnew {its:List Value} {t':Nat} (I:Inv X pins σ H s) (hv:Vals ys its) (hz:ys.length<=sizeLine) :
  Inv X pins σ (upd H s.heap.objs.size (.lst ys)) { s with heap:=s.heap.push { cls:=.type "list",data:=.seq its.toArray },toks:=t' } :=
 I.laid (λ_ _ q=>aAa _ q) (aAo _) ⟨hz,its,0,hv,aAf _ rfl⟩
theorem Inv.fresh (I:Inv X pins σ H s):H s.heap.objs.size=none:=I.hok.fresh (aAo _)
theorem Inv.lstM (I:Inv X pins σ H s) (hH:H l=some (.lst xs)):xs.length<=sizeLine/\∃ (its:List Value) (n:Nat),Vals xs its/\xs.length=its.length/\s.heap.get? l=some { cls:=.type "list",data:=.seq its.toArray n }:=by
 obtain ⟨z,its,n,r,e⟩:=I.hok l _ hH;exact ⟨z,its,n,r,r.length,e⟩
end
section
variable {X:Cx}
inductive IApp (x:V) (vs:List V) (H:Hp) (Q:VK):Prop
 | mk (l:Addr) (xs:List V) (y:V):(x=.ref l)->(vs=[y])->(H l=some (.lst xs))->(xs.length < sizeLine)->(Q .non (upd H l (.lst (xs++[y]))))->IApp x vs H Q
def wg:V->List V->Hp->VK->Prop:=λx vs H Q=>IApp x vs H Q
theorem rM:MtM X "list.append" wg:=by
 intro pins s σ H x vs v us Q I rx rv h;obtain ⟨l,xs,y,rfl,rfl,hH,hz,q⟩:=h
 cases rx
 obtain ⟨u,rfl,ru⟩:=rv.one;obtain ⟨z,its,n,r,hl,e⟩:=I.lstM hH;refine call_meets F.slot_list_append ⟨_,e,rfl⟩ F.entry_list_append (F.args_list_append_2 _ _) (PySem.list_append l its.toArray n u (by rw [aAm];lia)) ⟨e,?_⟩;refine ⟨.non,_,I.lset (its':=its++[u]) hH e (by simp) (r.append (.cons ru .nil)) ?_,rfl,q⟩;rw [aAX,aBr];lia
end
section
variable {prog:Program} {w:World} {A:Around} {E:Value->Shared->Prop} {s:Shared}
end
section
variable {X:Cx}
end
end L2
namespace Att
open PySem PySem.W PySem.Calls PyProof.Rows
theorem gS {P:Params} {h:Heap}:∀ (ns:List Int) (vs:List Value),WellAll P h vs (ns.map WData.int)->IntsAre vs ns:=by
 intro ns
 induction ns with
 | nil =>
  intro vs w;rw [List.map_nil] at w
  cases w
  exact .nil
 | cons n ns ih =>
  intro vs w;rw [aAH] at w
  cases w with
  | cons a b =>
   cases a
   exact .cons _ _ (ih _ b)
theorem rN {l:OpenLaw} {n:Nat} (hn:l.most=some n) {P:Params} {h:Heap} {args:List WData} {vals:List Value}
  (hpre:l.row.toRowW.claim.pre args=true) (hwl:WellAll P h vals args) :
  ∃ a vs ns,vals=[Value.ref a]/\args=[WData.list (ns.map WData.int)]/\h.get? a=some { cls:=.type "list",data:=.seq vs.toArray }/\IntsAre vs ns/\ns.length<=n:=by
 have hsh:WShape.hasAll [] args [.list .int]=true:=(pre_splitW hpre).1;have hc:l.pre.holds [] { args:=args }=true:=(pre_splitW hpre).2;obtain ⟨d,r,rfl,h1,h2⟩:=hasAllW_cons hsh;obtain rfl:=hasAllW_nil h2;obtain ⟨xs,rfl,h3⟩:=hasW_list h1;obtain ⟨ns,rfl⟩:=items_int h3;have hlen:ns.length<=n:=by
  unfold OpenLaw.pre at hc;have h4:(WTm.not (.lt (.lit (.int (n:Int))) (.len (.arg 0)))).holds [] { args:=[.list (ns.map .int)] }=true:=by
   have h4:=(holds_andW hc).1;rw [hn] at h4;exact h4
  have h5:=condW_of h4 (w_not (w_lt w_lit (w_len_list (w_arg rfl))));rw [aAe] at h5;refine Nat.le_of_not_lt λq=>?_;have q':(n:Int) < ((ns.length:Nat):Int):=by lia
  first
   | (rw [decide_eq_true q'] at h5;exact absurd h5 (by decide))
   | (simp at h5;lia)
 cases hwl with
 | cons w1 w2 =>
  cases w2
  cases w1 with
  | list ho hall=>exact ⟨_,_,ns,rfl,rfl,ho,gS ns _ hall,hlen⟩
theorem rO (l:OpenLaw) (args:List WData):l.row.toRowW.claim.post args (.bool true) args=true :=
 postW_of (r:=l.row.toRowW) (X:=(true == true))
  (show WShape.has [] (.bool true) .bool=true by first | rfl | decide | simp [WShape.has,WShape.arms,WShape.armsAll])
  (show (WTm.eq .res (.lit (.bool true))).value [] { args:=args,res:=some (.bool true),after:=args }=some (.bool (true == true)) from w_eq_bool (w_res rfl) w_lit) rfl
theorem attach_call {l:OpenLaw} {n:Nat} {q:Program} {loose:List Str} {XP:(Str->Option Value)->Heap->Prop} {YP:World->Heap->Prop} {d:DefRec}
  (hn:l.most=some n) (hdf:d.params.defaults=[])
  (call:∀ (w:World) (s₀ s₁:Shared) (mg mb:Str->Option Value) (fa:Addr) (o:Obj) (pm cd doc:Value) (a:Addr) (vs:List Value) (ns:List Int),
   Ground q loose [] XP w s₀ mg mb s₁.heap->YP w s₁.heap ->
   s₁.heap.get? fa=some o->o.data=.func (docDef d.name d.params d.body d.scope pm cd doc)->s₁.heap.CodeRec cd d.name->mg d.name=some (.ref fa) ->
   s₁.heap.get? a=some { cls:=.type "list",data:=.seq vs.toArray }->IntsAre vs ns->ns.length<=n->s₁.gens=#[] ->
   codeAny (model l.prog w) callerA (.call (.ref fa) ⟨[.ref a],[]⟩) (λr s'=>r=.ok (.ret (.bool true))/\OldK s₁.heap s'.heap/\s'.os=s₁.os/\AllBare s'.gens) s₁) :
  WalkO q loose XP YP l.row.toRowW d [] (λf vs=>PySem.call f vs):=by
 intro w s₀ s₁ mg mb G Y fa o pm cd doc dV kV ho hd hcd hD hmg hg args vals as hpre hlay hrd hwl hlo;obtain rfl:dV=.none:=Dflts.none hD hdf;obtain rfl:kV=.none:=Dflts.noKw hD;obtain ⟨a,vs,ns,rfl,rfl,hobj,hints,hlen⟩:=rN hn hpre hwl;refine enter_call (codeAny_mono (call w s₀ s₁ mg mb fa o pm cd doc a vs ns G Y ho (fd_plain hd) hcd hmg hobj hints hlen hg) λr s' hq=>?_);obtain ⟨rfl,h2,h3,h4⟩:=hq;exact ⟨.inl ⟨.bool true,.bool true,[],rfl,λ_=>rfl,.bool true,rO l _,λ_=>⟨List.Pairwise.nil,λ_ hm=>(nomatch hm)⟩⟩,h2,h3,h4⟩
section
variable {prog:Program} {w:World} {A:Around} {E:Value->Shared->Prop} {s:Shared} {K:Frag}
end
end Att
namespace L2
open PySem PySem.Spec PyProof.Rows
theorem km:∀ {vs:List Value} {ns:List Int},IntsAre vs ns->Vals (ns.map V.int) vs
 | _,_,.nil=>.nil
 | _,_,.cons n t h=>.cons ⟨t,rfl⟩ (km h)
def wj (H:Hp):Prop:=∀ b,H b=none\/∃ o xs,H b=some (.frz o (.lst xs))
theorem tO {P:Program} {w:World} {K:W.Frag} {mg mb:Str->Option Value} {CX:CXT} {k:Nat} {fa a:Addr} {fd:FuncData} {x:Str} {sp:Sp} {s₁:Shared} {vs:List Value} {ns:List Int}
  (KX:K.In s₁.heap) (hns:s₁.heap.Ns mainGlobals mg) (hb:s₁.heap.Ns builtinsNs mb) (hbb:∀ x:Str,x≠ "__name__" ->mb x=bootBuiltins x) (hlim:s₁.heap.NoLimit) (hg:s₁.gens=#[])
  (ha:s₁.heap.get? a=some { cls:=.type "list",data:=.seq vs.toArray }) (hi:IntsAre vs ns) (hl:ns.length<=sizeLine) (hr:Room k callerA)
  (F:∀ base:Heap,K.In base->base.Ns mainGlobals mg->FnOk P w K mg base CX k fa fd [x] sp) (hbind:∀ (s:Shared) (u:Value),BindsTo s fd ⟨[u],[]⟩ [(x,u)])
  (hsp:∀ H:Hp,wj H->SqL K H a (ns.map V.int)->sp [.ref a] H (λv _=>v=.bl true) λ_ _ _=>False)
  (hCX:∀ H e s',CX [] H s₁ (λ_ _ _=>False) e s'->False) :
  codeAny (model P w) callerA (.call (.ref fa) ⟨[.ref a],[]⟩) (λr s'=>r=.ok (.ret (.bool true))/\OldK s₁.heap s'.heap/\s'.os=s₁.os/\AllBare s'.gens) s₁:=by
 have rv:=km hi;have lenV:=hi.length;have core:∀ H:Hp,wj H->SqL K H a (ns.map V.int)->HOk P w H s₁.heap->(∀ b,H b≠none->b=a)->(H a≠none->K.lookup a=none) ->
   codeAny (model P w) callerA (.call (.ref fa) ⟨[.ref a],[]⟩) (λr s'=>r=.ok (.ret (.bool true))/\OldK s₁.heap s'.heap/\s'.os=s₁.os/\AllBare s'.gens) s₁:=by
  intro H hO hS hok hA hK;have base_of:∀ {b:Addr} {o:Obj},s₁.heap.get? b=some o->H b=none->(kS s₁.heap H).get? b=some o:=λe n=>tz e n;have noA:∀ {b:Addr} {o:Obj} {es:Array DictEntry} {ep:Nat},s₁.heap.get? b=some o->o.data=.dict es ep->H b=none:=λ{b o es ep} e d=>by
   cases q:H b with
   | none=>rfl
   | some u =>
    have e':b=a:=hA b (by rw [q];simp);subst e';rw [ha] at e;cases e;have d':Data.seq vs.toArray _=Data.dict es ep:=d
    cases d'
  have nsK:∀ {b:Addr} {m:Str->Option Value},s₁.heap.Ns b m->(kS s₁.heap H).Ns b m:=λ{b m} ⟨o,es,ep,e,d,r⟩=>⟨o,es,ep,base_of e (noA e d),d,r⟩;have hKb:K.In (kS s₁.heap H):=λb o e=>base_of (KX b o e) (by
   cases q:H b with
   | none=>rfl
   | some u =>
    have e':b=a:=hA b (by rw [q];simp);subst e';rw [hK (by rw [q];simp)] at e;cases e)
  have hM:Mod K mg (kS s₁.heap H):=⟨hKb,nsK hns,⟨mb,nsK hb,hbb⟩,let ⟨mc,h1,h2⟩:=hlim;⟨mc,nsK h1,h2⟩⟩;have e0:Env0 P w K mg (kS s₁.heap H) callerA [] s₁ H:=⟨rfl,hM,λb o e=>vU e,Nat.le_of_eq (rB _ _),trivial,λb hb=>absurd (show b∈([]:List Addr) from hb) (by simp),hok,.of_eq hg⟩;refine codeAny_mono ((F _ hKb (nsK hns)).run callerA [] s₁ H ⟨[.ref a],[]⟩ [.ref a] [.ref a] _ _ hr e0 (hbind s₁ (.ref a)) (.cons rfl .nil) (hsp H hO hS)) λr s' h=>?_
  cases r with
  | error e=>exact (hCX H e s' h).elim
  | ok fl =>
   cases fl with
   | next=>exact False.elim h
   | brk=>exact False.elim h
   | cont=>exact False.elim h
   | ret u =>
    obtain ⟨v,H',os,bare,un,hok',r',q⟩:=h;have q':v=.bl true:=q;subst q';obtain rfl:u=Value.bool true:=r';refine ⟨rfl,OldK.of_keep λb o e=>?_,os,bare⟩
    cases q:H b with
    | none=>exact un.keep b o e q (by intro z;exact absurd (show b∈([]:List Addr) from z) (by simp)) (by simp)
    | some u =>
     rcases hO b with z | ⟨ob,xs,z⟩
     ·rw [q] at z;cases z
     ·have z2:=un.frzs b ob _ z;obtain ⟨e1,_⟩:=hok b _ z;obtain ⟨e2,_⟩:=hok' b _ z2;rw [e] at e1;cases e1;exact e2
 cases hk:K.lookup a with
 | some o =>
  have e:=KX a o hk;rw [ha] at e
  cases e
  refine core (λ_=>none) (λ_=>.inl rfl) (.inr ⟨_,vs.toArray,_,hk,rfl,rfl,rfl,by rw [aAm,lenV];exact hl,by simpa using rv⟩) (λb u z=>by have z':(none:Option HO)=some u:=z;cases z') (λb z=>absurd rfl z) λz=>absurd rfl z
 | none =>
  refine core (λb=>if b=a then some (.frz { cls:=.type "list",data:=.seq vs.toArray } (.lst (ns.map V.int))) else none) (λb=>?_) (.inl (.inr ⟨{ cls:=.type "list",data:=.seq vs.toArray },if_pos rfl⟩)) (λb u z=>?_) (λb z=>?_) λ_=>hk
  ·by_cases hb:b=a
   ·exact .inr ⟨_,_,if_pos hb⟩
   ·exact .inl (if_neg hb)
  ·by_cases hb:b=a
   ·have z':=(if_pos hb).symm.trans z
    cases z'
    subst hb;exact ⟨ha,by rw [aAe];exact hl,vs,_,rv,ha⟩
   ·have z':=(if_neg hb).symm.trans z
    cases z'
  ·by_cases hb:b=a
   ·exact hb
   ·exact absurd (if_neg hb) z
abbrev KOf {K:W.Frag} {h:Heap} (_:K.In h):W.Frag:=K
theorem wk {l:W.OpenLaw} {n k:Nat} {q:Program} {loose:List Str} {XP:(Str->Option Value)->Heap->Prop} {YP:World->Heap->Prop} {d:DefRec} {K:Params->W.Frag} {CX:World->CXT} {sp:World->Sp} {x:Str}
  (hn:l.most=some n) (hn2:n<=sizeLine) (hdf:d.params.defaults=[]) (hr:Room k callerA)
  (hY:∀ (w:World) (h:Heap),YP w h->(K w.params).In h)
  (F:∀ (w:World) (mg:Str->Option Value) (fa:Addr) (h:Heap),(K w.params).In h->h.Ns mainGlobals mg->mg d.name=some (.ref fa) ->
   ∃ fd:FuncData,(∀ (s:Shared) (u:Value),BindsTo s fd ⟨[u],[]⟩ [(x,u)]) /\
    ∀ base:Heap,(K w.params).In base->base.Ns mainGlobals mg->FnOk l.prog w (K w.params) mg base (CX w) k fa fd [x] (sp w))
  (hsp:∀ (w:World) (H:Hp) (a:Addr) (ns:List Int),ns.length<=n->wj H->SqL (K w.params) H a (ns.map V.int)->sp w [.ref a] H (λv _=>v=.bl true) λ_ _ _=>False)
  (hCX:∀ (w:World) (H:Hp) (s:Shared) (e:Value) (s':Shared),CX w [] H s (λ_ _ _=>False) e s'->False) :
  W.WalkO q loose XP YP l.row.toRowW d [] (λf vs=>PySem.call f vs):=by
 refine Att.attach_call hn hdf λw s₀ s₁ mg mb fa o pm cd doc a vs ns G Y ho hd hcd hmg hobj hints hlen hg=>?_;have KX:=hY w _ Y;obtain ⟨fd,hb,hF⟩:=F w mg fa _ KX G.T.g hmg;exact tO KX G.T.g G.T.b G.T.builtins G.T.nolimit hg hobj hints (aAx hlen hn2) hr hF hb (λH hO hS=>hsp w H a ns hlen hO hS) λH e s'=>hCX w H s₁ e s'
theorem Hc {l:W.OpenLaw} {n k:Nat} {q:Program} {loose:List Str} {XP:(Str->Option Value)->Heap->Prop} {YP:World->Heap->Prop} {d:DefRec} {K:Params->W.Frag} {CX:CXT} {sp:W.Frag->Sp} {x:Str}
  (hn:l.most=some n) (hn2:n<=sizeLine) (hdf:d.params.defaults=[]) (hr:Room k callerA)
  (hY:∀ (w:World) (h:Heap),YP w h->(K w.params).In h)
  (F:∀ (w:World) (mg:Str->Option Value) (fa:Addr) (h:Heap),(K w.params).In h->h.Ns mainGlobals mg->mg d.name=some (.ref fa) ->
   ∃ fd:FuncData,(∀ (s:Shared) (u:Value),BindsTo s fd ⟨[u],[]⟩ [(x,u)]) /\
    ∀ base:Heap,(K w.params).In base->base.Ns mainGlobals mg->FnOk l.prog w (K w.params) mg base CX k fa fd [x] (sp (K w.params)))
  (hsp:∀ (K:W.Frag) (H:Hp) (a:Addr) (ns:List Int),ns.length<=n->wj H->SqL K H a (ns.map V.int)->sp K [.ref a] H (λv _=>v=.bl true) λ_ _ _=>False)
  (hCX:∀ (H:Hp) (s:Shared) (e:Value) (s':Shared),CX [] H s (λ_ _ _=>False) e s'->False) :
  W.WalkO q loose XP YP l.row.toRowW d [] (λf vs=>PySem.call f vs) :=
 wk (K:=K) (CX:=λ_=>CX) (sp:=λw=>sp (K w.params)) hn hn2 hdf hr hY F (λw H a ns h1 h2 h3=>hsp (K w.params) H a ns h1 h2 h3) λ_ H s e s'=>hCX H s e s'
end L2
namespace L2
open PySem PySem.Spec PyProof.Rows
abbrev CX0:CXT:=λ_ _ _ _ _ _=>False
abbrev E0:XK:=λ_ _ _=>False
theorem tP {X:Cx}:f9 CX0 X E0:=λ_ _ _ _ _ _ _ h=>h.elim
structure Fun (K:W.Frag) (x qual:Str) (st:Stmt) (f:Addr) (fd:FuncData):Prop where
 ex:∃ (oc:Value) (od:Option Addr) (kV doc pm:Value) (an:Option Addr) (cdv ct:Value) (osl:Array (Option Value)),
  fd=W.fnOf x qual (cy st) (br st) (aa st) .none kV doc pm an cdv ct/\K.lookup f=some ⟨oc,od,.func fd,osl⟩/\W.codeIn K cdv qual=true
 kp:W.keepIn K (.ref f)=true
section
variable {P:Program} {w:World} {K:W.Frag} {mg:Str->Option Value} {base:Heap}
theorem Fun.ok {x qual:Str} {st:Stmt} {f:Addr} {fd:FuncData} {N ps:List Str} {k:Nat} {sp:Sp} (F:Fun K x qual st f fd) (S:FnScope N ps (aa st)) (len:∀ vs H Q E,sp vs H Q E->vs.length=ps.length)
  (hbody:∀ (cdv:Value) (A:Around) (outer:List Env) (s:Shared) (H:Hp) (vs:List V) (Q:VK) (E:XK),Room k (A.deeper (envOfC qual (aa st) s.heap.objs.size f cdv))->sp vs H Q E ->
   ∃ t,PSs (gQ CX0 P w K mg base N qual (aa st) f cdv A outer s H E).nox (br st) t/\t { nx:=λ_ H'=>Q .non H',rt:=Q } (dF N vs) H):FnOk P w K mg base CX0 (k+1) f fd ps sp:=by
 obtain ⟨oc,od,kV,doc,pm,an,cdv,ct,osl,rfl,lk,hcd⟩:=F.ex;refine qF lk hcd S len λA outer s H vs Q E hr hsp=>?_;obtain ⟨t,h,q⟩:=hbody cdv A outer s H vs Q E hr hsp;exact ⟨t,h.nox,q⟩
theorem Fun.binds {x qual:Str} {st:Stmt} {f:Addr} {fd:FuncData} {ps:List Str} (F:Fun K x qual st f fd)
  (h:∀ (kV doc pm:Value) (an:Option Addr) (cdv ct:Value) (us:List Value),us.length=ps.length->bindArgs (W.fnOf x qual (cy st) (br st) (aa st) .none kV doc pm an cdv ct) ⟨us,[]⟩=pure (ps.zip us)):Binds K fd ps []:=by
 obtain ⟨oc,od,kV,doc,pm,an,cdv,ct,osl,rfl,lk,hcd⟩:=F.ex;exact .all (h kV doc pm an cdv ct)
theorem tQ {x qual:Str} {st:Stmt} {f:Addr} {oc:Value} {od an:Option Addr} {osl:Array (Option Value)} {kV doc pm cdv ct:Value} (l:K.lookup f=some ⟨oc,od,.func (W.fnOf x qual (cy st) (br st) (aa st) .none kV doc pm an cdv ct),osl⟩)
  (c:W.codeIn K cdv qual=true) (k:W.keepIn K (.ref f)=true):Fun K x qual st f (W.fnOf x qual (cy st) (br st) (aa st) .none kV doc pm an cdv ct):=⟨⟨oc,od,kV,doc,pm,an,cdv,ct,osl,rfl,l,c⟩,k⟩
end
theorem aj {n:Nat} (h:n<=1000):n < sizeLine:=aBB h (by decide)
section
variable {X:Cx}
theorem pv (i:Nat) {x:Str} {pos:Pos} (hN:X.N[i]?=some x:=by rfl) (hv:Vis X.env.scope x:=by first | exact Or.inl rfl | exact Or.inr (Or.inl rfl) | exact Or.inr (Or.inr rfl)) (hd:(x == ("__debug__" : Str))=false:=by decide)
  (hcd:(x == ("__classdict__" : Str))=false:=by decide):PE X (.Name x pos) (eh i):=AO hN hv hd hcd
end
theorem aI {A B:Prop} (h:B):if false=true then A else B:=by
 rw [if_neg aAq];exact h
theorem aq {A B:Prop} (h:A):if true=true then A else B:=by
 rw [if_pos rfl];exact h
theorem cx {c A B:Prop} [Decidable c] (h1:c->A) (h2:¬ c->B):if c then A else B:=by
 by_cases h:c
 ·rw [if_pos h];exact h1 h
 ·rw [if_neg h];exact h2 h
def Same (H H':Hp):Prop:=∀ b o,H b=some o->H' b=some o
theorem Same.refl (H:Hp):Same H H:=λ_ _ h=>h
theorem Same.trans {H H1 H2:Hp} (a:Same H H1) (b:Same H1 H2):Same H H2:=λc o h=>b c o (a c o h)
theorem Same.free {H H':Hp} (e:Same H H') {l:Addr} (h:H' l=Option.none):H l=Option.none:=by
 cases q:H l with
 | none=>rfl
 | some o =>
  rw [e l o q] at h
  cases h
theorem Same.seq {K:W.Frag} {H H':Hp} {a:Addr} {xs:List V} (e:Same H H') (h:SqL K H a xs):SqL K H' a xs:=by
 rcases h with (h | ⟨o,h⟩) | h
 ·exact .inl (.inl (e _ _ h))
 ·exact .inl (.inr ⟨o,e _ _ h⟩)
 ·exact .inr h
def cz (env:Env):List (Str×NameKind)->List (Str×Addr)->List (Str×Addr)
 | [],cs=>cs
 | (n,k) :: r,cs=>cz env r (if k == .free then (n,(env.cells.lookup n).getD 0) :: cs else cs)
theorem iE {env:Env} {scope:Scope} (h:∀ x∈scope.names,x.2=.free->∃ c,env.cells.lookup x.1=some c):closureFor scope env=pure (cz env scope.names []):=by
 simp only [closureFor];have go:∀ (l:List (Str×NameKind)) (cs:List (Str×Addr)),(∀ x∈l,x.2=.free->∃ c,env.cells.lookup x.1=some c) ->
   (forIn l cs λ(x:Str×NameKind) (r:List (Str×Addr))=>(do
    let (name,kind):=x
    if kind == .free then
     let a <- cellOf env name
     pure (ForInStep.yield ((name,a) :: r))
    else pure (ForInStep.yield r):Sem (ForInStep (List (Str×Addr)))))=pure (cz env l cs):=by
  intro l
  induction l with
  | nil=>intro cs _;rfl
  | cons x r ih =>
   intro cs hx;obtain ⟨n,k⟩:=x;rw [aAP]
   by_cases hk:k=.free
   ·obtain ⟨c,hc⟩:=hx (n,k) aAh hk;subst hk;have e:cellOf env n=pure c:=by unfold cellOf;rw [hc]
    simp only [beq_self_eq_true,if_true,e,pure_bind];rw [ih _ λy hy=>hx y (aAj _ hy)];simp only [cz,beq_self_eq_true,if_true,hc,aBH]
   ·have hb:(k == NameKind.free)=false:=by simpa using hk
    simp only [hb,aAk,if_false,pure_bind];rw [ih _ λy hy=>hx y (aAj _ hy)];simp only [cz,hb,aAk,if_false]
 have g:=go scope.names [] h
 first
  | exact (by rw [g]:_=_)
  | (rw [<- bind_pure (pure (cz env scope.names []))];rw [<- g];rfl)
  | (simp only [g,pure_bind])
theorem gc {env:Env}:∀ (l:List (Str×NameKind)) (cs:List (Str×Addr)),(∀ x∈l,x.2=.free->∃ c,env.cells.lookup x.1=some c)->(∀ x c,cs.lookup x=some c->env.cells.lookup x=some c) ->
  ∀ x c,(cz env l cs).lookup x=some c->env.cells.lookup x=some c
 | [],_,_,h=>h
 | (n,k) :: r,cs,hx,h=>by
  refine gc r _ (λy hy=>hx y (aAj _ hy)) ?_;intro x c e
  by_cases hk:k=.free
  ·obtain ⟨c',hc⟩:=hx (n,k) aAh hk;subst hk;simp only [beq_self_eq_true,if_true,hc,aBH] at e;rw [aA1] at e
   cases q:x == n with
   | true =>
    rw [q] at e;have q':x=n:=by simpa using q
    cases e
    rw [q'];exact hc
   | false=>rw [q] at e;exact h x c e
  ·have hb:(k == NameKind.free)=false:=by simpa using hk
   simp only [hb,aAk,if_false] at e;exact h x c e
theorem gH {env:Env}:∀ (l:List (Str×NameKind)) (cs:List (Str×Addr)) (x:Str),(∃ c,cs.lookup x=some c)->∃ c,(cz env l cs).lookup x=some c
 | [],_,_,h=>h
 | (n,k) :: r,cs,x,h=>by
  refine gH r _ x ?_
  split
  ·rw [aA1]
   cases q:x == n with
   | true=>exact ⟨_,rfl⟩
   | false=>exact h
  ·exact h
theorem eg {env:Env}:∀ (l:List (Str×NameKind)) (cs:List (Str×Addr)) (x:Str),l.lookup x=some .free->∃ c,(cz env l cs).lookup x=some c
 | [],_,_,h=>by simp at h
 | (n,k) :: r,cs,x,h=>by
  rw [aA1] at h
  cases q:x == n with
  | true =>
   rw [q] at h
   cases h
   refine gH r _ x ?_;simp only [beq_self_eq_true,if_true];rw [aA1,q];exact ⟨_,rfl⟩
  | false=>rw [q] at h;exact eg r _ x h
theorem cY {env:Env}:∀ {names:List (Str×NameKind)} {x:Str} {k':NameKind},
  (names.map λ(n,k)=>if (k == NameKind.free && env.scope.kind == .function && env.kindOf n == some .cell) then (n,NameKind.cell) else (n,k)).lookup x=some k' ->
  ∃ k,names.lookup x=some k/\(k'=k\/(k=.free/\k'=.cell))
 | [],_,_,h=>by simp at h
 | (n,k) :: r,x,k',h=>by
  have ih:=@cY env r x k';rw [aAH] at h
  by_cases hc:(k == NameKind.free && env.scope.kind == .function && env.kindOf n == some .cell)=true
  ·have h2:List.lookup x ((n,NameKind.cell) :: r.map λ(n,k)=>if (k == NameKind.free && env.scope.kind == .function && env.kindOf n == some .cell) then (n,NameKind.cell) else (n,k))=some k':=by
    simpa [hc] using h
   rw [aA1] at h2;rw [aA1]
   cases q:x == n with
   | true =>
    rw [q] at h2
    cases h2
    have hk:k=.free:=by
     simp only [aAr] at hc
     simpa using hc.1.1
    exact ⟨k,rfl,.inr ⟨hk,rfl⟩⟩
   | false=>rw [q] at h2;exact ih h2
  ·have h2:List.lookup x ((n,k) :: r.map λ(n,k)=>if (k == NameKind.free && env.scope.kind == .function && env.kindOf n == some .cell) then (n,NameKind.cell) else (n,k))=some k':=by
    simpa [hc] using h
   rw [aA1] at h2;rw [aA1]
   cases q:x == n with
   | true=>rw [q] at h2;cases h2;exact ⟨_,rfl,.inl rfl⟩
   | false=>rw [q] at h2;exact ih h2
def ccx (X:Cx) (scope:Scope) (C:Addr) (N':List Str) (s₀:Shared) (H₀:Hp) (fp:List Addr):Cx :=
 { X with N:=N',s₀:=s₀,H₀:=H₀,env:=compEnvC scope (cz X.env scope.names []) C X.env,outer:=X.stack,stack:=X.stack,ex:=fp,fn:=λ_=>false,pn:=[],xe:=λ_ _=>False }
def cst (k:Nat) (ρ:List Nat) (σ:St):St:=List.replicate k none++ρ.map λj=>(σ[j]?).join
structure CScope (X:Cx) (scope:Scope) (NL:List Str) (ρ:List Nat) (N':List Str):Prop where
 kind:scope.kind=.function
 nocell:∀ x∈scope.names,x.2≠.cell
 locs:∀ x∈scope.names,x.2=.local->scope.names.lookup x.1=some .local
 frees:∀ x∈scope.names,x.2=.free->X.env.kindOf x.1=some .cell\/X.env.kindOf x.1=some .free
 names:N'=NL++ρ.map λj=>X.N.getD j ""
 outs:∀ j∈ρ,∃ x,X.N[j]?=some x/\scope.names.lookup x=some .free/\(X.env.scope.names.lookup x=some .cell\/X.env.scope.names.lookup x=some .free)
section
variable {X:Cx}
theorem wl {scope:Scope} {NL N':List Str} {ρ:List Nat} (S:CScope X scope NL ρ N') {pins:List (Addr×Obj)} {σ:St} {H:Hp} {s:Shared} {fp:List Addr} {C:Addr} (I:Inv X pins σ H s) (hf:∀ b∈fp,dD X pins H b)
  (hfo:∀ b∈fp,∃ o,s.heap.get? b=some o) (hC:s.heap.objs.size<=C):(ccx X scope C N' s H fp).Ok:=by
 have free_in:∀ x∈scope.names,x.2=.free->∃ c,X.env.cells.lookup x.1=some c:=λx hx hk=>I.ok.has x.1 (S.frees x hx hk);have sub:=gc (env:=X.env) scope.names [] free_in (λx c e=>by simp at e);refine ⟨I.ok.mod,S.kind,I.ok.glob,I.ok.blt,hC,?_,?_,?_,I.ok.hd,I.ok.frames,.inl rfl,?_,I.bs,?_,?_,?_,I.stack,I.stkFree⟩
 ·exact λx y c e1 e2=>I.ok.inj x y c (sub x c e1) (sub y c e2)
 ·intro x hx;have hx':(relabel scope X.env).names.lookup x=some .cell\/(relabel scope X.env).names.lookup x=some .free:=hx;have look:∀ k',(relabel scope X.env).names.lookup x=some k'->(k'=.cell\/k'=.free)->scope.names.lookup x=some .free:=λk' e hk=>by
   obtain ⟨k,e1,z⟩:=cY e;rcases z with z | ⟨z,_⟩
   ·subst z;rcases hk with z | z
    ·subst z;have hm:(x,NameKind.cell)∈scope.names:=mem_of_lookup e1;exact absurd rfl (S.nocell _ hm)
    ·subst z;exact e1
   ·subst z;exact e1
  rcases hx' with e | e
  ·exact eg scope.names [] x (look _ e (.inl rfl))
  ·exact eg scope.names [] x (look _ e (.inr rfl))
 ·intro x c e;exact absurd e (by show ¬ (false=true);decide)
 ·intro b hb;obtain ⟨f0,f1,f2,f3,f4,f5⟩:=hf b hb;refine ⟨?_,λx c e=>f4 x c (sub x c e)⟩;obtain ⟨o,ho⟩:=hfo b hb;exact aAl (aAi (aAd ho) hC)
 ·exact aAx I.ok.bsz I.sz
 ·intro b o e hb;obtain ⟨f0,f1,f2,f3,f4,f5⟩:=hf b hb;rcases f3 with z | z
  ·exact I.ok.noex b o e z
  ·exact absurd (aAi (aAd e) (aAx I.ok.bsz z)) (aAE _)
 ·intro b hb z;obtain ⟨f0,f1,f2,f3,f4,f5⟩:=hf b hb;rcases aAb.mp (I.stkSub b z) with e | e
  ·exact f1 e
  ·exact f2 e
end
section
variable {X:Cx}
theorem Inv.comp {scope:Scope} {NL N':List Str} {ρ:List Nat} (S:CScope X scope NL ρ N') {pins:List (Addr×Obj)} {σ:St} {H:Hp} {s:Shared} {fp:List Addr} {C D:Addr} {h':Heap} {t':Nat} (I:Inv X pins σ H s) (hf:∀ b∈fp,dD X pins H b)
  (hfo:∀ b∈fp,∃ o,s.heap.get? b=some o) (hC:s.heap.objs.size<=C) (hD:s.heap.objs.size<=D) (hDC:D≠C) (k:∀ b u,s.heap.get? b=some u->h'.get? b=some u)
  (hd:h'.get? D=some { cls:=.type "list",data:=.seq #[] 0 }) (hn:h'.Ns C λ_=>none) :
  Inv (ccx X scope C N' s H fp) (X.pn++pins) (cst NL.length ρ σ) (upd H D (.lst [])) { s with heap:=h',toks:=t' }:=by
 have ok:=wl S I hf hfo hC;have free_in:∀ x∈scope.names,x.2=.free->∃ c,X.env.cells.lookup x.1=some c:=λx hx hk=>I.ok.has x.1 (S.frees x hx hk);have sub:=gc (env:=X.env) scope.names [] free_in (λx c e=>by simp at e);have fresh:∀ b,s.heap.objs.size<=b->H b=none:=λb hb=>I.hok.fresh hb;have neD:∀ b o,s.heap.get? b=some o->b≠D:=λb o e=>aAl (aAi (aAd e) hD);have neH:∀ b u,H b=some u->b≠D:=λb u e=>aw e (fresh D hD);refine ⟨ok,rfl,I.bare,⟨λb o e _ _ _=>k b o e,λb o e _ _ _=>⟨o.slots,k b o e⟩,λb o e n _=>?_,λb o e _=>⟨o,k b o e⟩,λb xs e=>?_,λb o u e=>?_,λb ps e=>⟨#[],?_⟩⟩,⟨_,hn,?_⟩,?_,?_,?_,?_,?_,?_⟩
 ·show upd H D _ b=none;rw [ah (neD b o e)];exact n
 ·show upd H D _ b=_;rw [ah (neH b _ e)];exact e
 ·show upd H D _ b=_;rw [ah (neH b _ e)];exact e
 ·show upd H D _ b=_;rw [ah (neH b _ e)];have e':H b=some (.tbl ps):=e;rw [e'];simp
 ·-- the names around
  intro i x v e1 e2 hv;obtain ⟨m,hm,hl⟩:=I.loc;have eN:(NL++ρ.map λj=>X.N.getD j "")[i]?=some x:=by
   have e1':N'[i]?=some x:=e1;rw [S.names] at e1';exact e1'
  have eσ:(List.replicate NL.length (none:Option V)++ρ.map λj=>(σ[j]?).join)[i]?=some (some v):=e2
  by_cases hi:i < NL.length
  ·rw [aBE (by simpa using hi)] at eσ;rw [aBK] at eσ
   split at eσ <;> cases eσ
  ·have hi':NL.length<=i:=Nat.le_of_not_lt hi;rw [aBi (by simpa using hi'),aBq,aAt] at eσ;rw [aBi hi',aAt] at eN
   cases q:ρ[i - NL.length]? with
   | none=>rw [q] at eN;cases eN
   | some j =>
    rw [q] at eN eσ;obtain ⟨y,ey,f1,f2⟩:=S.outs j (aAw q);have exy:X.N.getD j "" = y:=by rw [aAK,ey];rfl
    have exx:X.N.getD j "" = x:=Option.some.inj eN;have xy:x=y:=exx.symm.trans exy;subst xy;have eσ':(σ[j]?).join=some v:=Option.some.inj eσ;have eσ2:σ[j]?=some (some v):=by
     cases z:σ[j]? with
     | none=>rw [z] at eσ';cases eσ'
     | some w=>rw [z] at eσ';exact congrArg some eσ'
    have vis:Vis X.env.scope x:=by
     rcases f2 with z | z
     ·exact .inr (.inl z)
     ·exact .inr (.inr z)
    obtain ⟨u,r,l⟩:=hl j x v ey eσ2 vis;refine ⟨u,r,?_⟩;obtain ⟨c,hc⟩:=eg (env:=X.env) scope.names [] x f1;rcases l with ⟨kl,_⟩ | ⟨_,c',hc',z⟩
    ·have kl':X.env.scope.names.lookup x=some .local:=kl;rcases f2 with z | z
     ·rw [z] at kl';cases kl'
     ·rw [z] at kl';cases kl'
    ·have e3:=sub x c hc;rw [hc'] at e3;obtain rfl:=Option.some.inj e3;obtain ⟨oc,hoc,hcd⟩:=z;have hv':(relabel scope X.env).names.lookup x=some .local\/(relabel scope X.env).names.lookup x=some .cell\/(relabel scope X.env).names.lookup x=some .free:=hv;refine .inr ⟨?_,c',hc,oc,k _ _ hoc,hcd⟩;rcases hv' with z | z | z
     ·obtain ⟨k0,e4,z2⟩:=cY z;rw [f1] at e4
      cases e4
      rcases z2 with z2 | ⟨_,z2⟩ <;> cases z2
     ·exact .inl z
     ·exact .inr z
 ·intro x c e;obtain ⟨v,oc,hoc,hcd⟩:=I.cell x c (sub x c e);exact ⟨v,oc,k _ _ hoc,hcd⟩
 ·show upd H D _ C=none;rw [ah (Ne.symm hDC)];exact fresh C hC
 ·intro x c e;obtain ⟨v,oc,hoc,hcd⟩:=I.cell x c (sub x c e);rw [ah (neD c oc hoc)];exact I.freeC x c (sub x c e)
 ·intro p hp;have hp':p∈X.pn++pins:=hp;obtain ⟨e,n,ne,nf,d⟩:=I.pin p hp';refine ⟨k _ _ e,?_,?_,?_,d⟩
  ·rw [ah (neD p.1 p.2 e)];exact n
  ·exact aAl (aAi (aAd e) hC)
  ·intro z;rcases aAb.mp (I.stkSub p.1 z) with q | q
   ·exact ne q
   ·exact nf q
 ·exact I.hok.laid k hD ⟨aAF _,[],0,.nil,hd⟩
 ·show (List.replicate NL.length (none:Option V)++ρ.map λj=>(σ[j]?).join).length=N'.length;rw [S.names];simp
theorem Inv.compEnd {scope:Scope} {N':List Str} {pins:List (Addr×Obj)} {σ σ':St} {H H':Hp} {s s':Shared} {fp:List Addr} {C:Addr} {h':Heap} {pins':List (Addr×Obj)} (I:Inv X pins σ H s) (hf:∀ b∈fp,dD X pins H b) (hC:s.heap.objs.size<=C)
  (J:Inv (ccx X scope C N' s H fp) pins' σ' H' s') (hs:Heap.SameBut C s'.heap h'):Inv X pins σ H' { s' with heap:=h' }:=by
 have hn:H' C=none:=J.free;have nC:∀ b o,s.heap.get? b=some o->b≠C:=λb o e=>aAl (aAi (aAd e) hC);have B:Un (frs X.stack) fp H H' s.heap s'.heap:=J.base;have U:Un (frs X.stack) fp H H' s.heap h':=⟨λb o e n hb hx=>(hs.2 b (nC b o e)).trans (B.keep b o e n hb hx),λb o e n hb hx=>by
   obtain ⟨sl,q⟩:=B.slot b o e n hb hx;exact ⟨sl,(hs.2 b (nC b o e)).trans q⟩,B.free,λb o e hx=>by
   obtain ⟨o',q⟩:=B.there b o e hx;exact ⟨o',(hs.2 b (nC b o e)).trans q⟩,B.tups,B.frzs,B.tbls⟩
 have hok:HOk X.prog X.w H' h':=λb u e=>by
  refine (J.hok b u e).stay (λc v hc q=>(hs.2 c ?_).trans q) (λ_ q=>q) λ_ _ q=>q;rintro rfl;rcases hc with rfl | hc
  ·rw [hn] at e;cases e
  ·rw [hn] at hc;cases hc
 refine Inv.call' (s':={ s' with heap:=h' }) I J.os U hok J.bare λb hb=>?_;obtain ⟨f0,f1,f2,f3,f4,f5⟩:=hf b hb;exact ⟨f3,f1,f4,f5⟩
def mQ (k:Nat) (ρ:List Nat) (wi:TI) (g:TG) (tb:List V->Addr->St->Hp->(List V->St->Hp->Prop)->Prop):TE:=λσ H Q =>
 wi σ H λJ H1=>∀ l,H1 l=none->∃ W:Nat->Nat->List V->St->Hp->Prop,(∃ m,W 0 m [] (cst k ρ σ) (upd H1 l (.lst []))) /\
  ∀ i m ys σ' H',W i m ys σ' H'->(J.stop i H'/\Q (.ref l) H')\/(J.go i H'/\∀ x H'',J.yld i H' x H''->g x σ' H'' λσ2 H2=>tb ys l σ2 H2 λys' σ3 H3=>∃ m',m' < m/\W (i+1) m' ys' σ3 H3)
def cEl (te:TE):List V->Addr->St->Hp->(List V->St->Hp->Prop)->Prop:=λys l σ H N=>te σ H λy H1=>H1 l=some (.lst ys)/\ys.length < sizeLine/\N (ys++[y]) σ (upd H1 l (.lst (ys++[y])))
def cIf (tc:TT) (te:TE):List V->Addr->St->Hp->(List V->St->Hp->Prop)->Prop:=λys l σ H N=>tc σ H λb H1=>if b=true then cEl te ys l σ H1 N else N ys σ H1
def PB (X:Cx) (body:Value->Sem Unit) (tb:List V->Addr->St->Hp->(List V->St->Hp->Prop)->Prop):Prop :=
 ∀ (pins:List (Addr×Obj)) (s:Shared) (σ:St) (H:Hp) (l:Addr) (ys:List V) (N:List V->St->Hp->Prop),Inv X pins σ H s->tb ys l σ H N ->
  wpAny (model X.prog X.w) X.A (body (.ref l)) (λ_ s'=>∃ ys' σ' H',Inv X pins σ' H' s'/\N ys' σ' H') X.xe s
theorem tR {elt:Expr} {te:TE} (he:PE X elt te):PB X (λacc=>do let x <- eval elt X.env;let _ <- call (.builtin "list.append") [acc,x];pure ()) (cEl te):=by
 intro pins s σ H l ys N I h;refine wpAny_bind (thn (he pins s σ H _ I h) λu s1 ⟨y,H1,I1,r1,q0,q1,q2⟩=>wpAny_bind ?_);refine thn (rM pins s1 σ H1 (.ref l) [y] (.ref l) [u] (λv H'=>v=.non/\N (ys++[y]) σ H') I1 rfl (.cons r1 .nil) ⟨l,ys,y,rfl,rfl,q0,q1,rfl,q2⟩) λ_ s2 ⟨v,H2,I2,_,_,n2⟩=>wpAny_pure ⟨_,σ,H2,I2,n2⟩
theorem Hd {c elt:Expr} {tc:TT} {te:TE} (hc:PT X c tc) (he:PE X elt te):PB X (λacc=>do
  let b <- isTrue c X.env (eval c X.env)
  if b then (do let x <- eval elt X.env;let _ <- call (.builtin "list.append") [acc,x];pure ()) else pure ()) (cIf tc te):=by
 intro pins s σ H l ys N I h;refine wpAny_bind (thn (hc pins s σ H _ I h) λb s1 ⟨H1,I1,q1⟩=>?_)
 cases b with
 | true=>exact tR he pins s1 σ H1 l ys N I1 q1
 | false=>exact wpAny_pure ⟨ys,σ,H1,I1,q1⟩
theorem mR (elt target iter:Expr) (scope:Scope) (pos:Pos) (it acc:Value) (env:Env) :
  compTurn (.ListComp elt [⟨target,iter,[],0⟩] scope pos) 0 it acc env=(standAt iter.pos >>= λ_=>pyNext it >>= λr=>match r with
   | none=>pure (.done .next)
   | some v=>letOwnedTupleGo target it v >>= λ_=>assign target env v >>= λ_ =>
    (do let x <- eval elt env;let _ <- call (.builtin "list.append") [acc,x];pure ():Sem Unit) >>= λ_=>again (.compLoop (.ListComp elt [⟨target,iter,[],0⟩] scope pos) 0 it acc env)):=(0)
theorem tT (elt target iter c:Expr) (scope:Scope) (pos:Pos) (it acc:Value) (env:Env) :
  compTurn (.ListComp elt [⟨target,iter,[c],0⟩] scope pos) 0 it acc env=(standAt iter.pos >>= λ_=>pyNext it >>= λr=>match r with
   | none=>pure (.done .next)
   | some v=>letOwnedTupleGo target it v >>= λ_=>assign target env v >>= λ_ =>
    (do
     let b <- isTrue c env (eval c env)
     if b then (do let x <- eval elt env;let _ <- call (.builtin "list.append") [acc,x];pure ()) else pure ():Sem Unit) >>= λ_=>again (.compLoop (.ListComp elt [⟨target,iter,[c],0⟩] scope pos) 0 it acc env)):=by
 rw [compTurn_list]
 congr 1
 funext _
 congr 1
 funext r
 cases r with
 | none=>rfl
 | some v =>
  refine congrArg (letOwnedTupleGo target it v >>= ·) (funext λ_=>?_);refine congrArg (assign target env v >>= ·) (funext λ_=>?_);dsimp only;rw [aAP];simp only [if_true,bind_assoc,pure_bind,aA3];refine congrArg (PySem.isTrue c env (eval c env) >>= ·) (funext λb=>?_)
  cases b
  ·simp
  ·simp
end
section
variable {X:Cx}
theorem mS {elt tgt iter:Expr} {ifs:List Expr} {scope:Scope} {pos:Pos} {NL N':List Str} {ρ:List Nat} {wi:TI} {g:TG} {tb:List V->Addr->St->Hp->(List V->St->Hp->Prop)->Prop} {body:Value->Env->Sem Unit}
  (hc:X.calm=true) (S:CScope X scope NL ρ N') (hi:PI X tgt iter wi)
  (hg:∀ C s₀ H₀ fp,PG (ccx X scope C N' s₀ H₀ fp) tgt g) (hb:∀ C s₀ H₀ fp,PB (ccx X scope C N' s₀ H₀ fp) (λacc=>body acc (ccx X scope C N' s₀ H₀ fp).env) tb)
  (he:∀ (it acc:Value) (env:Env),compTurn (.ListComp elt [⟨tgt,iter,ifs,0⟩] scope pos) 0 it acc env=(standAt iter.pos >>= λ_=>pyNext it >>= λr=>match r with
   | none=>pure (.done .next)
   | some v=>letOwnedTupleGo tgt it v >>= λ_=>assign tgt env v >>= λ_=>body acc env >>= λ_=>again (.compLoop (.ListComp elt [⟨tgt,iter,ifs,0⟩] scope pos) 0 it acc env)))
  (hs:∀ x,foldedSetIterable iter X.env x=pure x:=by intro _;rfl):PE X (.ListComp elt [⟨tgt,iter,ifs,0⟩] scope pos) (mQ NL.length ρ wi g tb):=by
 intro pins s σ H Q I h;have free_in:∀ x∈scope.names,x.2=.free->∃ c,X.env.cells.lookup x.1=some c:=λx hx hk=>I.ok.has x.1 (S.frees x hx hk);rw [eval_ListComp];refine wpAny_comprehension_free (use:=none) rfl hs (iE free_in) S.kind S.locs ?_;refine thn (hi pins s σ H _ I h) λv s1 h1=>thn h1 λitv s2 h2=>?_;obtain ⟨it,fp,tn,J,H2,e,I2,T,st2,f2,w⟩:=h2;subst e;refine wpAny_newObj_type (wpAny_newFunctionEnv S.nocell (by intro y hy;simp at hy) (λh₁ hns₁ hsb₁=>?_) S.kind);dsimp only at hns₁ hsb₁ ⊢
 generalize hH2:s2.heap.push { cls:=.type "list",dict:=none,data:=.seq ([]:List Value).toArray }=h2' at hns₁ hsb₁ ⊢
 have hCs:h2'.objs.size=s2.heap.objs.size+1:=by rw [<- hH2,aAC]
 have hDC:s2.heap.objs.size≠h2'.objs.size:=by rw [hCs];exact aAl (aA2 _)
 have hC:s2.heap.objs.size<=h2'.objs.size:=by rw [hCs];exact aBz _
 have old:∀ b o,s2.heap.get? b=some o->h₁.get? b=some o:=λb o e=>hsb₁.extBut b o (aAl (aAi (aAd e) hC)) (aAa _ (hH2 ▸ aAa _ e));have hd:h₁.get? s2.heap.objs.size=some { cls:=.type "list",data:=.seq #[] 0 }:=hsb₁.extBut _ _ hDC (aAa _ (hH2 ▸ aAf _ rfl));have hfo:∀ b∈fp,∃ o,s2.heap.get? b=some o:=λb hb=>let ⟨o,e,_⟩:=T.obj _ _ st2 b hb;⟨o,e⟩;have I4:Inv (ccx X scope h2'.objs.size N' s2 H2 fp) (X.pn++pins) (cst NL.length ρ σ) (upd H2 s2.heap.objs.size (.lst [])) { s2 with heap:=h₁,toks:=s2.toks+([]:List (Str×Value)).length } :=
  Inv.comp S I2 f2 hfo hC (aAo _) hDC old hd (by simpa using hns₁)
 have hD0:H2 s2.heap.objs.size=none:=I2.hok.fresh (aAo _);have nfp:s2.heap.objs.size∉fp:=λz=>by
  obtain ⟨o,e⟩:=hfo _ z;exact absurd (aAd e) (aAE _)
 obtain ⟨W,⟨m0,w0⟩,turn⟩:=w s2.heap.objs.size hD0;have stat:∀ {H':Hp},(∀ b∈fp,H' b=none)->∀ b∈fp,dD (ccx X scope h2'.objs.size N' s2 H2 fp) (X.pn++pins) H' b:=λ{H'} hn b hb=>by
  obtain ⟨f0,f1,f2',f3,f4,f5⟩:=f2 b hb;have ok:=I4.ok;refine ⟨hn b hb,(ok.exf b hb).1,ok.exfs b hb,.inl hb,(ok.exf b hb).2,λp hp=>f5 p hp⟩
 have loop:∀ s₃:Shared,s₃={ s2 with heap:=h₁,toks:=s2.toks+([]:List (Str×Value)).length } ->
   codeAny (model X.prog X.w) X.A (.compLoop (.ListComp elt [⟨tgt,iter,ifs,0⟩] scope pos) 0 (.ref it) (.ref s2.heap.objs.size) (compEnvC scope (cz X.env scope.names []) h2'.objs.size X.env))
    (compPost (model X.prog X.w) X.A X.xe none (EP X pins σ Q) (.ref s2.heap.objs.size) h2'.objs.size) s₃:=by
  rintro s₃ rfl;refine codeAny_loop rfl (λn s'=>∃ i ys σ' H',Inv (ccx X scope h2'.objs.size N' s2 H2 fp) (X.pn++pins) σ' H' s'/\tn i s'.heap/\(∀ b∈fp,H' b=none)/\W i n ys σ' H') (λn s3 hI=>?_) m0
   ⟨0,[],_,_,I4,T.keep _ _ _ st2 (λb _ o e=>old b o e),λb hb=>?_,w0⟩
  ·obtain ⟨i,ys,σ3,H3,I3,st3,fr3,w3⟩:=hI;show wpAny _ _ ((compTurn (.ListComp elt [⟨tgt,iter,ifs,0⟩] scope pos) 0 (.ref it) (.ref s2.heap.objs.size) (compEnvC scope (cz X.env scope.names []) h2'.objs.size X.env)).onRaise (λx=>do noteFrame x _;theTreesLotGoes x)) _ _ s3;refine wpAny_noted ?_;rw [he];refine wpAny_bind (wpAny_standAt (wpAny_bind ?_));rcases turn i n ys σ3 H3 w3 with ⟨stop,qn⟩ | ⟨go,step⟩
   ·refine thn (T.done (ccx X scope h2'.objs.size N' s2 H2 fp) rfl rfl rfl hc i _ s3 σ3 H3 _ I3 (stat fr3) st3 stop) λr s4 ⟨hr,I5⟩=>?_;subst hr;refine wpAny_pure ?_;obtain ⟨m,hm,_⟩:=id I5.loc;exact ⟨m,hm,λh' hs'=>⟨.ref s2.heap.objs.size,H3,Inv.compEnd I2 f2 hC I5 hs',rfl,qn⟩⟩
   ·refine thn (T.item (ccx X scope h2'.objs.size N' s2 H2 fp) rfl rfl rfl hc i _ s3 σ3 H3 _ I3 (stat fr3) st3 go) λr s4 ⟨u,hr,h4⟩=>?_;subst hr;refine wpAny_bind (thn h4 λ_ s5 ⟨x,H5,I5,r5,y5,st5,fr5⟩=>?_);have I5':=I5.pinned (stat fr5) (T.obj _ _ st5);refine wpAny_bind (wpAny_mono (hg h2'.objs.size s2 H2 fp _ s5 σ3 H5 x u _ I5' r5 (step x H5 y5)) (λ_ s6 ⟨σ6,H6,I6,q6⟩=>?_) λ_ _ z=>z.elim);refine wpAny_bind (wpAny_mono (hb h2'.objs.size s2 H2 fp _ s6 σ6 H6 s2.heap.objs.size ys _ I6 q6) (λ_ s7 ⟨ys7,σ7,H7,I7,m',hm,w7⟩=>?_) λ_ _ z=>z.elim);refine wpAny_pure ⟨rfl,m',hm,i+1,ys7,σ7,H7,I7.unpinned,T.keep _ _ _ st5 λb hb o e=>(I7.pin (b,o) (aAA _ (aAA _ (bJ hb e)))).1,λb hb=>?_,w7⟩;obtain ⟨o,e,d⟩:=T.obj _ _ st5 b hb;exact (I7.pin (b,o) (aAA _ (aAA _ (bJ hb e)))).2.1
  ·rw [ah (show b≠s2.heap.objs.size from λz=>nfp (by rw [<- z];exact hb))];exact (f2 b hb).1
 refine codeAny_compStart_list (loop _ rfl) (T.self _ 0 _ _ _ ?_ (loop _ rfl));exact T.keep _ _ _ st2 λb _ o e=>old b o e
theorem bA {elt tgt iter:Expr} {scope:Scope} {pos:Pos} {NL N':List Str} {ρ:List Nat} {wi:TI} {g:TG} {te:TE} (hc:X.calm=true) (S:CScope X scope NL ρ N') (hi:PI X tgt iter wi)
  (hg:∀ C s₀ H₀ fp,PG (ccx X scope C N' s₀ H₀ fp) tgt g) (he:∀ C s₀ H₀ fp,PE (ccx X scope C N' s₀ H₀ fp) elt te)
  (hs:∀ x,foldedSetIterable iter X.env x=pure x:=by intro _;rfl):PE X (.ListComp elt [⟨tgt,iter,[],0⟩] scope pos) (mQ NL.length ρ wi g (cEl te)) :=
 mS (body:=λacc env=>do let x <- eval elt env;let _ <- call (.builtin "list.append") [acc,x];pure ()) hc S hi hg (λC s₀ H₀ fp=>tR (he C s₀ H₀ fp)) (λit acc env=>mR elt tgt iter scope pos it acc env) hs
theorem rP {elt tgt iter c:Expr} {scope:Scope} {pos:Pos} {NL N':List Str} {ρ:List Nat} {wi:TI} {g:TG} {tc:TT} {te:TE} (hc:X.calm=true) (S:CScope X scope NL ρ N') (hi:PI X tgt iter wi)
  (hg:∀ C s₀ H₀ fp,PG (ccx X scope C N' s₀ H₀ fp) tgt g) (ht:∀ C s₀ H₀ fp,PT (ccx X scope C N' s₀ H₀ fp) c tc) (he:∀ C s₀ H₀ fp,PE (ccx X scope C N' s₀ H₀ fp) elt te)
  (hs:∀ x,foldedSetIterable iter X.env x=pure x:=by intro _;rfl):PE X (.ListComp elt [⟨tgt,iter,[c],0⟩] scope pos) (mQ NL.length ρ wi g (cIf tc te)) :=
 mS (body:=λacc env=>do
  let b <- PySem.isTrue c env (eval c env)
  if b then (do let x <- eval elt env;let _ <- call (.builtin "list.append") [acc,x];pure ()) else pure ()) hc S hi hg (λC s₀ H₀ fp=>Hd (ht C s₀ H₀ fp) (he C s₀ H₀ fp)) (λit acc env=>tT elt tgt iter c scope pos it acc env) hs
end
section
variable {X:Cx}
inductive IsiB (K:W.Frag) (H:Hp):V->String->Bool->Prop
 | int_int {i}:IsiB K H (.int i) "int" true
 | int_str {i}:IsiB K H (.int i) "str" false
 | int_bool {i}:IsiB K H (.int i) "bool" false
 | int_tuple {i}:IsiB K H (.int i) "tuple" false
 | int_list {i}:IsiB K H (.int i) "list" false
 | str_int {x}:IsiB K H (.str x) "int" false
 | str_str {x}:IsiB K H (.str x) "str" true
 | str_bool {x}:IsiB K H (.str x) "bool" false
 | str_tuple {x}:IsiB K H (.str x) "tuple" false
 | str_list {x}:IsiB K H (.str x) "list" false
 | bl_int {b}:IsiB K H (.bl b) "int" true
 | bl_bool {b}:IsiB K H (.bl b) "bool" true
 | bl_str {b}:IsiB K H (.bl b) "str" false
 | bl_tuple {b}:IsiB K H (.bl b) "tuple" false
 | tup_int {a xs}:SqT K H a xs->IsiB K H (.ref a) "int" false
 | tup_str {a xs}:SqT K H a xs->IsiB K H (.ref a) "str" false
 | tup_bool {a xs}:SqT K H a xs->IsiB K H (.ref a) "bool" false
 | tup_tuple {a xs}:SqT K H a xs->IsiB K H (.ref a) "tuple" true
 | tup_list {a xs}:SqT K H a xs->IsiB K H (.ref a) "list" false
 | lst_int {a xs}:SqL K H a xs->IsiB K H (.ref a) "int" false
 | lst_str {a xs}:SqL K H a xs->IsiB K H (.ref a) "str" false
 | lst_tuple {a xs}:SqL K H a xs->IsiB K H (.ref a) "tuple" false
 | lst_list {a xs}:SqL K H a xs->IsiB K H (.ref a) "list" true
theorem cE (a b:String) (h:isSubtype (.type a) (.type b)=pure false:=by rw [isSubtype_type];kernel_rfl):isSubtype (.type a) (.type b)=pure false:=h
theorem rQ (a b:String) (h:isSubtype (.type a) (.type b)=pure true:=by rw [isSubtype_type];kernel_rfl):isSubtype (.type a) (.type b)=pure true:=h
theorem rR:isSubtype (.type "int") (.type "str")=pure false:=cE _ _
theorem pA:isSubtype (.type "int") (.type "bool")=pure false:=cE _ _
theorem mU:isSubtype (.type "int") (.type "tuple")=pure false:=cE _ _
theorem pB:isSubtype (.type "int") (.type "list")=pure false:=cE _ _
theorem rS:isSubtype (.type "str") (.type "int")=pure false:=cE _ _
theorem pC:isSubtype (.type "str") (.type "bool")=pure false:=cE _ _
theorem mV:isSubtype (.type "str") (.type "tuple")=pure false:=cE _ _
theorem pD:isSubtype (.type "str") (.type "list")=pure false:=cE _ _
theorem pE:isSubtype (.type "bool") (.type "str")=pure false:=cE _ _
theorem lg:isSubtype (.type "bool") (.type "tuple")=pure false:=cE _ _
theorem mW:isSubtype (.type "tuple") (.type "int")=pure false:=cE _ _
theorem mX:isSubtype (.type "tuple") (.type "str")=pure false:=cE _ _
theorem lh:isSubtype (.type "tuple") (.type "bool")=pure false:=cE _ _
theorem lp:isSubtype (.type "tuple") (.type "list")=pure false:=cE _ _
theorem pF:isSubtype (.type "list") (.type "int")=pure false:=cE _ _
theorem pG:isSubtype (.type "list") (.type "str")=pure false:=cE _ _
theorem lq:isSubtype (.type "list") (.type "tuple")=pure false:=cE _ _
theorem He:isSubtype (.type "int") (.type "int")=pure true:=rQ _ _
theorem Hf:isSubtype (.type "str") (.type "str")=pure true:=rQ _ _
theorem A4:isSubtype (.type "bool") (.type "bool")=pure true:=rQ _ _
theorem pH:isSubtype (.type "bool") (.type "int")=pure true:=rQ _ _
theorem wm:isSubtype (.type "tuple") (.type "tuple")=pure true:=rQ _ _
theorem A5:isSubtype (.type "list") (.type "list")=pure true:=rQ _ _
theorem mY:typeOf (.type "int")=pure (.type "type"):=by kernel_rfl
theorem mZ:typeOf (.type "str")=pure (.type "type"):=by kernel_rfl
theorem lr:typeOf (.type "bool")=pure (.type "type"):=by kernel_rfl
theorem fq:typeOf (.type "tuple")=pure (.type "type"):=by kernel_rfl
theorem lv:typeOf (.type "list")=pure (.type "type"):=by kernel_rfl
theorem tU:aN X (.builtin "isinstance") (λxs H Q=>∃ x T b,xs=[x,.ty T]/\IsiB X.K H x T b/\Q (.bl b) H):=by
 intro pins s σ H xs us Q I r h;obtain ⟨x,T,b,rfl,hb,q⟩:=h;obtain ⟨u,w',rfl,rx,rT⟩:=mM r
 cases rT
 have fin:∀ t,EP X pins σ Q (.bool b) { s with toks:=t }:=λt=>⟨.bl b,H,I.tok t,rfl,q⟩;have fin0:EP X pins σ Q (.bool b) s:=⟨.bl b,H,I,rfl,q⟩;have tup:∀ {a xs},SqT X.K H a xs->∃ o,s.heap.get? a=some o/\o.cls=.type "tuple" :=λhq=>by
  obtain ⟨its,_,p,_⟩:=I.tuple hq;obtain ⟨o,e,c,_⟩:=p;exact ⟨o,e,c⟩
 have lst:∀ {a xs},SqL X.K H a xs->∃ o,s.heap.get? a=some o/\o.cls=.type "list" :=λhq=>by
  obtain ⟨its,_,p,_⟩:=I.list hq;obtain ⟨o,e,c,_⟩:=p.isList;exact ⟨o,e,c⟩
 cases hb with
 | int_int=>obtain ⟨t,rfl⟩:=rx;exact call_isinstance (isinstance_true (Tx:= "int") mY He) ⟨rfl,fin0⟩
 | int_str=>obtain ⟨t,rfl⟩:=rx;exact call_isinstance (isinstance_false_int (by decide) mZ rR) (fin _)
 | int_bool=>obtain ⟨t,rfl⟩:=rx;exact call_isinstance (isinstance_false_int (by decide) lr pA) (fin _)
 | int_tuple=>obtain ⟨t,rfl⟩:=rx;exact call_isinstance (isinstance_false_int (by decide) fq mU) (fin _)
 | int_list=>obtain ⟨t,rfl⟩:=rx;exact call_isinstance (isinstance_false_int (by decide) lv pB) (fin _)
 | str_int=>obtain ⟨t,rfl⟩:=rx;exact call_isinstance (isinstance_false_str (by decide) mY rS) (fin _)
 | str_str=>obtain ⟨t,rfl⟩:=rx;exact call_isinstance (isinstance_true (Tx:= "str") mZ Hf) ⟨rfl,fin0⟩
 | str_bool=>obtain ⟨t,rfl⟩:=rx;exact call_isinstance (isinstance_false_str (by decide) lr pC) (fin _)
 | str_tuple=>obtain ⟨t,rfl⟩:=rx;exact call_isinstance (isinstance_false_str (by decide) fq mV) (fin _)
 | str_list=>obtain ⟨t,rfl⟩:=rx;exact call_isinstance (isinstance_false_str (by decide) lv pD) (fin _)
 | bl_int=>cases rx;exact call_isinstance (isinstance_true (Tx:= "bool") mY pH) ⟨rfl,fin0⟩
 | bl_bool=>cases rx;exact call_isinstance (isinstance_true (Tx:= "bool") lr A4) ⟨rfl,fin0⟩
 | bl_str=>cases rx;exact call_isinstance (isinstance_false_bool (by decide) mZ pE) (fin _)
 | bl_tuple=>cases rx;exact call_isinstance (isinstance_false_bool (by decide) fq lg) (fin _)
 | tup_int hq=>cases rx;exact call_isinstance (isinstance_false_tuple (by decide) mY mW) ⟨tup hq,fin _⟩
 | tup_str hq=>cases rx;exact call_isinstance (isinstance_false_tuple (by decide) mZ mX) ⟨tup hq,fin _⟩
 | tup_bool hq=>cases rx;exact call_isinstance (isinstance_false_tuple (by decide) lr lh) ⟨tup hq,fin _⟩
 | tup_tuple hq=>cases rx;exact call_isinstance (isinstance_true (Tx:= "tuple") fq wm) ⟨tup hq,fin0⟩
 | tup_list hq=>cases rx;exact call_isinstance (isinstance_false_tuple (by decide) lv lp) ⟨tup hq,fin _⟩
 | lst_int hq=>cases rx;exact call_isinstance (isinstance_false_list (by decide) mY pF) ⟨lst hq,fin _⟩
 | lst_str hq=>cases rx;exact call_isinstance (isinstance_false_list (by decide) mZ pG) ⟨lst hq,fin _⟩
 | lst_tuple hq=>cases rx;exact call_isinstance (isinstance_false_list (by decide) fq lq) ⟨lst hq,fin _⟩
 | lst_list hq=>cases rx;exact call_isinstance (isinstance_true (Tx:= "list") lv A5) ⟨lst hq,fin0⟩
def Its (z:Str):It:=⟨λi _=>i < z.cps.size,λi H x H'=>H'=H/\∃ c,z.cps[i]?=some c/\x=.str ⟨#[c]⟩,λi _=>i=z.cps.size⟩
def Iz (te:TE):TI:=λσ H R=>te σ H λx H1=>∃ z,x=.str z/\R (Its z) H1
theorem m7 {P:Program} {w:World} {K:W.Frag} {tg:Expr} (T:String) (it:Addr) (z:Str) (t:Tok)
  (W:∀ A:Around,A.handled=none->Walks P w A it [it] [it] z.cps.size (SignAt z) (λi h=>h.IsStrIter it T z t i))
  (hT:["enumerate","zip","dict_itemiterator","dict_reverseitemiterator","odict_iterator","itertools.zip_longest","itertools.pairwise"].contains T=false)
  (hs:∀ (A:Around) (i:Nat) (s:Shared) (Q:Value->Shared->Prop) (E:Value->Shared->Prop),s.heap.IsStrIter it T z t i->Q (.ref it) s->wpAny (model P w) A (pyIter (.ref it)) Q E s) :
  Turn P w K tg (Its z) [it] it (λi h=>h.IsStrIter it T z t i) where
 mem:=by simp
 obj:=λi h st b hb=>by
  have e:b=it:=by simpa using hb
  subst e;obtain ⟨o,e,c,d⟩:=st;exact ⟨o,e,λv z=>by rw [d] at z;cases z⟩
 keep:=λi h h' st k=>by
  obtain ⟨o,e,c,d⟩:=st;exact ⟨o,k it (by simp) o e,c,d⟩
 item:=by
  intro X hP hw hK hc i pins s σ H E I hf st hg;subst hP hw hK;obtain ⟨f0,f1,f2,f3,f4,f5⟩:=hf it (by simp);refine (W X.A (I.ok.hd hc)).item i s _ _ hg st λv h' tk hv st' kk=>?_;obtain ⟨c,u,hcz,rfl⟩:=hv;have I1:Inv X pins σ H { s with heap:=h',toks:=tk }:=I.turned (λb o hb e=>kk b o (by simpa using hb) e) f0 f1 f3 f4 f5;obtain ⟨o,e,cl,d⟩:=id st';exact ⟨_,rfl,mJ (s:={ s with heap:=h',toks:=tk }) e cl d hT ⟨.str ⟨#[c]⟩,H,I1,⟨u,rfl⟩,⟨rfl,c,hcz,rfl⟩,st',λb hb=>(hf b hb).1⟩⟩
 done:=by
  intro X hP hw hK hc i pins s σ H E I hf st hg;subst hP hw hK;obtain ⟨f0,f1,f2,f3,f4,f5⟩:=hf it (by simp);have hi:i=z.cps.size:=hg;subst hi;exact (W X.A (I.ok.hd hc)).done s _ _ st λh' tk kk=>⟨rfl,I.turned (λb o hb e=>kk b o (by simpa using hb) e) f0 f1 f3 f4 f5⟩
 self:=hs
theorem tV {tg l:Expr} {tl:TE} (hl:PE X l tl):PI X tg l (Iz tl):=by
 intro pins s σ H R I h;refine thn (hl pins s σ H _ I h) λv s1 ⟨x,H1,I1,r1,q1⟩=>?_;obtain ⟨z,rfl,q⟩:=q1;obtain ⟨t,rfl⟩:=r1;have fp:∀ (o:Obj),∀ b∈[s1.heap.objs.size],dD X pins H1 b:=λo b hb=>by
  have e:b=s1.heap.objs.size:=by simpa using hb
  subst e;exact I1.fpOk (aAo _) (I1.hok.fresh (aAo _))
 cases ha:z.cps.all (· < 128)
 ·refine wpAny_pyIter_wide ha ?_;exact ⟨s1.heap.objs.size,[s1.heap.objs.size],_,_,H1,rfl,I1.kept (t':=s1.toks) λb o e=>aAa _ e,
   m7 "str_iterator" _ z t (λA hA=>Walks.strWide hA _ z t) (by decide) (λ_ _ _ _ _ st h=>wpAny_pyIter_striter_wide st h),⟨_,aAf _ rfl,rfl,rfl⟩,fp default,q⟩
 ·refine wpAny_pyIter_ascii ha ?_;exact ⟨s1.heap.objs.size,[s1.heap.objs.size],_,_,H1,rfl,I1.kept (t':=s1.toks) λb o e=>aAa _ e,
   m7 "str_ascii_iterator" _ z t (λA hA=>Walks.strAscii hA _ z t) (by decide) (λ_ _ _ _ _ st h=>wpAny_pyIter_striter_ascii st h),⟨_,aAf _ rfl,rfl,rfl⟩,fp default,q⟩
def bls:List Bool->List V:=List.map V.bl
theorem tW:aN X (.builtin "all") (λxs H Q=>∃ p ys,xs=[.ref p]/\X.calm=true/\SqL X.K H p (bls ys)/\Q (.bl (ys.all id)) H):=by
 intro pins s σ H xs us Q I r h;obtain ⟨p,ys,rfl,hcm,hq,q⟩:=h;obtain ⟨u,rfl,rx⟩:=cc r
 cases rx
 obtain ⟨its,r',pl,hz⟩:=I.list hq;have hh:X.A.in1.handled=none:=I.ok.hd hcm;have hne:p≠s.heap.objs.size:=by
  obtain ⟨o,e,_⟩:=pl.isList;exact aAl (aAd e)
 have hlen:its.length=ys.length:=by rw [<- r'.length];simp [bls]
 refine call_all_walk (wpAny_pyIter_list pl.isList ⟨s.heap.objs.size,_,_,_,_,_,λi=>ys.getD i true,rfl,Walks.list hh _ p hne its.toArray,⟨⟨_,aAf _ rfl,rfl,rfl⟩,pl.isList.at λo e=>aAa _ e⟩,?_,?_⟩)
 ·intro i v s' Q' E' hv hQ;have hv':its[i]?=some v:=by simpa using hv
  have hi:i < ys.length:=by
   rw [<- hlen];exact (aAg.mp hv').1
  have e1:(bls ys)[i]?=some (V.bl ys[i]):=by simp [bls,hi]
  obtain ⟨u,hu,ru⟩:=r'.get e1;rw [hv'] at hu;obtain rfl:=Option.some.inj hu
  cases ru
  refine wpAny_truthy_bool ?_;have e2:ys.getD i true=ys[i]:=by simp [aAK,hi]
  have hQ':Q' (ys.getD i true) s':=hQ;rw [e2] at hQ';exact hQ'
 ·intro h' tk kk;have e3:(List.range its.toArray.size).all (λi=>ys.getD i true)=ys.all id:=by
   rw [aAm,hlen];rw [aAU,aAR,aAR]
   constructor
   ·intro g x hx;obtain ⟨i,hi,rfl⟩:=aBh.mp hx;have:=g i (aBR.mpr hi)
    simpa [aAK,hi] using this
   ·intro g i hi;have hi':=aBR.mp hi;have:=g ys[i] (List.getElem_mem hi')
    simpa [aAK,hi'] using this
  rw [e3];refine ⟨.bl _,H,?_,rfl,q⟩;have I1:Inv X pins σ H { s with heap:=s.heap.push { cls:=.type "list_iterator",data:=.fields #[.ref p,.int 0 0] } }:=I.kept (t':=s.toks) λb o e=>aAa _ e;exact I.kept (t':=tk) λb o e=>kk b o (by
   intro z;have z':b=s.heap.objs.size:=by simpa using z
   exact absurd (aAd e) (by rw [z'];exact aAE _)) (aAa _ e)
end
section
variable {X:Cx}
theorem gI (ns:List Int):∀ n,n<=ns.length->preSum (λi=>ns.getD i 0) n=(ns.take n).sum
 | 0,_=>by simp [preSum]
 | n+1,h=>by
  have hn:n < ns.length:=h;rw [preSum,gI ns n (aAL hn),aAM,List.sum_append];simp [aAK,hn]
theorem tX:aN X (.builtin "sum") (λxs H Q=>∃ (p:Addr) (ns:List Int),xs=[.ref p]/\X.calm=true/\SqL X.K H p (ns.map V.int)/\Q (.int ns.sum) H):=by
 intro pins s σ H xs us Q I r h;obtain ⟨p,ns,rfl,hcm,hq,q⟩:=h;obtain ⟨u,rfl,rx⟩:=cc r
 cases rx
 obtain ⟨its,r',pl,hz⟩:=I.list hq;have hh:X.A.in1.handled=none:=I.ok.hd hcm;have hlt:p < s.heap.objs.size:=by
  obtain ⟨o,e,_⟩:=pl.isList;exact aAd e
 have hne:p≠s.heap.objs.size:=aAl hlt;have hlen:its.length=ns.length:=by rw [<- r'.length];simp
 refine call_sum_walkG (wpAny_pyIter_list pl.isList ⟨s.heap.objs.size,_,_,_,_,_,λi=>ns.getD i 0,rfl,Walks.list hh _ p hne its.toArray,⟨⟨_,aAf _ rfl,rfl,rfl⟩,pl.isList.at λo e=>aAa _ e⟩,?_,?_,?_⟩)
 ·intro b hb;have hb':b=s.heap.objs.size\/b=p:=by simpa using hb
  show b < (s.heap.push _).objs.size;rw [aAC];rcases hb' with e | e
  ·exact e ▸ aA2 _
  ·exact aAZ (e ▸ hlt)
 ·intro i v hv;have hv':its[i]?=some v:=by simpa using hv
  have hi:i < ns.length:=by
   rw [<- hlen];exact (aAg.mp hv').1
  have e1:(ns.map V.int)[i]?=some (V.int ns[i]):=by simp [hi]
  obtain ⟨u,hu,ru⟩:=r'.get e1;rw [hv'] at hu;obtain rfl:=Option.some.inj hu;obtain ⟨t,rfl⟩:=ru;exact ⟨t,by simp [aAK,hi]⟩
 ·intro h' tk t' kk;have e3:preSum (λi=>ns.getD i 0) its.toArray.size=ns.sum:=by
   rw [aAm,hlen,gI ns _ (aAo _),aAB]
  rw [e3];refine ⟨.int _,H,?_,⟨_,rfl⟩,q⟩;exact I.kept (t':=tk) λb o e=>kk b o (by
   intro z;have z':b=s.heap.objs.size:=by simpa using z
   exact absurd (aAd e) (by rw [z'];exact aAE _)) (aAa _ e)
end
theorem ae {H:Hp} {p:Addr} (h:H p=none) (o:HO):Same H (upd H p o):=λb u q=>by rw [ah (aw q h)];exact q
def But (r:Addr) (H H':Hp):Prop:=∀ b o,b≠r->H b=some o->H' b=some o
theorem But.trans {r:Addr} {H H1 H2:Hp} (a:But r H H1) (b:But r H1 H2):But r H H2:=λc o n h=>b c o n (a c o n h)
theorem But.same {r:Addr} {H H1:Hp} (a:Same H H1):But r H H1:=λc o _ h=>a c o h
theorem But.put {r:Addr} {H:Hp} {o:HO}:But r H (upd H r o):=λc u n h=>by rw [ah n];exact h
theorem But.seq {K:W.Frag} {r:Addr} {H H':Hp} {a:Addr} {xs:List V} (e:But r H H') (n:a≠r) (h:SqL K H a xs):SqL K H' a xs:=by
 rcases h with (h | ⟨o,h⟩) | h
 ·exact .inl (.inl (e _ _ n h))
 ·exact .inl (.inr ⟨o,e _ _ n h⟩)
 ·exact .inr h
theorem But.tup {K:W.Frag} {r:Addr} {H H':Hp} {a:Addr} {xs:List V} (e:But r H H') (n:a≠r) (h:SqT K H a xs):SqT K H' a xs:=by
 rcases h with (h | ⟨o,h⟩) | h
 ·exact .inl (.inl (e _ _ n h))
 ·exact .inl (.inr ⟨o,e _ _ n h⟩)
 ·exact .inr h
theorem Same.tup {K:W.Frag} {H H':Hp} {a:Addr} {xs:List V} (e:Same H H') (h:SqT K H a xs):SqT K H' a xs:=by
 rcases h with (h | ⟨o,h⟩) | h
 ·exact .inl (.inl (e _ _ h))
 ·exact .inl (.inr ⟨o,e _ _ h⟩)
 ·exact .inr h
theorem cs0 {X:Cx} {scope:Scope} {NL:List Str} (h1:scope.kind=.function) (h2:(scope.names.all λx=>x.2 != .cell && x.2 != .free)=true)
  (h3:∀ x∈scope.names,x.2=.local->scope.names.lookup x.1=some .local):CScope X scope NL [] NL:=by
 rw [aAR] at h2;refine ⟨h1,λx hx e=>?_,h3,λx hx e=>?_,by simp,λj hj=>by simp at hj⟩
 ·have:=h2 x hx;rw [e] at this;exact absurd this (by decide)
 ·have:=h2 x hx;rw [e] at this;exact absurd this (by decide)
theorem m8 {z:Str} {l:Addr} {g:TG} {tb:List V->Addr->St->Hp->(List V->St->Hp->Prop)->Prop} {Q:VK} {σ0:St} {H0:Hp} (Pv:Nat->List V->St->Hp->Prop) (h0:Pv 0 [] σ0 H0)
  (hs:∀ i c ys σ H (N:List V->St->Hp->Prop),z.cps[i]?=some c->Pv i ys σ H->(∀ ys' σ' H',Pv (i+1) ys' σ' H'->N ys' σ' H')->g (.str ⟨#[c]⟩) σ H λσ2 H2=>tb ys l σ2 H2 N)
  (hd:∀ ys σ H,Pv z.cps.size ys σ H->Q (.ref l) H) :
  ∃ W:Nat->Nat->List V->St->Hp->Prop,(∃ m,W 0 m [] σ0 H0)/\∀ i m ys σ' H',W i m ys σ' H'->((Its z).stop i H'/\Q (.ref l) H') \/
   ((Its z).go i H'/\∀ x H'',(Its z).yld i H' x H''->g x σ' H'' λσ2 H2=>tb ys l σ2 H2 λys' σ3 H3=>∃ m',m' < m/\W (i+1) m' ys' σ3 H3):=by
 refine ⟨λi m ys σ H=>m=z.cps.size - i/\i<=z.cps.size/\Pv i ys σ H,⟨z.cps.size,by simp,aAF _,h0⟩,?_⟩;rintro i m ys σ H ⟨rfl,hi,p⟩
 by_cases hlt:i < z.cps.size
 ·refine .inr ⟨hlt,λx H' y=>?_⟩;obtain ⟨e,c,hc,rfl⟩:=y;subst e;exact hs i c ys σ _ _ hc p λys' σ' H' q=>⟨_,by lia,rfl,hlt,q⟩
 ·have e:i=z.cps.size:=by lia
  subst e;exact .inl ⟨rfl,hd ys σ H p⟩
theorem rV {K:W.Frag} {a:Addr} {xs:List V} {l:Addr} {g:TG} {tb:List V->Addr->St->Hp->(List V->St->Hp->Prop)->Prop} {Q:VK} {σ0:St} {H0:Hp} (Pv:Nat->List V->St->Hp->Prop) (h0:Pv 0 [] σ0 H0) (hl:∀ i ys σ H,i<=xs.length->Pv i ys σ H->SqL K H a xs)
  (hs:∀ i x ys σ H (N:List V->St->Hp->Prop),xs[i]?=some x->Pv i ys σ H->(∀ ys' σ' H',Pv (i+1) ys' σ' H'->N ys' σ' H')->g x σ H λσ2 H2=>tb ys l σ2 H2 N)
  (hd:∀ ys σ H,Pv xs.length ys σ H->Q (.ref l) H) :
  ∃ W:Nat->Nat->List V->St->Hp->Prop,(∃ m,W 0 m [] σ0 H0)/\∀ i m ys σ' H',W i m ys σ' H'->((Itl K a).stop i H'/\Q (.ref l) H') \/
   ((Itl K a).go i H'/\∀ x H'',(Itl K a).yld i H' x H''->g x σ' H'' λσ2 H2=>tb ys l σ2 H2 λys' σ3 H3=>∃ m',m' < m/\W (i+1) m' ys' σ3 H3):=by
 refine ⟨λi m ys σ H=>m=xs.length - i/\i<=xs.length/\Pv i ys σ H,⟨xs.length,by simp,aAF _,h0⟩,?_⟩;rintro i m ys σ H ⟨rfl,hi,p⟩;have q:=hl i ys σ H hi p
 by_cases hlt:i < xs.length
 ·refine .inr ⟨⟨xs,xs[i],q,by simp [hlt]⟩,λx H' y=>?_⟩;obtain ⟨e,y⟩:=y;subst e;exact hs i x ys σ _ _ (y xs q) p λys' σ' H' q=>⟨_,by lia,rfl,hlt,q⟩
 ·have e:i=xs.length:=by lia
  subst e;exact .inl ⟨⟨xs,q,aAo _⟩,hd ys σ H p⟩
theorem tY {K:W.Frag} {a:Addr} {xs:List V} {l:Addr} {g:TG} {tb:List V->Addr->St->Hp->(List V->St->Hp->Prop)->Prop} {Q:VK} {σ0:St} {H0:Hp} (Pv:Nat->List V->St->Hp->Prop) (h0:Pv 0 [] σ0 H0) (hl:∀ i ys σ H,i<=xs.length->Pv i ys σ H->SqT K H a xs)
  (hs:∀ i x ys σ H (N:List V->St->Hp->Prop),xs[i]?=some x->Pv i ys σ H->(∀ ys' σ' H',Pv (i+1) ys' σ' H'->N ys' σ' H')->g x σ H λσ2 H2=>tb ys l σ2 H2 N)
  (hd:∀ ys σ H,Pv xs.length ys σ H->Q (.ref l) H) :
  ∃ W:Nat->Nat->List V->St->Hp->Prop,(∃ m,W 0 m [] σ0 H0)/\∀ i m ys σ' H',W i m ys σ' H'->((Itt K a).stop i H'/\Q (.ref l) H') \/
   ((Itt K a).go i H'/\∀ x H'',(Itt K a).yld i H' x H''->g x σ' H'' λσ2 H2=>tb ys l σ2 H2 λys' σ3 H3=>∃ m',m' < m/\W (i+1) m' ys' σ3 H3):=by
 refine ⟨λi m ys σ H=>m=xs.length - i/\i<=xs.length/\Pv i ys σ H,⟨xs.length,by simp,aAF _,h0⟩,?_⟩;rintro i m ys σ H ⟨rfl,hi,p⟩;have q:=hl i ys σ H hi p
 by_cases hlt:i < xs.length
 ·refine .inr ⟨⟨xs,xs[i],q,by simp [hlt]⟩,λx H' y=>?_⟩;obtain ⟨e,y⟩:=y;subst e;exact hs i x ys σ _ _ (y xs q) p λys' σ' H' q=>⟨_,by lia,rfl,hlt,q⟩
 ·have e:i=xs.length:=by lia
  subst e;exact .inl ⟨⟨xs,q,aAo _⟩,hd ys σ H p⟩
theorem pe_gint {X:Cx} {x:Str} {i:Int} {t:Tok} {pos:Pos} (hg:Gl X x) (hm:X.mg x=some (.int i t)) (hd:(x == ("__debug__" : Str))=false:=by decide):PE X (.Name x pos) (tC (.int i)):=kT hg hm ⟨_,rfl⟩ hd
theorem pe_gstr {X:Cx} {x z:Str} {t:Tok} {pos:Pos} (hg:Gl X x) (hm:X.mg x=some (.str z t)) (hd:(x == ("__debug__" : Str))=false:=by decide):PE X (.Name x pos) (tC (.str z)):=kT hg hm ⟨_,rfl⟩ hd
theorem lw {X:Cx} {x:Str} {a:Addr} {pos:Pos} (hg:Gl X x) (hm:X.mg x=some (.ref a)) (hd:(x == ("__debug__" : Str))=false:=by decide):PE X (.Name x pos) (tC (.ref a)):=kT hg hm rfl hd
theorem bo {X:Cx} {x:Str} {n:String} {pos:Pos} (hg:Gl X x) (hm:X.mg x=none) (hv:bootBuiltins x=some (.type n)) (hn:x≠ "__name__" :=by decide) (hd:(x == ("__debug__" : Str))=false:=by decide):PE X (.Name x pos) (tC (.ty n)):=vW hg hm hv rfl hn hd
structure Gn (K:W.Frag) (mg:Str->Option Value) (x:Str) (st:Stmt) (ps:List Str) (f:Addr) (fd:FuncData):Prop where
 F:Fun K x x st f fd
 b:Binds K fd ps []
 m:mg x=some (.ref f)
inductive Dt where
 | non | bl (b:Bool) | int (i:Int) | str (z:Str) | tup (l:List Dt)
mutual
inductive IsD (K:W.Frag) (H:Hp):Dt->V->Prop
 | non:IsD K H .non .non
 | bl {b}:IsD K H (.bl b) (.bl b)
 | int {i}:IsD K H (.int i) (.int i)
 | str {z}:IsD K H (.str z) (.str z)
 | tup {l:List Dt} {a:Addr} {xs:List V}:SqT K H a xs->IsDs K H l xs->IsD K H (.tup l) (.ref a)
inductive IsDs (K:W.Frag) (H:Hp):List Dt->List V->Prop
 | nil:IsDs K H [] []
 | cons {d:Dt} {l:List Dt} {x:V} {xs:List V}:IsD K H d x->IsDs K H l xs->IsDs K H (d :: l) (x :: xs)
end
mutual
def Dt.dep:Dt->Nat
 | .tup l=>er l+1
 | _=>0
def er:List Dt->Nat
 | []=>0
 | d :: l=>max d.dep (er l)
end
mutual
def eqD:Dt->Dt->Bool
 | .non,.non=>true
 | .bl a,.bl b=>a == b
 | .bl a,.int i=>(if a then 1 else 0) == i
 | .int i,.bl a=>i == (if a then 1 else 0)
 | .int i,.int j=>i == j
 | .str x,.str y=>x == y
 | .tup l,.tup m=>ft l m
 | _,_=>false
def ft:List Dt->List Dt->Bool
 | [],[]=>true
 | d :: l,e :: m=>eqD d e && ft l m
 | _,_=>false
end
mutual
def Dt.plain:Dt->Bool
 | .bl _=>false
 | .tup l=>iF l
 | _=>true
def iF:List Dt->Bool
 | []=>true
 | d :: l=>d.plain && iF l
end
mutual
theorem fu:∀ d:Dt,eqD d d=true
 | .non=>rfl
 | .bl a=>by simp [eqD]
 | .int i=>by simp [eqD]
 | .str z=>by simp [eqD]
 | .tup l=>by simp only [eqD];exact kn l
theorem kn:∀ l:List Dt,ft l l=true
 | []=>rfl
 | d :: l=>by simp only [ft,fu d,kn l,Bool.and_self]
end
mutual
theorem A6:∀ d e:Dt,d.plain=true->e.plain=true->eqD d e=true->d=e
 | .non,e,_,_,h=>by cases e <;> simp_all [eqD]
 | .bl _,_,h,_,_=>by simp [Dt.plain] at h
 | .int i,e,_,he,h=>by cases e <;> simp_all [eqD,Dt.plain]
 | .str z,e,_,_,h=>by cases e <;> simp_all [eqD]
 | .tup l,e,hd,he,h=>by
  cases e with
  | tup m=>rw [qH l m (by simpa [Dt.plain] using hd) (by simpa [Dt.plain] using he) (by simpa [eqD] using h)]
  | _=>simp [eqD] at h
theorem qH:∀ l m:List Dt,iF l=true->iF m=true->ft l m=true->l=m
 | [],[],_,_,_=>rfl
 | [],_ :: _,_,_,h=>by simp [ft] at h
 | _ :: _,[],_,_,h=>by simp [ft] at h
 | d :: l,e :: m,hl,hm,h=>by
  simp only [iF,aAr] at hl hm;simp only [ft,aAr] at h;rw [A6 d e hl.1 hm.1 h.1,qH l m hl.2 hm.2 h.2]
end
section
variable {K:W.Frag} {H H':Hp}
mutual
theorem IsD.same (g:Same H H'):∀ {d:Dt} {v:V},IsD K H d v->IsD K H' d v
 | _,_,.non=>.non
 | _,_,.bl=>.bl
 | _,_,.int=>.int
 | _,_,.str=>.str
 | _,_,.tup h r=>.tup (g.tup h) (IsDs.same g r)
theorem IsDs.same (g:Same H H'):∀ {l:List Dt} {xs:List V},IsDs K H l xs->IsDs K H' l xs
 | _,_,.nil=>.nil
 | _,_,.cons h r=>.cons (IsD.same g h) (IsDs.same g r)
end
theorem tZ {a r:Addr} {xs ys:List V} (hr:H r=some (.lst ys)) (h:SqT K H a xs):a≠r\/∀ H'',SqT K H'' a xs:=by
 rcases h with (h | ⟨o,h⟩) | h
 ·exact .inl (eD h hr (by intro z;cases z))
 ·exact .inl (eD h hr (by intro z;cases z))
 ·exact .inr λ_=>.inr h
mutual
theorem IsD.but {r:Addr} {ys:List V} (hr:H r=some (.lst ys)) (g:But r H H'):∀ {d:Dt} {v:V},IsD K H d v->IsD K H' d v
 | _,_,.non=>.non
 | _,_,.bl=>.bl
 | _,_,.int=>.int
 | _,_,.str=>.str
 | _,_,.tup h q=>.tup (by
   rcases tZ hr h with n | n
   ·exact g.tup n h
   ·exact n _) (IsDs.but hr g q)
theorem IsDs.but {r:Addr} {ys:List V} (hr:H r=some (.lst ys)) (g:But r H H'):∀ {l:List Dt} {xs:List V},IsDs K H l xs->IsDs K H' l xs
 | _,_,.nil=>.nil
 | _,_,.cons h q=>.cons (IsD.but hr g h) (IsDs.but hr g q)
end
theorem IsDs.length {l:List Dt} {xs:List V} (h:IsDs K H l xs):l.length=xs.length:=by
 induction l generalizing xs with
 | nil=>cases h;rfl
 | cons d l ih=>cases h with | cons _ r=>simp [ih r]
theorem IsDs.get {l:List Dt} {xs:List V} (h:IsDs K H l xs) {i:Nat} {d:Dt} (e:l[i]?=some d):∃ x,xs[i]?=some x/\IsD K H d x:=by
 induction l generalizing xs i with
 | nil=>simp at e
 | cons c l ih =>
  cases h with
  | cons h r =>
   cases i with
   | zero=>simp at e;subst e;exact ⟨_,rfl,h⟩
   | succ i=>exact ih r (by simpa using e)
end
section
variable {X:Cx} {pins:List (Addr×Obj)} {σ:St} {H:Hp} {s:Shared}
mutual
theorem IsD.inj (I:Inv X pins σ H s):∀ {d e:Dt} {v:V},IsD X.K H d v->IsD X.K H e v->d=e
 | _,_,_,.non,.non=>rfl
 | _,_,_,.bl,.bl=>rfl
 | _,_,_,.int,.int=>rfl
 | _,_,_,.str,.str=>rfl
 | _,_,_,.tup h r,.tup h' r'=>by
  have e:=I.tuple_inj h h';subst e;rw [IsDs.inj I r r']
theorem IsDs.inj (I:Inv X pins σ H s):∀ {l m:List Dt} {xs:List V},IsDs X.K H l xs->IsDs X.K H m xs->l=m
 | _,_,_,.nil,.nil=>rfl
 | _,_,_,.cons h r,.cons h' r'=>by rw [IsD.inj I h h',IsDs.inj I r r']
end
theorem iG:∀ (l m:List Dt),ft l m=((List.range (min l.length m.length)).all (λj=>eqD (l.getD j .non) (m.getD j .non)) && l.length == m.length)
 | [],[]=>rfl
 | [],_ :: _=>by simp [ft]
 | _ :: _,[]=>by simp [ft]
 | d :: l,e :: m=>by
  simp only [ft,aAs];rw [iG l m,Nat.succ_min_succ,List.range_succ_eq_map,aBm,aA5];have e1:(l.length+1 == m.length+1)=(l.length == m.length):=by
   rw [aAU];simp
  rw [e1,Bool.and_assoc]
  rfl
theorem m9:∀ {l:List Dt} {j:Nat},j < l.length->(l.getD j .non).dep<=er l
 | [],_,h=>by simp at h
 | d :: l,0,_=>by simp only [List.getD_cons_zero,er];lia
 | d :: l,j+1,h=>by
  have q:=@m9 l j (by simpa using h);simp only [List.getD_cons_succ,er];lia
theorem Inv.tup' (I:Inv X pins σ H s) {a:Addr} {xs:List V} (h:SqT X.K H a xs):∃ its:List Value,Vals xs its/\s.heap.IsTuple a its.toArray:=by
 obtain ⟨its,r,p,_⟩:=I.tuple h;exact ⟨its,r,p⟩
theorem cO (A:Around):A.in1.units=A.units+1:=by
 first | rfl | simp [Around.in1]
theorem wn (I:Inv X pins σ H s):∀ (n:Nat) (d e:Dt) (x y:V) (u v:Value) (A:Around),d.dep<=n->IsD X.K H d x->IsD X.K H e y->RelV x u->RelV y v->A.units+n < cLine ->
  SeqAt.EqAt A s u v (eqD d e)/\SeqAt.RcAt A s u v (eqD d e)/\SeqAt.RcNeAt A s u v (!eqD d e):=by
 intro n
 induction n with
 | zero =>
  intro d e x y u v A hd hx hy rx ry hu;have hu0:A.units < cLine:=by lia
  cases hx with
  | tup h r=>simp [Dt.dep] at hd
  | non =>
   cases rx
   cases hy with
   | non=>cases ry;exact ⟨.same _,.none_none,.none_none⟩
   | bl=>cases ry;exact ⟨.none_bool _,.none_bool _,.none_bool _⟩
   | int=>obtain ⟨t,rfl⟩:=ry;exact ⟨.none_int _ _,.none_int _ _,.none_int _ _⟩
   | str=>obtain ⟨t,rfl⟩:=ry;exact ⟨.none_str _ _,.none_str _ _,.none_str _ _⟩
   | tup h r=>cases ry;obtain ⟨its,_,p⟩:=I.tup' h;exact ⟨.none_tuple p hu0,.none_tuple p hu0,.none_tuple p hu0⟩
  | bl =>
   cases rx
   cases hy with
   | non=>cases ry;exact ⟨.bool_none _,.bool_none _,.bool_none _⟩
   | bl=>cases ry;exact ⟨.bool_bool _ _,.bool_bool _ _,.bool_bool _ _⟩
   | int=>obtain ⟨t,rfl⟩:=ry;exact ⟨.bool_int _ _ _,.bool_int _ _ _,.bool_int _ _ _⟩
   | str=>obtain ⟨t,rfl⟩:=ry;exact ⟨.bool_str _ _ _,.bool_str _ _ _,.bool_str _ _ _⟩
   | tup h r=>cases ry;obtain ⟨its,_,p⟩:=I.tup' h;exact ⟨.bool_tuple _ p hu0,.bool_tuple _ p hu0,.bool_tuple _ p hu0⟩
  | int =>
   obtain ⟨t0,rfl⟩:=rx
   cases hy with
   | non=>cases ry;exact ⟨.int_none _ _,.int_none _ _,.int_none _ _⟩
   | bl=>cases ry;exact ⟨.int_bool _ _ _,.int_bool _ _ _,.int_bool _ _ _⟩
   | int=>obtain ⟨t,rfl⟩:=ry;exact ⟨.int_int _ _ _ _,.int_int _ _ _ _,.int_int _ _ _ _⟩
   | str=>obtain ⟨t,rfl⟩:=ry;exact ⟨.int_str _ _ _ _,.int_str _ _ _ _,.int_str _ _ _ _⟩
   | tup h r=>cases ry;obtain ⟨its,_,p⟩:=I.tup' h;exact ⟨.int_tuple _ _ p hu0,.int_tuple _ _ p hu0,.int_tuple _ _ p hu0⟩
  | str =>
   obtain ⟨t0,rfl⟩:=rx
   cases hy with
   | non=>cases ry;exact ⟨.str_none _ _,.str_none _ _,.str_none _ _⟩
   | bl=>cases ry;exact ⟨.str_bool _ _ _,.str_bool _ _ _,.str_bool _ _ _⟩
   | int=>obtain ⟨t,rfl⟩:=ry;exact ⟨.str_int _ _ _ _,.str_int _ _ _ _,.str_int _ _ _ _⟩
   | str=>obtain ⟨t,rfl⟩:=ry;exact ⟨.str_str _ _ _ _,.str_str _ _ _ _,.str_str _ _ _ _⟩
   | tup h r=>cases ry;obtain ⟨its,_,p⟩:=I.tup' h;exact ⟨.str_tuple _ _ p hu0,.str_tuple _ _ p hu0,.str_tuple _ _ p hu0⟩
 | succ n ih =>
  intro d e x y u v A hd hx hy rx ry hu;have hu0:A.units < cLine:=by lia
  cases hx with
  | tup h r =>
   rename_i l a xs
   cases rx
   cases hy with
   | non=>cases ry;obtain ⟨its,_,p⟩:=I.tup' h;exact ⟨.tuple_none p hu0,.tuple_none p hu0,.tuple_none p hu0⟩
   | bl=>cases ry;obtain ⟨its,_,p⟩:=I.tup' h;exact ⟨.tuple_bool _ p hu0,.tuple_bool _ p hu0,.tuple_bool _ p hu0⟩
   | int=>obtain ⟨t,rfl⟩:=ry;obtain ⟨its,_,p⟩:=I.tup' h;exact ⟨.tuple_int _ _ p hu0,.tuple_int _ _ p hu0,.tuple_int _ _ p hu0⟩
   | str=>obtain ⟨t,rfl⟩:=ry;obtain ⟨its,_,p⟩:=I.tup' h;exact ⟨.tuple_str _ _ p hu0,.tuple_str _ _ p hu0,.tuple_str _ _ p hu0⟩
   | tup h' r' =>
    rename_i m b ys
    cases ry
    obtain ⟨its,q,p⟩:=I.tup' h;obtain ⟨its',q',p'⟩:=I.tup' h';have l1:its.length=l.length:=by rw [<- q.length,<- r.length]
    have l2:its'.length=m.length:=by rw [<- q'.length,<- r'.length]
    have he:∀ j (h1:j < its.toArray.size) (h2:j < its'.toArray.size),SeqAt.EqAt A.in1 s its.toArray[j] its'.toArray[j] (eqD (l.getD j .non) (m.getD j .non)):=by
     intro j h1 h2;have j1:j < l.length:=by simpa [l1] using h1
     have j2:j < m.length:=by simpa [l2] using h2
     obtain ⟨x1,ex,dx⟩:=r.get (i:=j) (d:=l.getD j .non) (by simp [aAK,j1]);obtain ⟨y1,ey,dy⟩:=r'.get (i:=j) (d:=m.getD j .non) (by simp [aAK,j2]);obtain ⟨u1,eu,ru⟩:=q.get ex;obtain ⟨v1,ev,rv⟩:=q'.get ey;have e1:its.toArray[j]=u1:=by
      have:its[j]?=some its[j]:=by simp [l1,j1]
      rw [this] at eu
      simpa using Option.some.inj eu
     have e2:its'.toArray[j]=v1:=by
      have:its'[j]?=some its'[j]:=by simp [l2,j2]
      rw [this] at ev
      simpa using Option.some.inj ev
     rw [e1,e2];have hdl:er l<=n:=by simp only [Dt.dep] at hd;lia
     exact (ih _ _ _ _ _ _ A.in1 (aAx (m9 j1) hdl) dx dy ru rv (by rw [cO];lia)).1
    have ev:eqD (.tup l) (.tup m)=((List.range (min its.toArray.size its'.toArray.size)).all (λj=>eqD (l.getD j .non) (m.getD j .non)) && its.toArray.size == its'.toArray.size):=by
     simp only [eqD,aAm,l1,l2];exact iG l m
    rw [ev];refine ⟨?_,SeqAt.RcAt.tuples p p' hu0 he,SeqAt.RcNeAt.tuples p p' hu0 he⟩
    by_cases hab:a=b
    ·subst hab;have e3:=I.tuple_inj h h';subst e3;have e4:=IsDs.inj I r r';subst e4;rw [<- ev,fu];exact .same _
    ·exact .of_refs hab (SeqAt.RcAt.tuples p p' hu0 he)
  | non=>exact ih _ _ _ _ _ _ A (by simp [Dt.dep]) .non hy rx ry (by lia)
  | bl=>exact ih _ _ _ _ _ _ A (by simp [Dt.dep]) .bl hy rx ry (by lia)
  | int=>exact ih _ _ _ _ _ _ A (by simp [Dt.dep]) .int hy rx ry (by lia)
  | str=>exact ih _ _ _ _ _ _ A (by simp [Dt.dep]) .str hy rx ry (by lia)
def Hg (K:W.Frag):R2:=λx y H Q=>∃ d e,IsD K H d x/\IsD K H e y/\d.dep<=60/\Q (.bl (eqD d e)) H
theorem A7 (hu:X.A.units+64 < cLine):OpR X (compareOp .Eq) (Hg X.K):=by
 intro pins s σ H x y v u Q I rx ry h;obtain ⟨d,e,hd,he,hn,q⟩:=h;exact (wn I 60 d e x y v u X.A hn hd he rx ry (by lia)).2.1 _ _ _ _ ⟨.bl _,H,I,rfl,q⟩
end
end L2
namespace PySem.W
open PySem PySem.Spec PyProof.Rows PySem.Calls
structure ExcK (K:Frag) (C:Addr):Prop where
 ga:findIn K (.ref C) "__getattribute__" = some (some (.builtin "BaseException.__getattribute__"))
 gt:findIn K (.ref C) "__getattr__" = some none
 cl:findIn K (.ref C) "__class__" = some (some (.builtin "object.__class__"))
 sb:mroIn K C (.type "BaseException")=some true
 so:mroIn K C (.type "object")=some true
 cd:∃ c,clsIn K C=some c
section
variable {prog:Program} {w:World} {A:Around} {E:Value->Shared->Prop} {h:Heap} {g:Array GenState} {d:Drawn} {t:Nat} {os:OsState} {a C:Addr} {o:Obj} {K:Frag}
theorem xlk {M:Model} {n:Str} {y:Option Value} {Q:Option Value->Shared->Prop} (X:K.In h) (e:findIn K (.ref C) n=some y) (hq:Q y ⟨h,g,d,t,os⟩):wpAny M A (typeLookup (.ref C) n) Q E ⟨h,g,d,t,os⟩ :=
 (looks_findIn X e).at hq
theorem Hh {M:Model} {T:Value} {y:Bool} {Q:Bool->Shared->Prop} (X:K.In h) (e:mroIn K C T=some y) (hq:Q y ⟨h,g,d,t,os⟩):wpAny M A (isSubtype (.ref C) T) Q E ⟨h,g,d,t,os⟩ :=
 (looks_mroIn X e).at hq
theorem pI {R:Result->Shared->Prop} (X:K.In h) (G:ExcK K C) (hx:h.get? a=some o) (hc:o.cls=.ref C) (hq:R (.ok (.ret (.ref C))) ⟨h,g,d,t,os⟩) :
  codeAny (model prog w) A (.call (.builtin "getset_descriptor.__get__") ⟨[.builtin "object.__class__",.ref a,.ref C],[]⟩) R ⟨h,g,d,t,os⟩:=by
 have hT5:(⟨h,g,d,t,os⟩:Shared).TypeIs (.builtin "object.__class__") "getset_descriptor" :=F.typeOf_object_class;have hso:mroIn K C (.type (".".intercalate ("object.__class__".cutAt '.').dropLast))=some true:=by rw [F.owner_object_class];exact G.so
 refine codeAny_call_builtin F.slot_gs_get.plain F.entry_gs_get (F.slot_gs_get.check _ _ _ _ _ _ _ _ hT5 (F.args_gs_get _ _ _) ?_)
 repeat (any_goals (first | assumption | (with_reducible refine wpAny_loadPart_at hx ?_;rw [hc]) | (with_reducible refine Hh X hso ?_) | wp_step))
 refine ⟨Code.quiet_builtin _ (by decide +kernel),codeAny_builtin F.entry_object_class ?_⟩
 repeat (any_goals (first | assumption | (with_reducible refine wpAny_loadPart_at hx ?_;rw [hc]) | wp_step))
theorem lA {tk:Tok} {Q:Fin->Shared->Prop} (X:K.In h) (G:ExcK K C) (hx:h.get? a=some o) (hc:o.cls=.ref C) (hq:Q (.done (.ret (.ref C))) ⟨h,g,d,t,os⟩) :
  wpAny (model prog w) A (Builtin.«object.__getattribute__» ⟨[.ref a,.str "__class__" tk],[]⟩) Q E ⟨h,g,d,t,os⟩:=by
 have hT5:(⟨h,g,d,t,os⟩:Shared).TypeIs (.builtin "object.__class__") "getset_descriptor" :=F.typeOf_object_class;have f5:=F.typeOf_object_class;have f6:=F.slot_gs_get.lookup;have f7:=F.slot_gs_set.lookup
 repeat (any_goals (first | assumption | (with_reducible refine wpAny_loadPart_at hx ?_;rw [hc]) | with_reducible refine xlk X G.cl ?_ | wp_step))
 refine pI X G hx hc ?_
 repeat (any_goals (first | assumption | wp_step))
theorem rW {M:Model} {nameV:Value} {Q:Unit->Shared->Prop} (X:K.In h) (G:ExcK K C) (hx:h.get? a=some o) (hc:o.cls=.ref C) (hq:Q () ⟨h,g,d,t,os⟩) :
  wpAny M A (checkBuiltinCall "BaseException.__getattribute__" ⟨[.ref a,nameV],[]⟩) Q E ⟨h,g,d,t,os⟩:=by
 have hk:builtinKind "BaseException.__getattribute__" = some .slot:=by decide +kernel
 have hsplit:splitId "BaseException.__getattribute__" = some ("BaseException","__getattribute__"):=by decide +kernel
 have ha:=F.args_bexc_ga (.ref a) nameV;simp only [checkBuiltinCall,hk,hsplit];refine wpAny_bind ?_
 ·unfold isInstance
  repeat (first | (with_reducible refine wpAny_loadPart_at hx ?_;rw [hc]) | (with_reducible refine Hh X G.sb ?_) | wp_step)
  exact hq
theorem nc {tk:Tok} {R:Result->Shared->Prop} (X:K.In h) (G:ExcK K C) (hx:h.get? a=some o) (hc:o.cls=.ref C) (hq:R (.ok (.ret (.ref C))) ⟨h,g,d,t,os⟩) :
  codeAny (model prog w) A (.call (.builtin "BaseException.__getattribute__") ⟨[.ref a,.str "__class__" tk],[]⟩) R ⟨h,g,d,t,os⟩ :=
 codeAny_call_builtin F.attr_ValueError.ga.plain F.entry_bexc_ga (rW X G hx hc (lA X G hx hc hq))
theorem rX {tk:Tok} {fill expr:Bool} {Q:Value->Shared->Prop} (X:K.In h) (G:ExcK K C) (hx:h.get? a=some o) (hc:o.cls=.ref C) (hq:Q (.ref C) ⟨h,g,d,t,os⟩) :
  wpAny (model prog w) A (getAttrBy (.ref a) (.str "__class__" tk) fill expr) Q E ⟨h,g,d,t,os⟩:=by
 have f3:=F.attr_ValueError.ga.bind (.ref a);have hx0:(expr && onTheHeap (Value.builtin "BaseException.__getattribute__"))=false:=by cases expr <;> rfl
 have hx2:(Value.builtin "BaseException.__getattribute__" == Value.builtin "object.__getattribute__")=false:=by decide +kernel
 have hx1:(onTheHeap (Value.ref C) && Value.builtin "BaseException.__getattribute__" == Value.builtin "object.__getattribute__")=false:=by rw [hx2];rfl
 repeat (any_goals (first | assumption | (with_reducible refine wpAny_loadPart_at hx ?_;rw [hc]) | with_reducible refine xlk X G.ga ?_ | with_reducible refine xlk X G.gt ?_ | wp_step))
 refine nc X G hx hc ?_
 repeat (any_goals (first | assumption | wp_step))
theorem ng {Q:Option Value->Shared->Prop} (X:K.In h) (G:ExcK K C) (hx:h.get? a=some o) (hc:o.cls=.ref C) (hq:Q (some (.ref C)) ⟨h,g,d,t+1,os⟩) :
  wpAny (model prog w) A (getAttr? (.ref a) "__class__") Q E ⟨h,g,d,t,os⟩:=by
 unfold getAttr? getAttrBy?
 repeat (any_goals (first | assumption | with_reducible apply rX X G hx hc | wp_step))
theorem kitx_exc (G:ExcK K C):KitX K (.ref a) (.ref C) (λh=>∃ o,h.get? a=some o/\o.cls=.ref C) where
 ty:=λM h _ ⟨o,e,c⟩=>by
  have L:Looks M h (typeOf (.ref a)) o.cls:=(Looks.ld e).andThen .now;rw [c] at L;exact L
 it:=λ_ _ X _=>by
  obtain ⟨cdD,hcD⟩:=G.cd;unfold clsIn at hcD
  split at hcD
  ·rename_i c' d' cd' sl' ho
   intro A' Q' E' s' k q;unfold isType loadHead;exact wpAny_bind (wpAny_loadPart (k _ _ (X _ _ ho)) (wpAny_pure q))
  ·cases hcD
 ne:=λh tp dd its n sl X htp=>by
  obtain ⟨cdD,hcD⟩:=G.cd;refine aBc.mpr λq=>?_;have e:C=tp:=Value.ref.inj (beq_iff_eq.mp q);subst e;unfold clsIn at hcD
  split at hcD
  ·rename_i c' d' cd' sl' ho
   have z:=X _ _ ho;rw [htp] at z
   cases z
  ·cases hcD
 ca:=λ{_ _ _ _ _ s} X ⟨o,e,c⟩ q=>by
  obtain ⟨h,g,d,t,os⟩:=s;exact ng X G e c q
end
end PySem.W
namespace L2
open PySem PySem.Spec PyProof.Rows
def xO (a C:Addr):HO:=.ext λh=>∃ o,h.get? a=some o/\o.cls=.ref C
theorem Hi {P:Program} {w:World} {H:Hp} {h:Heap} {a C:Addr} (e:∃ o,h.get? a=some o/\o.cls=.ref C):ObjOk P w H h a (xO a C) :=
 ⟨e,e.imp λ_ q=>q.1,λ_ _ ⟨o,q,c⟩ k=>⟨o,k o q,c⟩⟩
theorem Inv.exc {X:Cx} {pins:List (Addr×Obj)} {σ:St} {H:Hp} {s:Shared} {a C:Addr} (I:Inv X pins σ H s) (e:H a=some (xO a C)):∃ o,s.heap.get? a=some o/\o.cls=.ref C :=
 (show ObjOk X.prog X.w H s.heap a (xO a C) from I.hok a _ e).1
abbrev bmV:List Value:=[.type "ValueError",.type "Exception",.type "BaseException",.type "object"]
structure ExC (K:W.Frag) (mg:Str->Option Value) (x:Str) (C:Addr):Prop where
 m:mg x=some (.ref C)
 q:W.excIn K C bmV "ValueError.__new__" = true
 k:W.ExcK K C
 kp:W.keepIn K (.ref C)=true
theorem ik {K:W.Frag} {h:Heap} {C:Addr} {bmB:List Value} {newId:String} (X:K.In h) (q:W.excIn K C bmB newId=true) :
  ∃ bm N nm qn bs hd sn sub ab col dd k0 k1 k2 k3 k5 mN,h.get? C=some (excClassObj nm qn C N bs bm hd sn sub ab col dd k0 k1 k2 k3 k5 newId)/\h.Ns N mN/\mN "__init__" = none/\OwnTail h bmB bm:=by
 unfold W.excIn at q
 split at q
 case h_2=>cases q
 case h_1 dd cd sl ho =>
  split at q
  case h_2=>cases q
  case h_1 C' bm k0 k1 k2 k3 n k5 hm hs =>
   simp only [aAr,beq_iff_eq,aBD] at q;obtain ⟨⟨⟨⟨⟨q1,q2⟩,q3⟩,q4⟩,q5⟩,q6⟩:=q;subst q1 q2;obtain ⟨nm,bs,mro,ns,qn,hd,sn,sub,ab,col,del⟩:=cd;dsimp only at hm q3 q5 q6;subst hm q3;obtain ⟨l⟩:=sl;dsimp only at hs;subst hs;exact ⟨bm,ns,nm,qn,bs,hd,sn,sub,ab,col,dd,k0,k1,k2,k3,k5,_,X _ _ ho,.of_isNs (W.isNs_of_in X q5),W.nsMap_none_of_in X q5 q6,W.tail_of_in X q4⟩
section
variable {X:Cx} {pins:List (Addr×Obj)} {σ:St} {H:Hp} {s:Shared}
theorem uc:aN X (.builtin "isinstance") (λxs H Q=>∃ a C D b,xs=[.ref a,.ref D]/\H a=some (xO a C)/\W.ExcK X.K C/\W.kitOne X.K (.ref C) (.ref D)=some b/\Q (.bl b) H):=by
 intro pins s σ H xs us Q I r h;obtain ⟨a,C,D,b,rfl,ha,G,hk,q⟩:=h;obtain ⟨u,w',rfl,rx,rD⟩:=mM r
 cases rx
 cases rD
 exact W.kia_one (W.kitx_exc G) I.kIn (I.exc ha) hk (λz=>nomatch z) λtk=>⟨.bl b,H,I.tok tk,rfl,q⟩
theorem rY:aN X (.builtin "isinstance") (λxs H Q=>∃ a C T b,xs=[.ref a,.ty T]/\H a=some (xO a C)/\W.ExcK X.K C/\W.kitOne X.K (.ref C) (.type T)=some b/\Q (.bl b) H):=by
 intro pins s σ H xs us Q I r h;obtain ⟨a,C,T,b,rfl,ha,G,hk,q⟩:=h;obtain ⟨u,w',rfl,rx,rD⟩:=mM r
 cases rx
 cases rD
 exact W.kia_one (W.kitx_exc G) I.kIn (I.exc ha) hk (λz=>nomatch z) λtk=>⟨.bl b,H,I.tok tk,rfl,q⟩
end
def CXE (P:Program) (w:World):CXT:=λouter H s E e s'=>∃ (ea C:Addr) (a0:Value) (B:Heap) (H':Hp),e=.ref ea/\Heap.FlyingW B outer ea (.ref C) a0 s'.heap/\s'.os=s.os/\AllBare s'.gens/\Un (frs outer) [] H H' s.heap s'.heap/\HOk P w H' B /\
 (∀ b o,s.heap.get? b=some o->H b=none->b∉frs outer->B.get? b=some o)/\(∀ b o,s.heap.get? b=some o->b∉frs outer->∃ o',B.get? b=some o')/\E (.ref C) none H'
theorem cF {fs:List Addr} {H H1:Hp} {h h1 h' B:Heap} (u:Un fs [] H H1 h h1) (c1:∀ b o,h.get? b=some o->H b=none->b∉fs->B.get? b=some o) (c2:∀ b o,h.get? b=some o->b∉fs->∃ o',B.get? b=some o')
  (st:B.StaysIn h') (c3:∀ b o,h.get? b=some o->b∈fs->∃ sl,h'.get? b=some { o with slots:=sl }):Un fs [] H H1 h h' where
 keep:=λb o q n hb _=>st b o (c1 b o q n hb)
 slot:=λb o q n hb _=>c3 b o q hb
 free:=u.free
 there:=λb o q hx=>by
  by_cases hb:b∈fs
  ·obtain ⟨sl,e⟩:=c3 b o q hb;exact ⟨_,e⟩
  ·obtain ⟨o',e⟩:=c2 b o q hb;exact ⟨o',st b o' e⟩
 tups:=u.tups
 frzs:=u.frzs
 tbls:=u.tbls
def ud (X:Cx) (E:XK):Prop:=X.xe=λe s'=>wpAny (model X.prog X.w) X.A (leaving X.env e) (λ_ s''=>CXE X.prog X.w X.outer X.H₀ X.s₀ E e s'') (λe' s''=>CXE X.prog X.w X.outer X.H₀ X.s₀ E e' s'') s'
section
variable {X:Cx} {pins:List (Addr×Obj)} {σ:St} {H:Hp} {s:Shared}
theorem bP {base h:Heap} {l:List Env} {b:Addr} (f:h.FunFrames base l) (hb:b∈frs l):∃ o,h.get? b=some o/\∀ vs,o.data≠.fields vs:=by
 obtain ⟨_,o,ho,hn⟩:=f.mem hb;exact ⟨o,ho,hn⟩
theorem ue {E:XK} {C:Addr} {ea:Addr} {vs:List Value} {h':Heap} {tk:Nat} (hx:ud X E) (hstk:X.stack=X.env :: X.outer) (hfr:X.env.frame=some X.env.locals) (hex:X.ex=[]) (I:Inv X pins σ H s) (hm:Heap.MadeExcOf s.heap h' ea (.ref C) vs)
  (q:E (.ref C) none H):X.xe (.ref ea) { s with heap:=h',toks:=tk }:=by
 rw [hx];have F0:s.heap.FunFrames X.base (X.env :: X.outer):=by rw [<- hstk];exact I.stack
 have fr0:X.A.frames=some (X.env :: X.outer):=by rw [<- hstk];exact I.ok.frames
 have mem:∀ b∈frs X.outer,b∈frs (X.env :: X.outer):=λb hb=>by
  obtain ⟨env,he,hf⟩:=aAn.mp hb;exact aAn.mpr ⟨env,aAj _ he,hf⟩
 have inv:∀ b,b∈frs (X.env :: X.outer)->b=X.env.locals\/b∈frs X.outer:=λb hb=>by
  obtain ⟨env,he,hf⟩:=aAn.mp hb;rcases aAb.mp he with rfl | he
  ·rw [hfr] at hf;exact .inl (Option.some.inj hf).symm
  ·exact .inr (aAn.mpr ⟨env,he,hf⟩)
 have hin:∀ env∈(X.env :: X.outer),∀ b,env.frame=some b->b∈frs (X.env :: X.outer):=λenv he b hb=>aAn.mpr ⟨env,he,hb⟩;have stayB:∀ b o,s.heap.get? b=some o->b∉frs (X.env :: X.outer)->(W.hideAll s.heap (frs (X.env :: X.outer))).get? b=some o:=λb o e n=>W.hideAll_get _ e n;have old:∀ b o,X.s₀.heap.get? b=some o->b∉frs X.outer->b∉frs (X.env :: X.outer):=λb o e n z=>by
  rcases inv b z with rfl | z
  ·exact absurd (aAi (aAd e) I.ok.above) (aAE _)
  ·exact n z
 refine wpAny_leaves_madeW (s:={ s with heap:=h',toks:=tk }) fr0 hfr (λb o e=>W.of_hideAll _ e) (W.funFrames_hide F0 hin) hm λh2 t fl _ _ up=>?_;have B0:Un X.fs [] X.H₀ H X.s₀.heap s.heap:=by have z:=I.base;rw [hex] at z;exact z
 have c1:∀ b o,X.s₀.heap.get? b=some o->X.H₀ b=none->b∉frs X.outer->(W.hideAll s.heap (frs (X.env :: X.outer))).get? b=some o:=λb o e n hb=>stayB b o (B0.keep b o e n hb (by simp)) (old b o e hb);have c2:∀ b o,X.s₀.heap.get? b=some o->b∉frs X.outer->∃ o',(W.hideAll s.heap (frs (X.env :: X.outer))).get? b=some o':=λb o e hb=>by
  obtain ⟨o',e'⟩:=B0.there b o e (by simp);exact ⟨o',stayB b o' e' (old b o e hb)⟩
 refine ⟨ea,C,_,_,H,rfl,fl,I.os,I.bare,cF B0 c1 c2 fl.1 λb o e hb=>?_,λb u e=>?_,c1,c2,q⟩
 ·obtain ⟨sl,e1⟩:=B0.slot b o e (I.ok.frf b hb) hb (by simp);obtain ⟨o2,e2,nf⟩:=bP F0 (mem b hb);rw [e1] at e2;obtain rfl:=Option.some.inj e2;obtain ⟨sl2,e3⟩:=up b _ (hm.keeps b _ e1) nf;exact ⟨sl2,e3⟩
 ·refine (I.hok b u e).stay (λc v hc z=>stayB c v z λhf=>?_) (λ_ z=>z) λ_ _ z=>z;have n0:H c=none:=by rw [<- hstk] at hf;exact I.stkFree c hf
  rcases hc with rfl | hc
  ·rw [e] at n0;cases n0
  ·rw [hc] at n0;cases n0
def pJ (C:Addr) (E:XK) (t:TA):TS:=λ_ σ H=>t σ H λxs H1=>xs.length<=sizeLine/\E (.ref C) none H1
theorem ps_raise {E:XK} {x:Str} {C:Addr} {e:Expr} {es:List Expr} {t:TA} {np cpos pos:Pos} (hx:ud X E) (hstk:X.stack=X.env :: X.outer) (hfr:X.env.frame=some X.env.locals) (hex:X.ex=[]) (hc:X.calm=true) (G:ExC X.K X.mg x C) (hg:Gl X x) (ha:PA X (e :: es) t)
  (hdb:(x == ("__debug__" : Str))=false:=by decide) (he:starEach (e :: es) X.env=(false,eval e X.env) :: starEach es X.env:=by rfl) (hpl:(backTo cpos (starEach es X.env)).any (·.1)=false:=by rfl) :
  PS X (.Raise (some (.Call (.Name x np) (e :: es) [] cpos)) none pos) (pJ C E t):=by
 intro pins s σ H D I h;obtain ⟨bm,N,nm,qn,bs,hd,sn,sub,ab,col,dd,k0,k1,k2,k3,k5,mN,hC,hN,hni,T⟩:=ik I.ok.mod.kin G.q;refine wpAny_Raise_call_subT (C:=C) (nm:=nm) (q:=qn) (N:=N) (bs:=bs) (bm:=bm) (hdct:=hd) (sn:=sn) (sub:=sub) (ab:=ab) (col:=col) (dd:=dd) (k0:=k0) (k1:=k1) (k2:=k2) (k3:=k3) (k5:=k5) F.excBase_ValueError (mN:=mN) (T.hasType F.excBase_ValueError.hasBase) (I.ok.hd hc)
  (by rw [he];show (false || (backTo cpos (starEach es X.env)).any (·.1))=false;rw [hpl];rfl) hni (aU I hg G.m ⟨rfl,?_⟩ hdb)
 have z:=ha cpos pins s σ H _ I h;rw [he] at z ⊢;refine Calls.evalArgs_plain (wpAny_mono z (λus s2 ⟨vs,H2,I2,r,hz,q⟩=>?_) λ_ _ y=>y);refine ⟨rfl,by show us.length<=sizeLine;rw [<- r.length];exact hz,I2.bk _ _ hC,hN.keeps I2.bk,T.keeps I2.bk,λh' ea hm=>?_⟩;exact ue (tk:=s2.toks) hx hstk hfr hex I2 hm q
end
theorem Fun.okE {P:Program} {w:World} {K:W.Frag} {mg:Str->Option Value} {base:Heap} {x qual:Str} {st:Stmt} {f:Addr} {fd:FuncData} {N ps:List Str} {k:Nat} {sp:Sp} (F:Fun K x qual st f fd) (S:FnScope N ps (aa st)) (len:∀ vs H Q E,sp vs H Q E->vs.length=ps.length)
  (hbody:∀ (cdv:Value) (A:Around) (outer:List Env) (s:Shared) (H:Hp) (vs:List V) (Q:VK) (E:XK),Room k (A.deeper (envOfC qual (aa st) s.heap.objs.size f cdv))->sp vs H Q E ->
   ∃ t,PSs (gQ (CXE P w) P w K mg base N qual (aa st) f cdv A outer s H E) (br st) t/\t { nx:=λ_ H'=>Q .non H',rt:=Q } (dF N vs) H):FnOk P w K mg base (CXE P w) (k+1) f fd ps sp:=by
 obtain ⟨oc,od,kV,doc,pm,an,cdv,ct,osl,rfl,lk,hcd⟩:=F.ex;exact qF lk hcd S len λA outer s H vs Q E hr hsp=>hbody cdv A outer s H vs Q E hr hsp
theorem xeOf {P:Program} {w:World} {K:W.Frag} {mg:Str->Option Value} {base:Heap} {N:List Str} {qual:Str} {scope:Scope} {f:Addr} {cd:Value} {A:Around} {outer:List Env} {s:Shared} {H:Hp} {E:XK} :
  ud (gQ (CXE P w) P w K mg base N qual scope f cd A outer s H E) E:=rfl
theorem nh {P:Program} {w:World} {H:Hp} {h:Heap} {a:Addr} (hok:HOk P w H h) (hp:h.get? a=none):H a=none:=by
 cases q:H a with
 | none=>rfl
 | some u =>
  have w':=hok a u q
  exfalso
  cases u with
  | lst xs=>obtain ⟨_,its,n,_,e⟩:=w';rw [hp] at e;cases e
  | tup xs=>obtain ⟨_,its,_,ob,e,_⟩:=w';rw [hp] at e;cases e
  | dK kvs=>obtain ⟨_,_,vs,_,ob,es,ep,e,_⟩:=w';rw [hp] at e;cases e
  | dT kvs=>obtain ⟨_,_,xs,_,ob,es,ep,e,_⟩:=w';rw [hp] at e;cases e
  | set S n=>obtain ⟨ob,es,ep,t,e,_⟩:=w';rw [hp] at e;cases e
  | ins C dx fs=>obtain ⟨_,_,_,e,_⟩:=w';rw [hp] at e;cases e
  | own y=>obtain ⟨ob,e⟩:=w';rw [hp] at e;cases e
  | xd fs=>obtain ⟨mA,⟨od,es,ep,e,_⟩,_⟩:=w';rw [hp] at e;cases e
  | rng lo hi=>obtain ⟨t,u,v,e⟩:=w';rw [hp] at e;cases e
  | frz ob u=>obtain ⟨e,_⟩:=w';rw [hp] at e;cases e
  | tbl ps=>have e:h.get? a=some { cls:=.none,data:=.fields ps }:=w';rw [hp] at e;cases e
  | met f y=>have e:h.get? a=some (W.methodObj (.ref f) (.ref y)):=w';rw [hp] at e;cases e
  | ext φ=>obtain ⟨_,⟨o,e⟩,_⟩:=w';rw [hp] at e;cases e
def hcx (X:Cx) (ea:Addr):Cx:={ X with A:=X.A.mark (some (.ref ea)),calm:=false,xe:=λ_ _=>False }
section
variable {X:Cx} {pins:List (Addr×Obj)} {σ:St} {H:Hp} {s:Shared}
theorem Cx.Ok.hcx (ok:X.Ok) (ea:Addr):(hcx X ea).Ok :=
 ⟨ok.mod,ok.kind,ok.glob,ok.blt,ok.above,ok.inj,ok.has,ok.cab,λz=>absurd z (by show ¬ (false=true);decide),ok.frames,ok.stk,ok.exf,ok.bs,ok.bsz,ok.noex,ok.exfs,ok.funs,ok.frf⟩
theorem Inv.hcx (I:Inv X pins σ H s) (ea:Addr):Inv (hcx X ea) pins σ H s:=⟨I.ok.hcx ea,I.os,I.bare,I.base,I.loc,I.cell,I.free,I.freeC,I.pin,I.hok,I.len⟩
theorem Inv.unhcx {ea:Addr} (I:Inv (L2.hcx X ea) pins σ H s) (ok:X.Ok):Inv X pins σ H s:=⟨ok,I.os,I.bare,I.base,I.loc,I.cell,I.free,I.freeC,I.pin,I.hok,I.len⟩
theorem Inv.goes {i:Nat} {n:Str} {pos:Pos} {M:Model} {A:Around} {E:Value->Shared->Prop} {Q:Unit->Shared->Prop} (I:Inv X pins σ H s) (hN:X.N.Nodup) (hi:X.N[i]?=some n) (hl:X.env.scope.names.lookup n=some .local)
  (h:∀ s',Inv X pins (σ.set i none) H s'->Q () s'):wpAny M A (do bindName X.env n .none;unbindBehindTheSuite X.env n pos) Q E s:=by
 obtain ⟨m,hn,hlk⟩:=id I.loc;have hcls:(X.env.scope.kind == .class || (X.env.scope.kind == .module && X.env.locals != X.env.globals))=false:=by rw [I.ok.kind];rfl
 have hiσ:i < σ.length:=by rw [I.len];exact (aAg.mp hi).1
 have cne:=I.cne;refine wpAny_nameGoes_keeps hl hn hcls λh' v hn' hs=>?_;have neL:∀ b o,X.s₀.heap.get? b=some o->b≠X.env.locals:=λb o e=>aAl (aAi (aAd e) I.ok.above);refine h _ ⟨I.ok,I.os,I.bare,⟨λb o e n hb hx=>?_,λb o e n hb hx=>?_,I.base.free,λb o e hx=>?_,I.base.tups,I.base.frzs,I.base.tbls⟩,⟨_,hn',λj y v' e1 e2 e3=>?_⟩,λy c e=>?_,I.free,I.freeC,λp hp=>?_,λb u e=>?_,by simpa using I.len⟩
 ·exact (hs.2 b (neL b o e)).trans (I.base.keep b o e n hb hx)
 ·obtain ⟨sl,e1⟩:=I.base.slot b o e n hb hx;exact ⟨sl,(hs.2 b (neL b o e)).trans e1⟩
 ·obtain ⟨o',e1⟩:=I.base.there b o e hx;exact ⟨o',(hs.2 b (neL b o e)).trans e1⟩
 ·by_cases hj:j=i
  ·subst hj;rw [aBl hiσ] at e2
   cases e2
  ·rw [aBt (Ne.symm hj)] at e2;obtain ⟨u',r',q⟩:=hlk j y v' e1 e2 e3;refine ⟨u',r',?_⟩;rcases q with ⟨k,e⟩ | ⟨k,c,e,z⟩
   ·refine .inl ⟨k,?_⟩;have:y≠n:=λe=>hj (iy hN e1 (e ▸ hi));simp [this,e]
   ·exact .inr ⟨k,c,e,z.sameBut hs (cne y c e)⟩
 ·obtain ⟨w',z⟩:=I.cell y c e;exact ⟨w',z.sameBut hs (cne y c e)⟩
 ·obtain ⟨e,n,ne,nf,d⟩:=I.pin p hp;exact ⟨(hs.2 p.1 ne).trans e,n,ne,nf,d⟩
 ·refine (I.hok b u e).stay (λc w' hc q=>(hs.2 c ?_).trans q) (λ_ q=>q) λ_ _ q=>q;rintro rfl;rcases hc with rfl | hc
  ·rw [I.free] at e;cases e
  ·rw [I.free] at hc;cases hc
abbrev TX:=St->Hp->VK->XK->Prop
def PX (X:Cx) (e:Expr) (t:TX):Prop :=
 ∀ (pins:List (Addr×Obj)) (s:Shared) (σ:St) (H:Hp) (Q:VK) (E:XK),Inv X pins σ H s->t σ H Q E ->
  wpAny (model X.prog X.w) X.A (eval e X.env) (EP X pins σ Q) (λex s'=>∃ H1 s1,Inv X pins σ H1 s1/\CXE X.prog X.w X.stack H1 s1 E ex s') s
theorem lB {k:Nat} {f:Addr} {fd:FuncData} {ps:List Str} {sp:Sp} {x:Str} {p pos:Pos} {e:Expr} {es:List Expr} {t:TA} (F:FnOk X.prog X.w X.K X.mg X.base (CXE X.prog X.w) k f fd ps sp) (hr:Room k X.A) (hg:Gl X x) (hm:X.mg x=some (.ref f))
  (hk:W.keepIn X.K (.ref f)=true) (hb:Binds X.K fd ps []) (ha:PA X.nox (e :: es) t) (hdb:(x == ("__debug__" : Str))=false:=by decide) (he:starEach (e :: es) X.env=(false,eval e X.env) :: starEach es X.env:=by rfl)
  (hpl:(backTo pos (starEach es X.env)).any (·.1)=false:=by rfl):PX X (.Call (.Name x p) (e :: es) [] pos) (λσ H Q E=>t σ H λvs H1=>sp vs H1 Q E):=by
 intro pins s σ H Q E I h;refine wpAny_Call_Name_kw (aU I hg hm ?_ hdb);refine W.callWith_K (h₀:=X.base) I.ok.mod.kin hk (wpAny_mono (ha pos pins s σ H _ (I.wish _) h) (λus s1 ⟨vs,H1,I1',r,q⟩=>?_) λ_ _ z=>z.elim) he hpl;have I1:Inv X pins σ H1 s1:=Inv.unwish I1';refine ⟨I1.kIn,?_⟩;have hl:us.length=ps.length:=by rw [<- r.length];exact F.len _ _ _ _ q
 have hb':BindsTo s1 fd ⟨us,[]⟩ (ps.zip us):=by
  have z:=hb s1 us I1.kIn (by rw [aA4];exact hl)
  rwa [aA4] at z
 refine wpAny_call (codeAny_mono (F.run X.A X.stack s1 H1 ⟨us,[]⟩ us vs Q E hr I1.env0 hb' r q) λrr s' hq=>?_)
 cases rr with
 | error ex=>exact ⟨H1,s1,I1,hq⟩
 | ok fl =>
  cases fl with
  | ret u=>exact I1.after hq
  | next=>exact False.elim hq
  | brk=>exact False.elim hq
  | cont=>exact False.elim hq
end
section
variable {X:Cx} {a b c d:Expr} {ta tb tc td:TE} {pos:Pos}
def wo (r r' r'':R2) (ta tb tc td:TE):TE:=λσ H Q=>ta σ H λx H1=>tb σ H1 λy H2=>r x y H2 λz H3=>∃ k,z=.bl k /\
 (if k=true then tc σ H3 λy' H4=>r' y y' H4 λz' H5=>∃ k',z'=.bl k'/\(if k'=true then td σ H5 λw' H6=>r'' y' w' H6 Q else Q (.bl false) H5) else Q (.bl false) H3)
theorem pe_chain3 {op op' op'':CmpOp} {r r' r'':R2} (ho:OpR X (compareOp op) r) (ho':OpR X (compareOp op') r') (ho'':OpR X (compareOp op'') r'') (ha:PE X a ta) (hb:PE X b tb) (hc:PE X c tc) (hd:PE X d td)
  (hm:lastMarks [op,op',op''] [b,c,d]=false:=by with_unfolding_all rfl):PE X (.Compare a [op,op',op''] [b,c,d] pos) (wo r r' r'' ta tb tc td):=by
 intro pins s σ H Q I h;refine Compare_chain (thn (ha pins s σ H _ I h) λv s1 ⟨x,H1,I1,r1,q1⟩=>chain_link (thn (hb pins s1 σ H1 _ I1 q1) λu s2 ⟨y,H2,I2,r2,q2⟩ =>
  thn (ho pins s2 σ H2 x y v u _ I2 r1 r2 q2) λd' s3 ⟨z,H3,I3,r3,k,e,q3⟩=>?_)) hm
 subst e
 cases r3
 refine wpAny_truthy_bool ?_
 cases k with
 | false=>exact ite_ff ⟨.bl false,H3,I3,rfl,q3⟩
 | true =>
  refine ite_tt (chain_link (thn (hc pins s3 σ H3 _ I3 q3) λw' s4 ⟨z',H4,I4,r4,q4⟩=>thn (ho' pins s4 σ H4 y z' u w' _ I4 r2 r4 q4) λd2 s5 ⟨z2,H5,I5,r5,k2,e2,q5⟩=>?_));subst e2
  cases r5
  refine wpAny_truthy_bool ?_
  cases k2 with
  | false=>exact ite_ff ⟨.bl false,H5,I5,rfl,q5⟩
  | true=>exact ite_tt (chain_last (thn (hd pins s5 σ H5 _ I5 q5) λw2 s6 ⟨z3,H6,I6,r6,q6⟩=>ho'' pins s6 σ H6 z' z3 w' w2 Q I6 r4 r6 q6))
end
def jx (D:List (Str×Int)):List (Str×KTD.Dat):=D.map λp=>(p.1,.flat (.int p.2))
def ni (K:W.Frag) (a:Addr) (D:List (Str×Int)):Prop:=∀ h,K.In h->KTD.TextTab h a (jx D)
theorem uf {K:W.Frag} {a:Addr} {D:List (Str×Int)} (e:KTD.tabLook (KTD.datLooks λb=>K.lookup b) (λb=>K.lookup b) a (jx D)=true):ni K a D:=λh X=>KTD.text_of_look (λb o q=>X b o q) e
def bG (k:Str):List (Str×Int)->V
 | []=>.non
 | (x,i) :: D=>if k=x then .int i else bG k D
theorem ko {k:Str}:∀ {D:List (Str×Int)} {d:KTD.Dat},KTD.datumAt k (jx D)=some d->∃ i,d=.flat (.int i)/\bG k D=.int i
 | [],_,h=>by simp [jx,KTD.datumAt] at h
 | (x,i) :: D,d,h=>by
  simp only [jx,aAH,KTD.datumAt,decide_eq_true_eq] at h
  by_cases hk:k=x
  ·rw [if_pos hk] at h;exact ⟨i,(Option.some.inj h).symm,by simp [bG,hk]⟩
  ·rw [if_neg hk] at h;obtain ⟨j,e1,e2⟩:=ko (D:=D) h;exact ⟨j,e1,by simp [bG,hk,e2]⟩
theorem kq {k:Str}:∀ {D:List (Str×Int)},KTD.datumAt k (jx D)=none->bG k D=.non
 | [],_=>rfl
 | (x,i) :: D,h=>by
  simp only [jx,aAH,KTD.datumAt,decide_eq_true_eq] at h
  by_cases hk:k=x
  ·rw [if_pos hk] at h;cases h
  ·rw [if_neg hk] at h;simp [bG,hk,kq (D:=D) h]
section
variable {X:Cx}
def Hj (D:List (Str×Int)) (t:TA):TE:=λσ H Q=>t σ H λvs H1=>∃ k,vs=[.str k]/\Q (bG k D) H1
theorem pe_kget {x:Str} {ad:Addr} {D:List (Str×Int)} {e:Expr} {t:TA} {p apos cpos:Pos} (hD:ni X.K ad D) (hg:Gl X x) (hm:X.mg x=some (.ref ad)) (ha:PA X [e] t) (hdb:(x == ("__debug__" : Str))=false:=by decide)
  (hbase:attributeBase (.Name x p) "get" X.env (eval (.Name x p) X.env)=eval (.Name x p) X.env:=by rfl)
  (hfew:((backTo cpos (starEach [e] X.env)).all (λx=>!x.1) && (backToKw cpos (keywordEach [] X.env)).all (λx=>x.1.isSome)
   && decide (([e]:List Expr).length+([]:List Keyword).length+(if ([]:List Keyword).isEmpty then 0 else 1) < 30))=true:=by rfl)
  (hline:(apos.endLine == cpos.line)=true:=by rfl) (hs:starEach [e] X.env=(false,eval e X.env) :: starEach [] X.env:=by rfl) :
  PE X (.Call (.Attribute (.Name x p) "get" apos) [e] [] cpos) (Hj D t):=by
 intro pins s σ H Q I h;refine wpAny_Call_method_late hbase hfew hline rfl (aU I hg hm ?_ hdb);have T:∀ {s':Shared} {σ':St} {H':Hp} {pins':List (Addr×Obj)},Inv X pins' σ' H' s'->KTD.Here X.base s'.heap ad (jx D):=λJ=>⟨hD _ J.ok.mod.kin,J.bk⟩;refine ⟨"dict","dict.get",PySem.F.plainAttrs_dict,PySem.F.slot_dict_get,PySem.F.type_dict_get,(T I).typeIs,(T I).noDict,?_⟩;have hA:=ha cpos pins s σ H _ I h;rw [hs] at hA ⊢;refine Calls.callWith_builtin (0) (Calls.evalArgs_plain ?_);refine thn hA λus s2 ⟨vs,H2,I2,r2,k,e2,q2⟩=>?_;subst e2;obtain ⟨u,rfl,ru⟩:=cc r2;obtain ⟨tk,rfl⟩:=ru;refine call_meetsIn PySem.F.slot_dict_get (T I2).typeIs PySem.F.entry_dict_get (PySem.F.args_dict_get_2 _ _) (KTD.meets_get1 (h₀:=X.base) (D:=jx D)) ⟨T I2,λdd v hdd hv=>?_,λhn=>?_⟩
 ·obtain ⟨i,rfl,el⟩:=ko hdd;have hv':Reads s2.heap v (.int i) []:=hv s2.heap;obtain ⟨t0,rfl⟩:∃ t0,v=.int i t0:=by cases hv';exact ⟨_,rfl⟩
  rw [el] at q2;exact ⟨.int i,H2,I2.tok _,⟨_,rfl⟩,q2⟩
 ·rw [kq hn] at q2;exact ⟨.non,H2,I2.tok _,rfl,q2⟩
end
theorem csR {X:Cx} {scope sc:Scope} {NL N N':List Str} {ρ:List Nat} (hsc:X.env.scope=sc) (hN:X.N=N) (h1:scope.kind=.function) (h2:(scope.names.all λx=>x.2 != .cell)=true) (h3:∀ x∈scope.names,x.2=.local->scope.names.lookup x.1=some .local)
  (h4:(scope.names.all λx=>x.2 != .free || sc.names.lookup x.1 == some .cell)=true) (h5:N'=NL++ρ.map λj=>N.getD j "")
  (h6:(ρ.all λj=>match N[j]? with | some x=>scope.names.lookup x == some .free && sc.names.lookup x == some .cell | none=>false)=true):CScope X scope NL ρ N':=by
 rw [aAR] at h2 h4 h6;refine ⟨h1,λx hx e=>?_,h3,λx hx e=>.inl ?_,by rw [hN];exact h5,λj hj=>?_⟩
 ·have:=h2 x hx;rw [e] at this;exact absurd this (by decide)
 ·have z:=h4 x hx;rw [e] at z;have z2:(sc.names.lookup x.1 == some NameKind.cell)=true:=by simpa using z
  show X.env.scope.names.lookup x.1=some .cell;rw [hsc];exact beq_iff_eq.mp z2
 ·have z:=h6 j hj
  cases q:N[j]? with
  | none=>rw [q] at z;cases z
  | some x =>
   rw [q] at z;simp only [aAr,beq_iff_eq] at z;exact ⟨x,by rw [hN];exact q,z.1,.inl (by rw [hsc];exact z.2)⟩
theorem A8:bootBuiltins "ValueError" = some (.type "ValueError"):=by decide +kernel
structure RoomH (k:Nat) (A:Around):Prop where
 dp:A.depth+3*k+5 < recursionLimit
 un:A.units+16*k+200 < cLine
structure FnOkH (P:Program) (w:World) (K:W.Frag) (mg:Str->Option Value) (base:Heap) (k:Nat) (f:Addr) (fd:FuncData) (ps:List Str) (sp:Sp):Prop where
 len:∀ vs H Q E,sp vs H Q E->vs.length=ps.length
 run:∀ (A:Around) (outer:List Env) (s:Shared) (H:Hp) (args:Args) (us:List Value) (vs:List V) (Q:VK) (E:XK),RoomH k A->Env0 P w K mg base A outer s H->BindsTo s fd args (ps.zip us)->Vals vs us->sp vs H Q E ->
  codeAny (model P w) A (.call (.ref f) args) (CR CX0 outer P w H s Q E) s
section
variable {X:Cx}
end
end L2
namespace HT
open PySem PySem.Spec PyProof.Rows
section
variable {prog:Program} {w:World} {A:Around} {E:Value->Shared->Prop} {s:Shared}
theorem getItem_tuple_all {t sl:Addr} {items:Array Value} {vl vu:Value} {lo hi:Option Int} {Q:Value->Shared->Prop} (ht:IsTup s.heap t items) (hs:s.heap.IsSliceOf sl vl vu .none) (pl:IsPart vl lo) (pu:IsPart vu hi)
  (h1:sIx items.size 0 lo=0) (h2:sIx items.size items.size hi=items.size) (h:Q (.ref t) s):wpAny (model prog w) A (getItem (.ref t) (.ref sl)) Q E s:=by
 obtain ⟨os,hos,hcs,hds⟩:=id hs;have hTs:s.TypeIs (.ref sl) "slice" :=⟨os,hos,hcs⟩;unfold getItem
 try with_reducible refine wpAny_holding ?_
 first | refine wpAny_bind (wpAny_pure ?_) | skip
 refine wpAny_bind (wpAny_sequenceKey ht.typeIs (by decide) ?_);refine wpAny_bind (wpAny_callSpecial?_slot (name:=Str.ofString "__getitem__") ht.typeIs PyProof.Rows.slot_tuple_getitem (wpAny_call_entry PyProof.Rows.slot_tuple_getitem ht.typeIs entry_tuple_getitem ?_ (args_tuple_getitem _ _)));show wpAny _ _ (Builtin.Tuple.tupleItemsOf (.ref t) >>= _) _ _ s;refine wpAny_bind (tupleItemsOf_ ht ?_);refine wpAny_bind (wpAny_typeOf hTs ?_);rw [if_pos (by decide)];refine wpAny_bind (cN hs pl pu ?_);have hyes:(((sIx items.size 0 lo:Nat):Int) == 0 && (1:Int) == 1 && (sIx items.size items.size hi - sIx items.size 0 lo) == items.size)=true:=by
  rw [h1,h2];simp
 show wpAny _ _ (if (((sIx items.size 0 lo:Nat):Int) == 0 && (1:Int) == 1 && (sIx items.size items.size hi - sIx items.size 0 lo) == items.size)=true then _ else _) _ _ s;rw [if_pos hyes];refine wpAny_bind (m:=Builtin.Tuple.tupleIsExact _) (wpAny_bind (wpAny_typeOf ht.typeIs ?_));refine wpAny_pure ?_;rw [if_pos (by decide)];exact wpAny_bind (wpAny_rule (wpAny_pure ⟨_,rfl,wpAny_pure h⟩))
end
end HT
namespace L2
open PySem PySem.Spec PyProof.Rows
section
variable {X:Cx}
theorem IsD.unref {K:W.Frag} {H:Hp} {l:List Dt} {v:V} (h:IsD K H (.tup l) v):∃ a xs,v=.ref a/\SqT K H a xs/\IsDs K H l xs:=by
 cases h with
 | tup h r=>exact ⟨_,_,rfl,h,r⟩
def rZ (l:List Dt) (lo hi:Option Int):List Dt:=(l.drop (HT.sIx l.length 0 lo)).take (HT.sIx l.length l.length hi - HT.sIx l.length 0 lo)
theorem sh:aN X (.builtin "len") (λxs H Q=>∃ x l,xs=[x]/\IsD X.K H (.tup l) x/\Q (.int l.length) H):=by
 intro pins s σ H xs us Q I r h;obtain ⟨x,l,rfl,dx,q⟩:=h;obtain ⟨a,ys,rfl,hx,ra⟩:=dx.unref;exact fo pins s σ H [.ref a] us Q I r ⟨a,ys,rfl,.inr hx,by rw [<- ra.length];exact q⟩
end
end L2
namespace PySem
open Sem (wp)
section
variable {M:Model} {A:Around} {E:Value->Shared->Prop} {s:Shared}
def Heap.MadeB (base:Heap) (l:List Env) (e:Addr) (cls a0:Value) (h:Heap):Prop :=
 base.StaysIn h/\base.get? e=none/\h.FunFrames base l/\∃ oe vs,h.get? e=some oe/\oe.cls=cls/\oe.data=.fields vs/\vs[0]?=some a0/\vs[1]?=some .none
theorem pK {base:Heap} {env:Env} {outer:List Env} {L e:Addr} {cls a0:Value} {Q:Unit->Shared->Prop} (hfr:A.frames=some (env :: outer)) (hf:env.frame=some L) (hm:Heap.MadeB base (env :: outer) e cls a0 s.heap)
  (h:∀ h',Heap.FlyingW base outer e cls a0 h'->s.heap.UpToSlots h'->Q () { s with heap:=h' }):wpAny M A (leaving env (.ref e)) Q E s:=by
 obtain ⟨hkb,hen,hl,oe,vs,he,hc,hd,h0,h1⟩:=hm;subst hc;refine wpAny_leaving_firstW hfr hl hf he hkb hen hd h1 h0 λh' hL=>?_;obtain ⟨k1,⟨_,_,k2⟩,k3,k4⟩:=hL;exact h h' ⟨k1,hen,k2,k3⟩ k4
end
end PySem
namespace L2
open PySem PySem.Spec PyProof.Rows
def iH (X:Cx) (E:XK):Value->Shared->Prop:=λe s'=>∃ (ea C:Addr) (a0:Value) (B:Heap) (H':Hp),e=.ref ea /\
 (Heap.FlyingW B (X.env :: X.outer) ea (.ref C) a0 s'.heap\/Heap.HeldW B (X.env :: X.outer) ea (.ref C) a0 X.env.locals s'.heap\/Heap.MadeB B (X.env :: X.outer) ea (.ref C) a0 s'.heap)/\s'.os=X.s₀.os/\AllBare s'.gens /\
 Un (frs X.outer) [] X.H₀ H' X.s₀.heap s'.heap/\HOk X.prog X.w H' B/\(∀ b o,X.s₀.heap.get? b=some o->X.H₀ b=none->b∉frs X.outer->B.get? b=some o) /\
 (∀ b o,X.s₀.heap.get? b=some o->b∉frs X.outer->∃ o',B.get? b=some o')/\E (.ref C) none H'
section
variable {X:Cx} {E:XK}
theorem wq {H':Hp} {B h h2:Heap} (frf:∀ b∈frs X.outer,X.H₀ b=none) (u:Un (frs X.outer) [] X.H₀ H' X.s₀.heap h) (F:h.FunFrames B (X.env :: X.outer)) (up:h.UpToSlots h2) (st:B.StaysIn h2)
  (c1:∀ b o,X.s₀.heap.get? b=some o->X.H₀ b=none->b∉frs X.outer->B.get? b=some o) (c2:∀ b o,X.s₀.heap.get? b=some o->b∉frs X.outer->∃ o',B.get? b=some o'):Un (frs X.outer) [] X.H₀ H' X.s₀.heap h2:=by
 refine cF u c1 c2 st λb o e hb=>?_;obtain ⟨sl,e1⟩:=u.slot b o e (frf b hb) hb (by simp);have mem:b∈frs (X.env :: X.outer):=by
  obtain ⟨env,he,hf⟩:=aAn.mp hb;exact aAn.mpr ⟨env,aAj _ he,hf⟩
 obtain ⟨o2,e2,nf⟩:=bP F mem;rw [e1] at e2;obtain rfl:=Option.some.inj e2;obtain ⟨sl2,e3⟩:=up b _ e1 nf;exact ⟨sl2,e3⟩
theorem nj {A:Around} (hA:A.frames=some (X.env :: X.outer)) (hfr:X.env.frame=some X.env.locals) (frf:∀ b∈frs X.outer,X.H₀ b=none) {e:Value} {s':Shared} (h:iH X E e s') :
  wpAny (model X.prog X.w) A (leaving X.env e) (λ_ s''=>CXE X.prog X.w X.outer X.H₀ X.s₀ E e s'') (λe' s''=>CXE X.prog X.w X.outer X.H₀ X.s₀ E e' s'') s':=by
 obtain ⟨ea,C,a0,B,H',rfl,st,os,bare,un,hok,c1,c2,q⟩:=h;have fin:∀ {h':Heap},s'.heap.FunFrames B (X.env :: X.outer)->Heap.FlyingW B X.outer ea (.ref C) a0 h'->s'.heap.UpToSlots h'->CXE X.prog X.w X.outer X.H₀ X.s₀ E (.ref ea) { s' with heap:=h' }:=λ{h'} F fl up =>
  ⟨ea,C,a0,B,H',rfl,fl,os,bare,wq frf un F up fl.1 c1 c2,hok,c1,c2,q⟩
 rcases st with fl | hh | hm
 ·exact wpAny_leaves_onW hA hfr fl λh' fl' up=>fin fl.2.2.1 fl' up
 ·unfold leaving;refine wpAny_bind (wpAny_noteFrame_againW hfr hh.2.2.2 ?_);refine wpAny_landsW hh λh' hfl up=>?_;obtain ⟨k1,k2,⟨_,_,k3⟩,k4⟩:=hfl;exact fin hh.2.2.1 ⟨k1,k2,k3,k4⟩ up
 ·exact pK hA hfr hm λh' fl' up=>fin hm.2.2.1 fl' up
variable {pins:List (Addr×Obj)} {σ:St} {H:Hp} {s:Shared}
theorem sj {C:Addr} {ea:Addr} {vs:List Value} {h':Heap} {tk:Nat} (hstk:X.stack=X.env :: X.outer) (hfr:X.env.frame=some X.env.locals) (hex:X.ex=[]) (I:Inv X pins σ H s) (hm:Heap.MadeExcOf s.heap h' ea (.ref C) vs)
  (q:E (.ref C) none H):iH X E (.ref ea) { s with heap:=h',toks:=tk }:=by
 have F0:s.heap.FunFrames X.base (X.env :: X.outer):=by rw [<- hstk];exact I.stack
 have mem:∀ b∈frs X.outer,b∈frs (X.env :: X.outer):=λb hb=>by
  obtain ⟨env,he,hf⟩:=aAn.mp hb;exact aAn.mpr ⟨env,aAj _ he,hf⟩
 have inv:∀ b,b∈frs (X.env :: X.outer)->b=X.env.locals\/b∈frs X.outer:=λb hb=>by
  obtain ⟨env,he,hf⟩:=aAn.mp hb;rcases aAb.mp he with rfl | he
  ·rw [hfr] at hf;exact .inl (Option.some.inj hf).symm
  ·exact .inr (aAn.mpr ⟨env,he,hf⟩)
 have hin:∀ env∈(X.env :: X.outer),∀ b,env.frame=some b->b∈frs (X.env :: X.outer):=λenv he b hb=>aAn.mpr ⟨env,he,hb⟩;have stayB:∀ b o,s.heap.get? b=some o->b∉frs (X.env :: X.outer)->(W.hideAll s.heap (frs (X.env :: X.outer))).get? b=some o:=λb o e n=>W.hideAll_get _ e n;have old:∀ b o,X.s₀.heap.get? b=some o->b∉frs X.outer->b∉frs (X.env :: X.outer):=λb o e n z=>by
  rcases inv b z with rfl | z
  ·exact absurd (aAi (aAd e) I.ok.above) (aAE _)
  ·exact n z
 have B0:Un X.fs [] X.H₀ H X.s₀.heap s.heap:=by have z:=I.base;rw [hex] at z;exact z
 have c1:∀ b o,X.s₀.heap.get? b=some o->X.H₀ b=none->b∉frs X.outer->(W.hideAll s.heap (frs (X.env :: X.outer))).get? b=some o:=λb o e n hb=>stayB b o (B0.keep b o e n hb (by simp)) (old b o e hb);have c2:∀ b o,X.s₀.heap.get? b=some o->b∉frs X.outer->∃ o',(W.hideAll s.heap (frs (X.env :: X.outer))).get? b=some o':=λb o e hb=>by
  obtain ⟨o',e'⟩:=B0.there b o e (by simp);exact ⟨o',stayB b o' e' (old b o e hb)⟩
 have FB:s.heap.FunFrames (W.hideAll s.heap (frs (X.env :: X.outer))) (X.env :: X.outer):=W.funFrames_hide F0 hin;obtain ⟨t,he,htn,ht⟩:=hm.there;have stays:(W.hideAll s.heap (frs (X.env :: X.outer))).StaysIn h':=λb o e=>hm.keeps b o (W.of_hideAll _ e);have hen:(W.hideAll s.heap (frs (X.env :: X.outer))).get? ea=none:=by
  cases z:(W.hideAll s.heap (frs (X.env :: X.outer))).get? ea with
  | none=>rfl
  | some o =>
   have z2:=W.of_hideAll _ z;rw [hm.new] at z2
   cases z2
 refine ⟨ea,C,.ref t,_,H,rfl,.inr (.inr ⟨stays,hen,FB.of_keeps λb o hb _=>⟨o,hm.keeps b o hb,rfl⟩,_,_,he,rfl,rfl,rfl,rfl⟩),I.os,I.bare,cF B0 c1 c2 stays λb o e hb=>?_,λb u e=>?_,c1,c2,q⟩
 ·obtain ⟨sl,e1⟩:=B0.slot b o e (I.ok.frf b hb) hb (by simp);exact ⟨sl,hm.keeps b _ e1⟩
 ·refine (I.hok b u e).stay (λc v hc z=>stayB c v z λhf=>?_) (λ_ z=>z) λ_ _ z=>z;have n0:H c=none:=by rw [<- hstk] at hf;exact I.stkFree c hf
  rcases hc with rfl | hc
  ·rw [e] at n0;cases n0
  ·rw [hc] at n0;cases n0
theorem ps_raiseW {x:Str} {C:Addr} {e:Expr} {es:List Expr} {t:TA} {np cpos pos:Pos} (hstk:X.stack=X.env :: X.outer) (hfr:X.env.frame=some X.env.locals) (hex:X.ex=[]) (hc:X.calm=true) (G:ExC X.K X.mg x C) (hg:Gl X x) (ha:PA (X.wish (iH X E)) (e :: es) t)
  (hdb:(x == ("__debug__" : Str))=false:=by decide) (he:starEach (e :: es) X.env=(false,eval e X.env) :: starEach es X.env:=by rfl) (hpl:(backTo cpos (starEach es X.env)).any (·.1)=false:=by rfl) :
  PS (X.wish (iH X E)) (.Raise (some (.Call (.Name x np) (e :: es) [] cpos)) none pos) (pJ C E t):=by
 intro pins s σ H D I h;obtain ⟨bm,N,nm,qn,bs,hd,sn,sub,ab,col,dd,k0,k1,k2,k3,k5,mN,hC,hN,hni,T⟩:=ik (show X.K.In X.base from I.ok.mod.kin) G.q;refine wpAny_Raise_call_subT (C:=C) (nm:=nm) (q:=qn) (N:=N) (bs:=bs) (bm:=bm) (hdct:=hd) (sn:=sn) (sub:=sub) (ab:=ab) (col:=col) (dd:=dd) (k0:=k0) (k1:=k1) (k2:=k2) (k3:=k3) (k5:=k5) F.excBase_ValueError (mN:=mN) (T.hasType F.excBase_ValueError.hasBase) (I.ok.hd hc)
  (by show (backTo cpos (starEach (e :: es) X.env)).any (·.1)=false;rw [he];show (false || (backTo cpos (starEach es X.env)).any (·.1))=false;rw [hpl];rfl) hni (aU I hg G.m ⟨rfl,?_⟩ hdb)
 have z:=ha cpos pins s σ H _ I h;have he':starEach (e :: es) (X.wish (iH X E)).env=(false,eval e (X.wish (iH X E)).env) :: starEach es (X.wish (iH X E)).env:=he;rw [he'] at z ⊢;refine Calls.evalArgs_plain (wpAny_mono z (λus s2 ⟨vs,H2,I2,r,hz,q⟩=>?_) λ_ _ y=>y);refine ⟨rfl,by show us.length<=sizeLine;rw [<- r.length];exact hz,I2.bk _ _ hC,hN.keeps I2.bk,T.keeps I2.bk,λh' ea hm=>?_⟩;exact sj (tk:=s2.toks) hstk hfr hex (Inv.unwish I2) hm q
theorem wing_on (hstk:X.stack=X.env :: X.outer) (hfr:X.env.frame=some X.env.locals) (hex:X.ex=[]):f9 (CXE X.prog X.w) (X.wish (iH X E)) E:=by
 intro pins σ H s e s' I' h;have I:Inv X pins σ H s:=Inv.unwish I';obtain ⟨ea,C,a0,B,H',rfl,fl,os,bare,un,hok,c1,c2,q⟩:=h;have hstk':(X.wish (iH X E)).stack=X.env :: X.outer:=hstk;rw [hstk'] at fl un c1 c2;have inv:∀ b,b∈frs (X.env :: X.outer)->b=X.env.locals\/b∈frs X.outer:=λb hb=>by
  obtain ⟨env,he,hf⟩:=aAn.mp hb;rcases aAb.mp he with rfl | he
  ·rw [hfr] at hf;exact .inl (Option.some.inj hf).symm
  ·exact .inr (aAn.mpr ⟨env,he,hf⟩)
 have mem:∀ b∈frs X.outer,b∈frs (X.env :: X.outer):=λb hb=>by
  obtain ⟨env,he,hf⟩:=aAn.mp hb;exact aAn.mpr ⟨env,aAj _ he,hf⟩
 have old:∀ b o,X.s₀.heap.get? b=some o->b∉frs X.outer->b∉frs (X.env :: X.outer):=λb o e n z=>by
  rcases inv b z with rfl | z
  ·exact absurd (aAi (aAd e) I.ok.above) (aAE _)
  ·exact n z
 have B0:Un X.fs [] X.H₀ H X.s₀.heap s.heap:=by have z:=I.base;rw [hex] at z;exact z
 have d1:∀ b o,X.s₀.heap.get? b=some o->X.H₀ b=none->b∉frs X.outer->B.get? b=some o:=λb o e n hb=>c1 b o (B0.keep b o e n hb (by simp)) (B0.free b o e n (by simp)) (old b o e hb);have d2:∀ b o,X.s₀.heap.get? b=some o->b∉frs X.outer->∃ o',B.get? b=some o':=λb o e hb=>by
  obtain ⟨o',e'⟩:=B0.there b o e (by simp);exact c2 b o' e' (old b o e hb)
 refine ⟨ea,C,a0,B,H',rfl,.inl fl,os.trans I.os,bare,?_,hok,d1,d2,q⟩;refine ⟨λb o e n hb _=>?_,λb o e n hb _=>?_,λb o e n _=>?_,λb o e _=>?_,λb xs e=>un.tups b xs (B0.tups b xs e),λb o u e=>un.frzs b o u (B0.frzs b o u e),λb ps e=>?_⟩
 ·exact un.keep b o (B0.keep b o e n hb (by simp)) (B0.free b o e n (by simp)) (old b o e hb) (by simp)
 ·obtain ⟨sl,e1⟩:=B0.slot b o e n hb (by simp);obtain ⟨sl2,e2⟩:=un.slot b _ e1 (B0.free b o e n (by simp)) (mem b hb) (by simp);exact ⟨sl2,e2⟩
 ·obtain ⟨o',e'⟩:=B0.there b o e (by simp);exact un.free b o' e' (B0.free b o e n (by simp)) (by simp)
 ·obtain ⟨o',e'⟩:=B0.there b o e (by simp);exact un.there b o' e' (by simp)
 ·obtain ⟨m1,e1⟩:=B0.tbls b ps e;obtain ⟨m2,e2⟩:=un.tbls b _ e1;exact ⟨m1++m2,by rw [e2,aBA]⟩
end
theorem PSs.wing {X:Cx} {E:XK} {st:List Stmt} {t:TS} (hstk:X.stack=X.env :: X.outer) (hfr:X.env.frame=some X.env.locals) (hxe:X.xe=λe s'=>wpAny (model X.prog X.w) X.A (leaving X.env e) (λ_ s''=>CXE X.prog X.w X.outer X.H₀ X.s₀ E e s'') (λe' s''=>CXE X.prog X.w X.outer X.H₀ X.s₀ E e' s'') s')
  (h:PSs (X.wish (iH X E)) st t):PSs X st t:=λpins s σ H D I hw =>
 wpAny_mono (h pins s σ H D (I.wish _) hw) (λ_ _ q=>q.unwish) λe s' z=>by
  rw [hxe];exact nj (by rw [I.ok.frames,hstk]) hfr I.ok.frf z
theorem Fun.okW {P:Program} {w:World} {K:W.Frag} {mg:Str->Option Value} {base:Heap} {x qual:Str} {st:Stmt} {f:Addr} {fd:FuncData} {N ps:List Str} {k:Nat} {sp:Sp} (F:Fun K x qual st f fd) (S:FnScope N ps (aa st)) (len:∀ vs H Q E,sp vs H Q E->vs.length=ps.length)
  (hbody:∀ (cdv:Value) (A:Around) (outer:List Env) (s:Shared) (H:Hp) (vs:List V) (Q:VK) (E:XK),Room k (A.deeper (envOfC qual (aa st) s.heap.objs.size f cdv))->sp vs H Q E ->
   ∃ t,PSs ((gQ (CXE P w) P w K mg base N qual (aa st) f cdv A outer s H E).wish (iH (gQ (CXE P w) P w K mg base N qual (aa st) f cdv A outer s H E) E)) (br st) t/\t { nx:=λ_ H'=>Q .non H',rt:=Q } (dF N vs) H):FnOk P w K mg base (CXE P w) (k+1) f fd ps sp:=by
 obtain ⟨oc,od,kV,doc,pm,an,cdv,ct,osl,rfl,lk,hcd⟩:=F.ex;refine qF lk hcd S len λA outer s H vs Q E hr hsp=>?_;obtain ⟨t,h,q⟩:=hbody cdv A outer s H vs Q E hr hsp;exact ⟨t,PSs.wing rfl rfl rfl h,q⟩
section
variable {κ:Type} [DecidableEq κ]
def a8 (kvs:List (κ×V)) (k:κ):Option V:=(kvs.find? λkv=>decide (kv.1=k)).map (·.2)
def cZ (kvs:List (κ×V)) (k:κ) (v:V):List (κ×V) :=
 if (kvs.any λkv=>decide (kv.1=k))=true then kvs.map (λkv=>if kv.1=k then (kv.1,v) else kv) else kvs++[(k,v)]
theorem a9 {p:κ×V} {r:List (κ×V)} {k:κ} (e:p.1=k):a8 (p :: r) k=some p.2:=by simp [a8,aA6,e]
theorem bc {p:κ×V} {r:List (κ×V)} {k:κ} (e:¬ p.1=k):a8 (p :: r) k=a8 r k:=by simp [a8,aA6,e]
theorem fw (k:κ):∀ kvs:List (κ×V),(kvs.any λkv=>decide (kv.1=k))=(a8 kvs k).isSome
 | []=>rfl
 | p :: r=>by
  rw [aAV]
  by_cases e:p.1=k
  ·simp only [a9 e,decide_eq_true e,Bool.true_or,Option.isSome_some]
  ·rw [bc e,decide_eq_false e,Bool.false_or];exact fw k r
theorem nk (k j:κ) (y:V):∀ kvs:List (κ×V),a8 (kvs.map λkv=>if kv.1=k then (kv.1,y) else kv) j=(a8 kvs j).map λx=>if j=k then y else x
 | []=>rfl
 | p :: r=>by
  have ih:=nk k j y r;rw [aAH]
  by_cases h:p.1=k
  ·rw [if_pos h]
   by_cases e:p.1=j
   ·rw [a9 (p:=(p.1,y)) e,a9 e,aBu,if_pos (e.symm.trans h)]
   ·rw [bc (p:=(p.1,y)) e,bc e,ih]
  ·rw [if_neg h]
   by_cases e:p.1=j
   ·rw [a9 (p:=p) e,a9 e,aBu,if_neg (λz=>h (e.trans z))]
   ·rw [bc (p:=p) e,bc e,ih]
theorem ku (k j:κ) (y:V):∀ kvs:List (κ×V),a8 kvs k=none->a8 (kvs++[(k,y)]) j=if j=k then some y else a8 kvs j
 | [],_=>by
  by_cases e:k=j
  ·rw [if_pos e.symm];exact a9 (p:=(k,y)) e
  ·rw [if_neg (λz=>e z.symm)];exact bc (p:=(k,y)) e
 | p :: r,hn=>by
  rw [List.cons_append];have hk:¬ p.1=k:=λz=>by rw [a9 z] at hn;cases hn
  rw [bc hk] at hn;have ih:=ku k j y r hn
  by_cases e:p.1=j
  ·rw [a9 e,a9 e,if_neg (λz=>hk (e.trans z))]
  ·rw [bc e,bc e,ih]
theorem ug (kvs:List (κ×V)) (k j:κ) (y:V):a8 (cZ kvs k y) j=if j=k then some y else a8 kvs j:=by
 unfold cZ
 by_cases a:(kvs.any λkv=>decide (kv.1=k))=true
 ·rw [if_pos a,nk];rw [fw] at a
  by_cases e:j=k
  ·obtain ⟨x,hx⟩:=aBG.mp a;rw [if_pos e,e,hx,aBu,if_pos rfl]
  ·rw [if_neg e]
   cases a8 kvs j with
   | none=>rfl
   | some x=>rw [aBu,if_neg e]
 ·rw [if_neg a];refine ku k j y kvs ?_;rw [fw] at a
  cases q:a8 kvs k with
  | none=>rfl
  | some x=>rw [q] at a;exact (a rfl).elim
theorem gJ (kvs:List (κ×V)) (k:κ) (v:V):(cZ kvs k v).length<=kvs.length+1:=by
 unfold cZ
 split
 ·rw [aAe];lia
 ·rw [aAX,aAs,aBv];lia
theorem RelO.isSome_eq {o:Option V} {u:Option Value} (r:RelO o u):o.isSome=u.isSome:=by
 cases o with
 | none=>cases u with
  | none=>rfl
  | some _=>exact (show False from r).elim
 | some _=>cases u with
  | none=>exact (show False from r).elim
  | some _=>rfl
theorem KV.val {kvs:List (κ×V)} {vs:List (κ×Value)} (r:KV kvs vs) (k:κ):RelO (a8 kvs k) (valueAt vs k):=by
 unfold KV at r
 induction r with
 | nil=>exact True.intro
 | @cons p q ps qs h t ih =>
  obtain ⟨h1,h2⟩:=h
  by_cases e:p.1=k
  ·have e':q.1=k:=h1.symm.trans e;have b:valueAt (q :: qs) k=some q.2:=by simp [valueAt,aA6,e']
   rw [a9 e,b];exact h2
  ·have e':¬ q.1=k:=λz=>e (h1.trans z);have b:valueAt (q :: qs) k=valueAt qs k:=by simp [valueAt,aA6,e']
   rw [bc e,b];exact ih
theorem KV.any {kvs:List (κ×V)} {vs:List (κ×Value)} (r:KV kvs vs) (k:κ):(kvs.any λkv=>decide (kv.1=k))=vs.any λkv=>decide (kv.1=k):=by
 unfold KV at r
 induction r with
 | nil=>rfl
 | cons h t ih=>rw [aAV,aAV,ih,h.1]
theorem KV.repl {kvs:List (κ×V)} {vs:List (κ×Value)} (r:KV kvs vs) (k:κ) {y:V} {u:Value} (ry:RelV y u) :
  KV (kvs.map λkv=>if kv.1=k then (kv.1,y) else kv) (vs.map λkv=>if kv.1=k then (kv.1,u) else kv):=by
 unfold KV at r ⊢
 induction r with
 | nil=>exact .nil
 | @cons p q ps qs h t ih =>
  rw [aAH,aAH];refine .cons ?_ ih;obtain ⟨h1,h2⟩:=h
  by_cases e:p.1=k
  ·rw [if_pos e,if_pos (h1.symm.trans e)];exact ⟨h1,ry⟩
  ·rw [if_neg e,if_neg (λz=>e (h1.trans z))];exact ⟨h1,h2⟩
theorem KV.put {kvs:List (κ×V)} {vs:List (κ×Value)} (r:KV kvs vs) (k:κ) {y:V} {u:Value} (ry:RelV y u):KV (cZ kvs k y) (stored vs k u):=by
 unfold cZ stored;rw [r.any k]
 by_cases e:(vs.any λkv=>decide (kv.1=k))=true
 ·rw [if_pos e,if_pos e];exact r.repl k ry
 ·rw [if_neg e,if_neg e];exact Paired.snoc r ⟨rfl,ry⟩
theorem KV.keys {kvs:List (κ×V)} {vs:List (κ×Value)} (r:KV kvs vs):kvs.map (·.1)=vs.map (·.1):=by
 unfold KV at r
 induction r with
 | nil=>rfl
 | cons h t ih=>rw [aAH,aAH,ih,h.1]
theorem KV.length {kvs:List (κ×V)} {vs:List (κ×Value)} (r:KV kvs vs):kvs.length=vs.length:=Paired.length r
end
theorem kz {P:Program} {w:World} {k:Key} {u:Value} (r:RelV (kV k) u):(ag P w).is k u=true:=by
 cases k with
 | inl i=>obtain ⟨t,e⟩:=(show ∃ t,u=Value.int i t from r);subst e;exact mG P w i t
 | inr x=>obtain ⟨t,e⟩:=(show ∃ t,u=Value.str x t from r);subst e;exact mH P w x t
theorem gf {P:Program} {w:World}:∀ {ks:List Key} {us:List Value},Vals (ks.map kV) us->ItemsAre (ag P w) ks us
 | [],_,r=>by rw [List.map_nil] at r;cases r;exact .nil
 | k :: ks,_,r=>by
  rw [aAH] at r
  cases r with
  | cons h t=>exact .cons (kz h) (gf t)
abbrev KT (H:Hp):List (List Key×V)->List (List Key×Addr×Value)->Prop:=Paired λp q=>p.1=q.1/\H q.2.1=some (.tup (p.1.map kV))/\RelV p.2 q.2.2
theorem KT.val {H:Hp} {kvs:List (List Key×V)} {xs:List (List Key×Addr×Value)} (r:KT H kvs xs) (k:List Key):RelO (a8 kvs k) ((atKey xs k).map (·.2)):=by
 induction r with
 | nil=>exact True.intro
 | @cons p q ps qs h t ih =>
  obtain ⟨h1,_,h2⟩:=h
  by_cases e:p.1=k
  ·have e':q.1=k:=h1.symm.trans e;have b:atKey (q :: qs) k=some q.2:=by simp [atKey,aA6,e']
   rw [a9 e,b];exact h2
  ·have e':¬ q.1=k:=λz=>e (h1.trans z);have b:atKey (q :: qs) k=atKey qs k:=by simp [atKey,aA6,e']
   rw [bc e,b];exact ih
theorem KT.repl {H:Hp} {kvs:List (List Key×V)} {xs:List (List Key×Addr×Value)} (r:KT H kvs xs) (k:List Key) {y:V} {u:Value} (ry:RelV y u) :
  KT H (kvs.map λkv=>if kv.1=k then (kv.1,y) else kv) (xs.map (putAt k u)):=by
 induction r with
 | nil=>exact .nil
 | @cons p q ps qs h t ih =>
  rw [aAH,aAH];refine .cons ?_ ih;obtain ⟨h1,h2,h3⟩:=h;unfold putAt
  by_cases e:p.1=k
  ·rw [if_pos e,if_pos (h1.symm.trans e)];exact ⟨h1,h2,ry⟩
  ·rw [if_neg e,if_neg (λz=>e (h1.trans z))];exact ⟨h1,h2,h3⟩
theorem KT.put {H:Hp} {kvs:List (List Key×V)} {xs:List (List Key×Addr×Value)} (r:KT H kvs xs) (k:List Key) {b:Addr} {y:V} {u:Value} (hb:H b=some (.tup (k.map kV))) (ry:RelV y u) :
  KT H (cZ kvs k y) (storedH xs k b u):=by
 have e:(kvs.any λkv=>decide (kv.1=k))=(atKey xs k).isSome:=by
  rw [fw,(r.val k).isSome_eq,Option.isSome_map]
 unfold cZ storedH;rw [e]
 by_cases q:(atKey xs k).isSome=true
 ·rw [if_pos q,if_pos q];exact r.repl k ry
 ·rw [if_neg q,if_neg q];exact Paired.snoc r ⟨rfl,hb,ry⟩
theorem KT.keeps {H H':Hp} {kvs:List (List Key×V)} {xs:List (List Key×Addr×Value)} (r:KT H kvs xs) (ht:∀ b ys,H b=some (.tup ys)->H' b=some (.tup ys)):KT H' kvs xs :=
 Paired.mapP r λ_ _ z=>⟨z.1,ht _ _ z.2.1,z.2.2⟩
section
variable {P:Program} {w:World} {H:Hp} {h:Heap} {a:Addr}
theorem xK {u:HO} (ok:HOk P w H h) (e:Rd H a u):ObjOk P w H h a u:=e.ok ok
theorem qI {kvs:List (Key×V)} (ok:HOk P w H h) (e:Rd H a (.dK kvs)):kvs.length<=sizeLine/\(a == sysModules)=false/\∃ vs,KV kvs vs/\h.DictOf (ag P w) a vs :=
 show ObjOk P w H h a (.dK kvs) from xK ok e
theorem xL {kvs:List (Key×V)} (ok:HOk P w H h) (e:H a=some (.dK kvs)):kvs.length<=sizeLine/\(a == sysModules)=false/\∃ vs,KV kvs vs/\h.DictOf (ag P w) a vs:=qI ok (.inl e)
theorem pL {ks:List Key} (ok:HOk P w H h) (e:H a=some (.tup (ks.map kV))):(tupleKind (ag P w)).is h ks a:=by
 obtain ⟨_,its,r,o,h1,h2,n,h3⟩:=(show ObjOk P w H h a (.tup (ks.map kV)) from ok a _ e);exact ⟨o,its.toArray,n,h1,h2,h3,by simpa using gf r⟩
theorem uh {kvs:List (List Key×V)} (ok:HOk P w H h) (e:Rd H a (.dT kvs)):kvs.length<=sizeLine/\(a == sysModules)=false /\
  ∃ xs,KT H kvs xs/\h.DictOfH (tupleKind (ag P w)) a xs:=by
 obtain ⟨z,y,xs,r,o,es,ep,h1,h2,h3,h4,h5⟩:=(show ObjOk P w H h a (.dT kvs) from xK ok e);refine ⟨z,y,xs,r,o,es,ep,h1,h2,h3,h4,λx hx=>?_,h5⟩;have all:∀ {l:List (List Key×V)} {m:List (List Key×Addr×Value)},KT H l m->∀ x∈m,(tupleKind (ag P w)).is h x.1 x.2.1:=by
  intro l m q
  induction q with
  | nil=>intro x hx;exact nomatch hx
  | @cons p q ps qs hq t ih =>
   intro x hx;rcases aAb.mp hx with e | hx
   ·subst e;exact pL ok (by rw [<- hq.1];exact hq.2.1)
   ·exact ih x hx
 exact all r x hx
theorem Hl {kvs:List (List Key×V)} (ok:HOk P w H h) (e:H a=some (.dT kvs)):kvs.length<=sizeLine/\(a == sysModules)=false /\
  ∃ xs,KT H kvs xs/\h.DictOfH (tupleKind (ag P w)) a xs:=uh ok (.inl e)
end
def DGet (H:Hp) (a:Addr) (y:V) (r:Option V):Prop :=
 (∃ kvs k,Rd H a (.dK kvs)/\y=kV k/\r=a8 kvs k)\/∃ kvs k b,Rd H a (.dT kvs)/\y=.ref b/\H b=some (.tup (k.map kV))/\r=a8 kvs k
def DPut (H:Hp) (a:Addr) (y v:V) (H':Hp):Prop :=
 (∃ kvs k,H a=some (.dK kvs)/\y=kV k/\kvs.length < sizeLine/\H'=upd H a (.dK (cZ kvs k v))) \/
 ∃ kvs k b,H a=some (.dT kvs)/\y=.ref b/\H b=some (.tup (k.map kV))/\kvs.length < sizeLine/\H'=upd H a (.dT (cZ kvs k v))
theorem DGet.k {H:Hp} {a:Addr} {kvs:List (Key×V)} {k:Key} (e:H a=some (.dK kvs)):DGet H a (kV k) (a8 kvs k):=.inl ⟨kvs,k,.inl e,rfl,rfl⟩
theorem DGet.t {H:Hp} {a b:Addr} {kvs:List (List Key×V)} {k:List Key} (e:H a=some (.dT kvs)) (eb:H b=some (.tup (k.map kV))):DGet H a (.ref b) (a8 kvs k):=.inr ⟨kvs,k,b,.inl e,rfl,eb,rfl⟩
theorem DPut.k {H:Hp} {a:Addr} {kvs:List (Key×V)} {k:Key} {v:V} (e:H a=some (.dK kvs)) (hl:kvs.length < sizeLine):DPut H a (kV k) v (upd H a (.dK (cZ kvs k v))):=.inl ⟨kvs,k,e,rfl,hl,rfl⟩
theorem DPut.t {H:Hp} {a b:Addr} {kvs:List (List Key×V)} {k:List Key} {v:V} (e:H a=some (.dT kvs)) (eb:H b=some (.tup (k.map kV))) (hl:kvs.length < sizeLine) :
  DPut H a (.ref b) v (upd H a (.dT (cZ kvs k v))):=.inr ⟨kvs,k,b,e,rfl,eb,hl,rfl⟩
section
variable {X:Cx} {pins:List (Addr×Obj)} {σ:St} {H:Hp} {s:Shared} {a:Addr} {y v:V} {u r:Value} {o:Option V} {A:Around} {E:Value->Shared->Prop}
theorem Inv.big (I:Inv X pins σ H s):sysModules < s.heap.objs.size:=by
 have h:mainGlobals < s.heap.objs.size:=(I.mod.glob.keeps I.bk).lt;exact aBa (by decide) h
theorem sk {Q:Value->Shared->Prop} (hu:A.units+1 < cLine) (I:Inv X pins σ H s) (g:DGet H a y (some v)) (ry:RelV y u) (h:∀ w' s',Inv X pins σ H s'->RelV v w'->Q w' s') :
  wpAny (model X.prog X.w) A (getItem (.ref a) u) Q E s:=by
 rcases g with ⟨kvs,k,e,ey,l⟩ | ⟨kvs,k,b,e,ey,eb,l⟩
 ·subst ey;obtain ⟨z,hd,vs,rel,dd⟩:=qI I.hok e;obtain ⟨w',hw,rw'⟩:=RelO.some_of (v:=v) (o:=valueAt vs k) (by rw [l];exact rel.val k);exact wpAny_getItem_of (kz ry) dd.mapOf hw (h w' _ (I.tok _) rw')
 ·subst ey
  cases (show u=Value.ref b from ry)
  obtain ⟨z,hd,xs,rel,dd⟩:=uh I.hok e;obtain ⟨w',hw,rw'⟩:=RelO.some_of (v:=v) (o:=(atKey xs k).map (·.2)) (by rw [l];exact rel.val k);obtain ⟨p,hp,hp2⟩:=aAu.mp hw;refine wpAny_getItem_heap (tupleKind_room_in1 hu) (pL I.hok eb) dd hp ?_;rw [hp2];exact h w' _ (I.tok _) rw'
theorem qJ {h':Heap} {t':Nat} {ob:HO} (I:Inv X pins σ H s) (mu:Mut (H a)) (hs:Heap.SameBut a s.heap h') (he:∃ q,h'.get? a=some q) (new:ObjOk X.prog X.w (upd H a ob) h' a ob) :
  Inv X pins σ (upd H a ob) { s with heap:=h',toks:=t' } :=
 I.write (x:=a) (e:=a) mu (.inl rfl) (λb q hb z=>(hs.2 b hb).trans z) he new
theorem ui {P:Program} {w:World} {H':Hp} {h':Heap} {kvs:List (Key×V)} {vs:List (Key×Value)} (z:kvs.length<=sizeLine) (hd:(a == sysModules)=false) (rel:KV kvs vs) (dd:h'.DictOf (ag P w) a vs) :
  ObjOk P w H' h' a (.dK kvs):=⟨z,hd,vs,rel,dd⟩
theorem sq {H':Hp} {Q:Unit->Shared->Prop} (hu:A.units+1 < cLine) (I:Inv X pins σ H s) (g:DPut H a y v H') (ry:RelV y u) (rv:RelV v r) (h:∀ s',Inv X pins σ H' s'->Q () s') :
  wpAny (model X.prog X.w) A (setItem (.ref a) u r) Q E s:=by
 rcases g with ⟨kvs,k,e,ey,l,eH⟩ | ⟨kvs,k,b,e,ey,eb,l,eH⟩
 ·subst ey eH;obtain ⟨z,hd,vs,rel,dd⟩:=xL I.hok e;have hz:vs.length<=sizeLine:=by rw [<- rel.length];exact z
  have hl:(cZ kvs k v).length<=sizeLine:=by have:=gJ kvs k v;lia
  refine wpAny_setItem_pairs (hsz:=hz) (kz ry) dd λh' dd' hs=>h _ ?_;have he:∃ q,h'.get? a=some q:=let ⟨q,_,_,hq,_⟩:=dd';⟨q,hq⟩;exact qJ I (by rw [e];exact True.intro) hs he (ui hl hd (rel.put k rv) dd')
 ·subst ey eH
  cases (show u=Value.ref b from ry)
  obtain ⟨z,hd,xs,rel,dd⟩:=Hl I.hok e;have hz:xs.length<=sizeLine:=by rw [<- Paired.length rel];exact z
  have hl:(cZ kvs k v).length<=sizeLine:=by have:=gJ kvs k v;lia
  refine wpAny_setItem_heap (hsz:=hz) (tupleKind_room_in1 hu) (pL I.hok eb) dd λh' dd' hs=>h _ ?_;obtain ⟨q,es,ep,hq,h2,h3,h4,_,h5⟩:=dd';refine qJ I (by rw [e];exact True.intro) hs ⟨q,hq⟩ ⟨hl,hd,_,(rel.put k eb rv).keeps λc ys ec=>?_,q,es,ep,hq,h2,h3,h4,h5⟩;rw [ah (eD ec e (λz=>nomatch z))];exact ec
end
section
variable {X:Cx} {pins:List (Addr×Obj)} {σ:St} {H:Hp} {s:Shared} {a:Addr} {kvs:List (Key×V)} {k:Key} {u:Value} {A:Around} {E:Value->Shared->Prop}
end
def Hm (i:Expr):Prop:=∀ ov iv,subscripted i false ov iv=operate [ov,iv] (getItem ov iv)
theorem wt {prog:Program} {w:World} {A:Around} {E:Value->Shared->Prop} {s:Shared} {env:Env} {value slice:Expr} {pos:Pos} {T id:String} {Q:Value->Shared->Prop}
  (hl:typeLookup (.type T) "__getitem__" = pure (some (.builtin id))) (hs:Hm slice)
  (h:wpAny (model prog w) A (eval value env) (λo s₁=>wpAny (model prog w) A (eval slice env) (λi s₂=>s₂.TypeIs o T/\wpAny (model prog w) A (getItem o i) Q E s₂) E s₁) E s) :
  wpAny (model prog w) A (eval (.Subscript value slice pos) env) Q E s:=by
 refine Subscript_ (wpAny_mono h (λo s₁ h₁=>wpAny_mono h₁ (λi s₂ h₂=>?_) λ_ _ x=>x) λ_ _ x=>x);obtain ⟨hT,h₂⟩:=h₂;unfold subscriptTail;refine wpAny_bind ?_;rw [getitemInPython_of_ne hT.not_modules];refine wpAny_bind (wpAny_specialOf hT hl ?_);have fin:wpAny (model prog w) A (subscripted slice false o i) (λr s₃=>wpAny (model prog w) A (letTemporaryGo value o r >>= λ_=>pure r) Q E s₃) E s₂:=by
  rw [hs o i];exact wpAny_operating (wpAny_mono h₂ (λr s₃ h₃=>wpAny_bind (wpAny_letTemporaryGo (wpAny_pure h₃))) λ_ _ x=>x)
 first
  | exact wpAny_pure (wpAny_bind fin)
  | exact wpAny_bind (wpAny_pure (wpAny_bind fin))
  | exact wpAny_bind fin
theorem nn {X:Cx} {pins:List (Addr×Obj)} {σ:St} {H:Hp} {s:Shared} {a:Addr} {y:V} {o:Option V} (I:Inv X pins σ H s) (g:DGet H a y o):s.TypeIs (.ref a) "dict" :=by
 rcases g with ⟨kvs,k,e,_,_⟩ | ⟨kvs,k,b,e,_,_,_⟩
 ·obtain ⟨_,_,vs,_,dd⟩:=qI I.hok e;exact dd.typeIs
 ·obtain ⟨_,_,xs,_,dd⟩:=uh I.hok e;exact dd.typeIs
def Hn (td ty:TE):TE:=λσ H Q=>td σ H λx H1=>ty σ H1 λy H2=>∃ a v,x=.ref a/\DGet H2 a y (some v)/\Q v H2
def Ho (td ty tv:TE):TS:=λD σ H=>tv σ H λv H1=>td σ H1 λx H2=>ty σ H2 λy H3=>∃ a H4,x=.ref a/\DPut H3 a y v H4/\D.nx σ H4
section
variable {X:Cx} {o i e value:Expr} {pos pos' tpos:Pos} {td ty tv:TE}
theorem ww (hu:X.A.units+1 < cLine) (ho:PE X o td) (hi:PE X i ty) (hs:Hm i):PE X (.Subscript o i pos) (Hn td ty):=by
 intro pins s σ H Q I h;refine wt PySem.F.slot_dict_getitem.lookup hs (thn (ho pins s σ H _ I h) λu s1 ⟨x,H1,I1,rx,q1⟩=>thn (hi pins s1 σ H1 _ I1 q1) λiv s2 ⟨y,H2,I2,ry,a,v,ex,g,q2⟩=>?_);subst ex;obtain rfl:u=Value.ref a:=rx;exact ⟨nn I2 g,sk hu I2 g ry λw' s3 I3 rw'=>⟨v,H2,I3,rw',q2⟩⟩
theorem wx (hu:X.A.units+1 < cLine) (ho:PE X o td) (hi:PE X i ty) (hv:PE X value tv) (hs:swapsWith value (some (.Subscript o i pos')) pos.line X.env=pure false) :
  PS X (.Assign [.Subscript o i pos'] value pos) (Ho td ty tv):=by
 intro pins s σ H D I h;refine wpAny_Assign_Subscript (thn (hv pins s σ H _ I h) λr s1 ⟨v,H1,I1,rv,q1⟩=>thn (ho pins s1 σ H1 _ I1 q1) λu s2 ⟨x,H2,I2,rx,q2⟩=>thn (hi pins s2 σ H2 _ I2 q2) λiv s3 ⟨y,H3,I3,ry,a,H4,ex,g,q3⟩=>?_) hs;subst ex;obtain rfl:u=Value.ref a:=rx;exact sq hu I3 g ry rv λs4 I4=>⟨σ,H4,I4,q3⟩
end
section
variable {X:Cx} {pos:Pos}
end
structure M2 (X:Cx) (o:Expr) (m:Str) (apos:Pos) (e f:Expr) (cpos:Pos):Prop where
 base:attributeBase o m X.env (eval o X.env)=eval o X.env
 few:((backTo cpos (starEach [e,f] X.env)).all (λx=>!x.1) && (backToKw cpos (keywordEach [] X.env)).all (λx=>x.1.isSome)
  && decide (([e,f]:List Expr).length+([]:List Keyword).length+(if ([]:List Keyword).isEmpty then 0 else 1) < 30))=true
 line:(apos.endLine == cpos.line)=true
 trees:backTo cpos (starEach [e,f] X.env)=[(false,eval e X.env),(false,eval f X.env)]
section
variable {X:Cx} {pins:List (Addr×Obj)} {σ:St} {H:Hp} {s:Shared} {a:Addr} {y d:V} {u r:Value} {o:Option V} {A:Around} {E:Value->Shared->Prop}
end
section
variable {X:Cx} {o e f:Expr} {apos cpos:Pos} {td ty tx:TE}
end
section
variable {X:Cx} {pins:List (Addr×Obj)} {σ:St} {H:Hp} {s:Shared} {a:Addr} {kvs:List (Key×V)} {A:Around} {E:Value->Shared->Prop}
end
section
variable {X:Cx} {pins:List (Addr×Obj)} {σ:St} {H:Hp} {s:Shared} {a:Addr} {y:V} {u:Value} {A:Around} {E:Value->Shared->Prop}
end
end L2
namespace PySem
open Sem (wp)
namespace F
theorem entry_dict_update_loop:entryFor table "dict.update.loop" = some Builtin.«dict.update.loop»:=entryFor_of_tree (by kernel_rfl)
theorem plain_dict_update_loop:plainId "dict.update.loop" = true:=by decide +kernel
theorem miss_keys_tuple:typeLookup (.type "tuple") "keys" = pure none:=by rw [typeLookup_type,builtinLookup_eq_fast];kernel_rfl
end F
theorem gU {prog:Program} {w:World} {A:Around} {E:Value->Shared->Prop} {s:Shared} {a:Addr} {o:Obj} {xs:Array Value} {k:Nat} {Q:Option Value->Shared->Prop}
  (hx:s.heap.get? a=some o) (hc:o.cls=.type "tuple") (hdat:o.data=.seq xs k) (hd:o.dict=none) (hA:A.handled=none)
  (h:∀ h' tk e,Heap.NewExcOf s.heap h' e "AttributeError" ->Q none { s with heap:=h',toks:=tk }) :
  wpAny (model prog w) A (getAttr? (.ref a) "keys") Q E s:=by
 obtain ⟨c,dct,dat,sl⟩:=o;simp only at hc hdat hd;subst hc hdat hd;obtain ⟨hp,g,d,tk,os⟩:=s;have hT:∀ tk',(⟨hp,g,d,tk',os⟩:Shared).TypeIs (.ref a) "tuple" :=λ_=>⟨_,hx,rfl⟩;have f1:=sub_AttributeError;have f3:=F.slot_tuple_getattribute.lookup;have f4:=F.slot_tuple_getattribute.bind (.ref a);have f5:=am_tuple_getattr_none;unfold getAttr? getAttrBy? getAttrBy
 repeat (any_goals (first | assumption | exact hT _ | ((with_reducible show wpAny _ _ (call (Value.builtin "tuple.__getattribute__") _ _) _ _ _);refine call_meets F.slot_tuple_getattribute (hT _) am_entry_tuple_getattribute (F.args_tuple_getattribute_2 _ _) (meets_getattribute_miss_tuple a xs k sl "keys" _ F.miss_keys_tuple (by decide)) ⟨hx,hA,λh' tk' e hx'=>?_⟩) | wp_step))
 obtain ⟨t',u',he⟩:=hx'.there;show wpAny _ _ (getattributeRaised _ _ _ _ _ _ _) _ _ _;unfold getattributeRaised
 repeat (any_goals (first | assumption | wp_step))
 all_goals exact h _ _ _ hx'.of
end PySem
namespace PySem
open Sem (wp)
section
variable {prog:Program} {w:World} {K:Type} [DecidableEq K] {knd:KeyKind prog w K} {A:Around} {E:Value->Shared->Prop}
def Heap.PairItems (h:Heap) (knd:KeyKind prog w K) (items:Array Value) (kvs:List (K×Value)):Prop :=
 items.size=kvs.length/\∀ (i:Nat) (kv:K×Value),kvs[i]?=some kv->∃ (a:Addr) (key:Value),items[i]?=some (.ref a)/\h.IsTuple a #[key,kv.2]/\knd.is kv.1 key=true
theorem Heap.PairItems.stay {h h':Heap} {items:Array Value} {kvs:List (K×Value)} (x:h.PairItems knd items kvs) (k:∀ (i:Nat) (a:Addr) (o:Obj),items[i]?=some (.ref a)->h.get? a=some o->h'.get? a=some o):h'.PairItems knd items kvs :=
 ⟨x.1,λi kv e=>by
  obtain ⟨a,key,e1,⟨o,e2,r⟩,e3⟩:=x.2 i kv e;exact ⟨a,key,e1,⟨o,k i a o e1 e2,r⟩,e3⟩⟩
theorem fz {t it d:Addr} {items:Array Value} {kvs:List (K×Value)} {R:Result->Shared->Prop} (hh:A.handled=none) (hdt:t≠d) (hit:t≠it) (hdi:d≠it) (hav:∀ (i:Nat) (a:Addr),items[i]?=some (.ref a)->a≠d/\a≠it) (hsz:kvs.length+kvs.length<=sizeLine) :
  ∀ (n i:Nat) (s:Shared) (acc:List (K×Value)),kvs.length - i=n->i<=kvs.length->acc.length<=i->s.heap.IsTuple t items->s.heap.PairItems knd items kvs->s.heap.IsTupleIter it t i->s.heap.DictOf knd d acc ->
   (∀ h' tk,h'.DictOf knd d (merged acc (kvs.drop i))->(∀ b o,b≠d->b≠it->s.heap.get? b=some o->h'.get? b=some o)->R (.ok (.ret .none)) { s with heap:=h',toks:=tk }) ->
   codeAny (model prog w) A (.builtin "dict.update.loop" ⟨[.ref d,.ref it,rawInt i,.none],[]⟩) R s:=by
 intro n
 induction n with
 | zero =>
  intro i s acc hn hi ha ht hp hs hd hR;have e:i=kvs.length:=by lia
  refine codeAny_builtin F.entry_dict_update_loop ?_;rw [Around.under_plainId F.plain_dict_update_loop _];show wpAny _ A.in1 (pyNext (.ref it) >>= _) _ _ s;refine wpAny_bind (wpAny_pyNext_tuple_end (by first | exact hh | simpa using hh) hs ht (by rw [e,<- hp.1];simp) λh' eb=>?_);show wpAny _ _ (Builtin.Dict.addKeywords d [] >>= _) _ _ _;have hd':h'.DictOf knd d acc:=by
   obtain ⟨o,es,ep,ho,r⟩:=hd;exact ⟨o,es,ep,eb d o hdi ho,r⟩
  have q:=hR h' s.toks (by rw [e,List.drop_length];exact hd') λb o _ hb z=>eb b o hb z;exact wpAny_bind (wpAny_pure (wpAny_pure q))
 | succ n ih =>
  intro i s acc hn hi ha ht hp hs hd hR;have hlt:i < kvs.length:=by lia
  obtain ⟨kv,hkv⟩:∃ kv,kvs[i]?=some kv:=⟨_,aAp hlt⟩;obtain ⟨a,key,hx,hpair,hkey⟩:=hp.2 i kv hkv;refine codeAny_builtin F.entry_dict_update_loop ?_;rw [Around.under_plainId F.plain_dict_update_loop _];show wpAny _ A.in1 (pyNext (.ref it) >>= _) _ _ s;refine wpAny_bind (wpAny_pyNext_tuple_item hs ht hx λh1 hs1 sb=>?_);obtain ⟨av1,av2⟩:=hav i a hx;have keep1:∀ b o,b≠it->s.heap.get? b=some o->h1.get? b=some o:=λb o hb z=>(sb.2 b hb).trans z;obtain ⟨po,pe,pc,pn,pd⟩:=hpair;have pe1:=keep1 a po av2 pe;have hd1:h1.DictOf knd d acc:=by
   obtain ⟨o,es,ep,ho,r⟩:=hd;exact ⟨o,es,ep,keep1 d o hdi ho,r⟩
  refine wpAny_bind (wpAny_holding ?_);refine wpAny_bind (wpAny_tryCatch ?_);unfold Builtin.Dict.pairItems;refine wpAny_bind (wpAny_typeOf (T:= "tuple") ⟨_,pe1,pc⟩ ?_);rw [if_pos (by decide)];refine wpAny_bind (wpAny_seqItems pe1 pd ?_);refine wpAny_pure ?_;show wpAny _ _ (holding [key,kv.2] (dictSet d key kv.2)) _ _ _;refine wpAny_holding (wpAny_dictSet_pairs (s:={ s with heap:=h1 }) hkey hd1 (λh2 hd2 sb2=>?_) (by lia));refine wpAny_pure ⟨plainId_quiet F.plain_dict_update_loop _,?_⟩;have keep2:∀ b o,b≠d->b≠it->s.heap.get? b=some o->h2.get? b=some o:=λb o hb hb' z=>(sb2.2 b hb).trans (keep1 b o hb' z);have hlen:(stored acc kv.1 kv.2).length<=i+1:=by have:=stored_length_le acc kv.1 kv.2;lia
  have ht2:h2.IsTuple t items:=by
   obtain ⟨o,ho,r⟩:=ht;exact ⟨o,keep2 t o hdt hit ho,r⟩
  have hs2:h2.IsTupleIter it t (i+1):=by
   obtain ⟨o,ho,r⟩:=hs1;exact ⟨o,(sb2.2 it (Ne.symm hdi)).trans ho,r⟩
  have e:rawInt ((i:Int)+1)=rawInt ((i+1:Nat):Int):=by rw [Int.natCast_add];rfl
  show codeAny _ _ (.builtin "dict.update.loop" ⟨[.ref d,.ref it,rawInt ((i:Int)+1),.none],[]⟩) _ _;rw [e];refine ih (i+1) { s with heap:=h2,toks:=s.toks+1 } (stored acc kv.1 kv.2) (by lia) hlt hlen ht2 (hp.stay λj b o z z2=>keep2 b o (hav j b z).1 (hav j b z).2 z2) hs2 hd2 λh' tk hd' k'=>?_;have q:=hR h' tk (by
   have z:kvs.drop i=kv :: kvs.drop (i+1):=by
    rw [List.drop_eq_getElem_cons hlt];rw [aAp hlt] at hkv;rw [Option.some.inj hkv]
   rw [z];exact hd') λb o hb hb' z=>k' b o hb hb' (keep2 b o hb hb' z)
  exact q
theorem gW {s:Shared} {t:Addr} {o:Obj} {items:Array Value} {n:Nat} {kvs:List (K×Value)} {Q:Value->Shared->Prop} (hh:A.handled=none) (ho:s.heap.get? t=some o) (hc:o.cls=.type "tuple") (hdat:o.data=.seq items n) (hd:o.dict=none)
  (hp:s.heap.PairItems knd items kvs) (hsz:kvs.length+kvs.length<=sizeLine)
  (h:∀ h' tk,h'.DictOf knd s.heap.objs.size (merged [] kvs)->(∀ b o,s.heap.get? b=some o->h'.get? b=some o)->Q (.ref s.heap.objs.size) { s with heap:=h',toks:=tk }) :
  wpAny (model prog w) A (call (.type "dict") [.ref t]) Q E s:=by
 refine callType_codes (Q₁:=λobj s₁=>obj=.ref s.heap.objs.size/\s₁={ s with heap:=s.heap.push { cls:=.type "dict",data:=.dict #[] } }) F.kt_called_dict (F.kt_typeCall_dict_1 _) F.entry_dict_init (kt_code_dict_new _ ⟨rfl,rfl⟩) ?_;rintro obj s₁ ⟨rfl,rfl⟩;have hnew:(s.heap.push { cls:=.type "dict",data:=.dict #[] }).DictOf knd s.heap.objs.size []:=Heap.DictOf.new s.heap;have ho1:(s.heap.push { cls:=.type "dict",data:=.dict #[] }).get? t=some o:=aAa _ ho;have htl:t < s.heap.objs.size:=aAd ho;refine ⟨hnew.typeIs,F.args_dict_init_2 _ _,?_⟩;unfold Builtin.«dict.__init__»;refine wpAny_bind ?_;unfold Builtin.Dict.selfAndRest;refine wpAny_bind (wpAny_notOrdered_dict hnew.typeIs ?_);show wpAny _ _ (pure (s.heap.objs.size,[Value.ref t])) _ _ _;refine wpAny_pure ?_;show wpAny _ _ (Builtin.Dict.updateFrom "dict.__init__" s.heap.objs.size (.ref t) [] .none) _ _ _;unfold Builtin.Dict.updateFrom;refine wpAny_bind (wpAny_typeOf (T:= "tuple") ⟨_,ho1,hc⟩ ?_);rw [if_pos (by decide)];refine wpAny_bind (gU ho1 hc hdat hd (by first | exact hh | simpa using hh) λh1 tk1 e hx=>?_);rw [if_pos (0)];refine wpAny_bind (wpAny_rule ?_);have kp1:∀ b o,(s.heap.push { cls:=.type "dict",data:=.dict #[] }).get? b=some o->h1.get? b=some o:=λb o z=>hx.keeps b o z;have ht1:h1.IsTuple t items:=⟨o,kp1 t o ho1,hc,n,hdat⟩;refine wpAny_bind (wpAny_pyIter_tuple ht1 ?_);have hit:s.heap.objs.size < h1.objs.size:=by
  obtain ⟨o2,es,ep,ho2,_⟩:=hnew;exact aAd (kp1 _ _ ho2)
 have kp0:∀ b o,s.heap.get? b=some o->h1.get? b=some o:=λb o z=>kp1 b o (aAa _ z);refine wpAny_pure ⟨plainId_quiet F.plain_dict_update_loop _,?_⟩;refine fz (knd:=knd) (t:=t) (items:=items) (kvs:=kvs) (by first | exact hh | simpa using hh) (aAl htl) (aAl (aBa htl hit)) (aAl hit) (λi a z=>?_) hsz kvs.length 0 _ [] (by lia) (aAF _) (aAo _)
  ⟨o,aAa _ (kp1 t o ho1),hc,n,hdat⟩ (hp.stay λi a o2 _ z=>aAa _ (kp0 a o2 z)) ⟨_,aAf _ rfl,rfl,rfl⟩ ?_ λh' tk hd' k'=>⟨rfl,?_⟩
 ·have hi:i < kvs.length:=by
   rw [<- hp.1];exact (aAS.mp z).1
  obtain ⟨b,key,e1,⟨ob,e2,_⟩,_⟩:=hp.2 i _ (aAp hi);rw [z] at e1;have e3:a=b:=by injection (Option.some.inj e1)
  subst e3;have:=aAd e2;exact ⟨aAl this,aAl (aBa this hit)⟩
 ·obtain ⟨o2,es,ep,ho2,r⟩:=hnew;exact ⟨o2,es,ep,aAa _ (kp1 _ _ ho2),r⟩
 ·refine h h' tk hd' λb ob z=>k' b ob (aAl (aAd z)) (aAl (aBa (aAd z) hit)) (aAa _ (kp0 b ob z))
end
end PySem
namespace L2
open PySem PySem.Spec PyProof.Rows
def Pl (H:Hp) (a:Addr):Prop:=∃ o u,H a=some (.frz o u)/\o.dict=none
mutual
inductive IsP (K:W.Frag) (H:Hp):Dt->V->Prop
 | non:IsP K H .non .non
 | bl {b}:IsP K H (.bl b) (.bl b)
 | int {i}:IsP K H (.int i) (.int i)
 | str {z}:IsP K H (.str z) (.str z)
 | tup {l:List Dt} {a:Addr} {xs:List V}:SqT K H a xs->Pl H a->IsPs K H l xs->IsP K H (.tup l) (.ref a)
inductive IsPs (K:W.Frag) (H:Hp):List Dt->List V->Prop
 | nil:IsPs K H [] []
 | cons {d:Dt} {l:List Dt} {x:V} {xs:List V}:IsP K H d x->IsPs K H l xs->IsPs K H (d :: l) (x :: xs)
end
section
variable {K:W.Frag} {H H':Hp}
mutual
theorem IsP.d:∀ {d:Dt} {v:V},IsP K H d v->IsD K H d v
 | _,_,.non=>.non
 | _,_,.bl=>.bl
 | _,_,.int=>.int
 | _,_,.str=>.str
 | _,_,.tup h _ r=>.tup h (IsPs.d r)
theorem IsPs.d:∀ {l:List Dt} {xs:List V},IsPs K H l xs->IsDs K H l xs
 | _,_,.nil=>.nil
 | _,_,.cons h r=>.cons (IsP.d h) (IsPs.d r)
end
theorem Pl.same {a:Addr} (g:Same H H') (h:Pl H a):Pl H' a:=by
 obtain ⟨o,u,e,d⟩:=h;exact ⟨o,u,g _ _ e,d⟩
theorem Pl.but {a r:Addr} {ys:List V} (hr:H r=some (.lst ys)) (g:But r H H') (h:Pl H a):Pl H' a:=by
 obtain ⟨o,u,e,d⟩:=h;exact ⟨o,u,g _ _ (eD e hr (by intro z;cases z)) e,d⟩
mutual
theorem IsP.same (g:Same H H'):∀ {d:Dt} {v:V},IsP K H d v->IsP K H' d v
 | _,_,.non=>.non
 | _,_,.bl=>.bl
 | _,_,.int=>.int
 | _,_,.str=>.str
 | _,_,.tup h p r=>.tup (g.tup h) (p.same g) (IsPs.same g r)
theorem IsPs.same (g:Same H H'):∀ {l:List Dt} {xs:List V},IsPs K H l xs->IsPs K H' l xs
 | _,_,.nil=>.nil
 | _,_,.cons h r=>.cons (IsP.same g h) (IsPs.same g r)
end
mutual
theorem IsP.but {r:Addr} {ys:List V} (hr:H r=some (.lst ys)) (g:But r H H'):∀ {d:Dt} {v:V},IsP K H d v->IsP K H' d v
 | _,_,.non=>.non
 | _,_,.bl=>.bl
 | _,_,.int=>.int
 | _,_,.str=>.str
 | _,_,.tup h p q=>.tup (by
   rcases tZ hr h with n | n
   ·exact g.tup n h
   ·exact n _) (p.but hr g) (IsPs.but hr g q)
theorem IsPs.but {r:Addr} {ys:List V} (hr:H r=some (.lst ys)) (g:But r H H'):∀ {l:List Dt} {xs:List V},IsPs K H l xs->IsPs K H' l xs
 | _,_,.nil=>.nil
 | _,_,.cons h q=>.cons (IsP.but hr g h) (IsPs.but hr g q)
end
theorem IsPs.length {l:List Dt} {xs:List V} (h:IsPs K H l xs):l.length=xs.length:=h.d.length
theorem IsPs.get {l:List Dt} {xs:List V} (h:IsPs K H l xs) {i:Nat} {d:Dt} (e:l[i]?=some d):∃ x,xs[i]?=some x/\IsP K H d x:=by
 induction l generalizing xs i with
 | nil=>simp at e
 | cons c l ih =>
  cases h with
  | cons h r =>
   cases i with
   | zero=>simp at e;subst e;exact ⟨_,rfl,h⟩
   | succ i=>exact ih r (by simpa using e)
theorem IsPs.get' {l:List Dt} {xs:List V} (h:IsPs K H l xs) {i:Nat} {x:V} (e:xs[i]?=some x):∃ d,l[i]?=some d/\IsP K H d x:=by
 induction l generalizing xs i with
 | nil=>cases h;simp at e
 | cons c l ih =>
  cases h with
  | cons h r =>
   cases i with
   | zero=>simp at e;subst e;exact ⟨_,rfl,h⟩
   | succ i=>exact ih r (by simpa using e)
theorem IsPs.append {l m:List Dt} {xs ys:List V} (h:IsPs K H l xs) (h':IsPs K H m ys):IsPs K H (l++m) (xs++ys):=by
 induction l generalizing xs with
 | nil=>cases h;exact h'
 | cons d l ih=>cases h with | cons h r=>exact .cons h (ih r)
theorem IsPs.drop:∀ {l:List Dt} {xs:List V} (n:Nat),IsPs K H l xs->IsPs K H (l.drop n) (xs.drop n)
 | _,_,0,h=>h
 | _,_,_+1,.nil=>.nil
 | _,_,n+1,.cons _ r=>IsPs.drop n r
theorem IsPs.take:∀ {l:List Dt} {xs:List V} (n:Nat),IsPs K H l xs->IsPs K H (l.take n) (xs.take n)
 | _,_,0,_=>.nil
 | _,_,_+1,.nil=>.nil
 | _,_,n+1,.cons h r=>.cons h (IsPs.take n r)
theorem IsP.unref {l:List Dt} {v:V} (h:IsP K H (.tup l) v):∃ a xs,v=.ref a/\SqT K H a xs/\Pl H a/\IsPs K H l xs:=by
 cases h with
 | tup h p r=>exact ⟨_,_,rfl,h,p,r⟩
end
def plO (xs:List V) (us:List Value):HO:=.frz { cls:=.type "tuple",data:=.seq us.toArray } (.tup xs)
section
variable {X:Cx} {pins:List (Addr×Obj)} {σ:St} {H:Hp} {s:Shared}
theorem Inv.plain {xs:List V} {us:List Value} {t':Nat} (I:Inv X pins σ H s) (r:Vals xs us) (z:xs.length<=sizeLine) :
  Inv X pins σ (upd H s.heap.objs.size (plO xs us)) { s with heap:=s.heap.push { cls:=.type "tuple",data:=.seq us.toArray },toks:=t' }/\H s.heap.objs.size=none :=
 ⟨I.laid (t':=t') (λb ob q=>aAa _ q) (aAo _) ⟨aAf _ rfl,z,us,r,IsTup.new _ _⟩,I.hok.fresh (aAo _)⟩
theorem iI {p:Addr} {l:List Dt} {xs:List V} {us:List Value} (hf:H p=none) (d:IsPs X.K H l xs):Same H (upd H p (plO xs us))/\IsP X.K (upd H p (plO xs us)) (.tup l) (.ref p) :=
 ⟨ae hf _,.tup (.inl (.inr ⟨_,ac⟩)) ⟨_,_,ac,rfl⟩ (d.same (ae hf _))⟩
variable {e:Expr} {es:List Expr} {t:TA} {pos:Pos}
inductive ITup (K:W.Frag) (xs:List V) (H1:Hp) (Q:VK):Prop
 | mk (l:List Dt):(IsPs K H1 l xs)->(xs.length<=sizeLine)->(∀ v H',Same H1 H'->IsP K H' (.tup l) v->Q v H')->ITup K xs H1 Q
def kA (K:W.Frag) (t:TA):TE:=λσ H Q=>t σ H λxs H1=>ITup K xs H1 Q
theorem wy {x1} (h:PA X es t):PE X (.Tuple es x1 pos) (kA X.K t):=by
 intro pins s σ H Q I hq;refine wpAny_Tuple_spliced (thn (h pos pins s σ H _ I hq) λus s1 ⟨xs,H1,I1,r,l,d,z,q⟩=>⟨by rw [<- r.length];exact z,?_⟩);obtain ⟨I2,hf⟩:=I1.plain (t':=s1.toks) r z;obtain ⟨g,dp⟩:=iI (X:=X) (us:=us) hf d;exact ⟨.ref s1.heap.objs.size,_,I2,rfl,q _ _ g dp⟩
theorem nr:aN X (.type "tuple") (λxs H Q=>∃ p ys l,xs=[.ref p]/\SqL X.K H p ys/\IsPs X.K H l ys/\∀ v H',Same H H'->IsP X.K H' (.tup l) v->Q v H'):=by
 intro pins s σ H xs us Q I r h;obtain ⟨p,ys,l,rfl,hq,d,q⟩:=h;obtain ⟨u,rfl,rx⟩:=cc r
 cases rx
 obtain ⟨its,r',pl,hz⟩:=I.list hq;have hlen:=r'.length;refine call_tuple_list pl.isList (λh' kp=>?_) (by simp only [aAm] <;> lia);have I1:Inv X pins σ H { s with heap:=h' }:=I.kept (t':=s.toks) kp;obtain ⟨I2,hf⟩:=I1.plain (t':=s.toks) r' hz;obtain ⟨g,dp⟩:=iI (X:=X) (us:=its) hf d;exact ⟨.ref h'.objs.size,_,I2,rfl,q _ _ g dp⟩
theorem wz:SlR X (λx lo hi H Q=>∃ l,IsP X.K H (.tup l) x/\∀ v H',Same H H'->IsP X.K H' (.tup (rZ l lo hi)) v->Q v H'):=by
 intro pins s σ H x v vl vu lo hi sl Q I rx hs pl pu h;obtain ⟨l,dx,q⟩:=h;obtain ⟨a,xs,rfl,hx,pa,ra⟩:=id dx.unref
 cases rx
 have e1:=ra.length;obtain ⟨its,r,ht,hz⟩:=I.tuple hx;have hlen:its.toArray.size=xs.length:=by rw [aAm];exact r.length.symm
 refine ⟨"tuple",_,PyProof.Rows.slot_tuple_getitem.lookup,ht.typeIs,?_⟩
 by_cases hw:HT.sIx xs.length 0 lo=0/\HT.sIx xs.length xs.length hi=xs.length
 ·refine HT.getItem_tuple_all ht hs pl pu (by rw [hlen];exact hw.1) (by rw [hlen];exact hw.2) ⟨.ref a,H,I,rfl,q _ H (Same.refl H) ?_⟩;have e:rZ l lo hi=l:=by
   unfold rZ;rw [e1,hw.1,hw.2,List.drop_zero,Nat.sub_zero,<- e1,aAB]
  rw [e];exact dx
 ·refine HT.getItem_tuple_cut ht hs pl pu (by rw [hlen];exact hw) ?_ (by rw [hlen];exact hz);rw [hlen];obtain ⟨I2,hf⟩:=I.plain (t':=s.toks) ((r.drop (HT.sIx xs.length 0 lo)).take (HT.sIx xs.length xs.length hi - HT.sIx xs.length 0 lo)) (aAx (gG xs lo hi) hz);have d2:IsPs X.K H (rZ l lo hi) (gR xs lo hi):=by
   unfold rZ gR;rw [e1];exact (ra.drop _).take _
  obtain ⟨g,dp⟩:=iI (X:=X) (us:=(its.drop (HT.sIx xs.length 0 lo)).take (HT.sIx xs.length xs.length hi - HT.sIx xs.length 0 lo)) hf d2;exact ⟨.ref s.heap.objs.size,_,I2,rfl,q _ _ g dp⟩
theorem wA:IxR X (λx y H Q=>∃ l i d,IsP X.K H (.tup l) x/\y=.int i/\atI l i=some d/\∀ v,IsP X.K H d v->Q v H):=by
 intro value slice pins s σ H x y v u Q I rx ry h hs;obtain ⟨l,i,d,dx,rfl,ha,q⟩:=h;obtain ⟨a,xs,rfl,hx,pa,ra⟩:=id dx.unref;obtain ⟨j,hj,hd,_⟩:=la ha;have e1:=ra.length;obtain ⟨w',hw,dw⟩:=ra.get hd;have hat:atI xs i=some w':=by
  unfold atI at ha ⊢;rw [<- e1]
  cases z:ixN l.length i with
  | none=>rw [z] at ha;cases ha
  | some j' =>
   rw [z] at ha;have ha':l[j']?=some d:=ha;obtain ⟨w2,hw2,dw2⟩:=ra.get ha';have z2:=kZ z;rw [hj] at z2;have:j=j':=Option.some.inj z2.1;subst this;exact hw
 exact A1 value slice pins s σ H (.ref a) (.int i) v u Q I rx ry ⟨a,xs,i,w',rfl,rfl,hx,hat,q w' dw⟩ hs
theorem wB:OpR X (binaryOp .Mult) (rI IntMulOk λi j=>.int (i*j)):=opI λ_ _ _ _ _ _ _ hc q=>mul_int q hc
end
def am (fs:List (Str×Dt)) (z:Str):Option Dt:=(fs.find? λp=>decide (p.1=z)).map (·.2)
abbrev prD (p:Str×Dt):Dt:=.tup [.str p.1,p.2]
def IA (K:W.Frag) (H:Hp) (p:Addr) (fs:List (Str×Dt)):Prop :=
 ∃ kvs,H p=some (.dK kvs)/\∀ z,(am fs z=none->a8 kvs (Sum.inr z:Key)=none)/\∀ d,am fs z=some d->∃ v,a8 kvs (Sum.inr z:Key)=some v/\IsP K H d v
section
variable {X:Cx} {pins:List (Addr×Obj)} {σ:St} {H:Hp} {s:Shared}
theorem uj (I:Inv X pins σ H s):∀ {fs:List (Str×Dt)} {xs:List V} {its:List Value},IsPs X.K H (fs.map prD) xs->Vals xs its ->
  ∃ (kvs:List (Key×V)) (vs:List (Key×Value)),KV kvs vs/\kvs.map (·.1)=fs.map (λp=>Sum.inr p.1)/\kvs.length=fs.length /\
   (∀ z,(am fs z=none->a8 kvs (Sum.inr z:Key)=none)/\∀ d,am fs z=some d->∃ v,a8 kvs (Sum.inr z:Key)=some v/\IsP X.K H d v) /\
   its.length=vs.length/\∀ (i:Nat) (kv:Key×Value),vs[i]?=some kv->∃ (a:Addr) (key:Value),its[i]?=some (.ref a)/\s.heap.IsTuple a #[key,kv.2]/\(ag X.prog X.w).is kv.1 key=true:=by
 intro fs
 induction fs with
 | nil =>
  intro xs its h r
  cases h
  cases r
  exact ⟨[],[],.nil,rfl,rfl,λz=>⟨λ_=>rfl,λd q=>by cases q⟩,rfl,λi kv q=>by simp at q⟩
 | cons f fs ih =>
  intro xs its h r
  cases h with
  | cons h1 h2 =>
   cases r with
   | cons r1 r2 =>
    obtain ⟨kvs,vs,e1,e2,e3,e4,e5,e6⟩:=ih h2 r2;obtain ⟨a,ys,rfl,ha,pa,ra⟩:=h1.unref
    cases r1
    obtain ⟨its',r',p',_⟩:=I.tuple ha
    cases ra with
    | cons d1 ra =>
     cases ra with
     | @cons _ _ v _ d2 ra =>
      cases ra
      cases d1
      cases r' with
      | cons q1 r' =>
       cases r' with
       | @cons _ u _ _ q2 r' =>
        cases r'
        obtain ⟨tk,rfl⟩:=q1;refine ⟨(Sum.inr f.1,v) :: kvs,(Sum.inr f.1,u) :: vs,.cons ⟨rfl,q2⟩ e1,by simp [e2],by simp [e3],λz=>?_,by simp [e5],λi kv q=>?_⟩
        ·by_cases hz:f.1=z
         ·subst hz;have l1:am (f :: fs) f.1=some f.2:=by simp [am]
          have l2:a8 ((Sum.inr f.1,v) :: kvs) (Sum.inr f.1:Key)=some v:=by simp [a8]
          exact ⟨λq=>(by rw [l1] at q;cases q),λd q=>(by rw [l1] at q;cases q;exact ⟨v,l2,d2⟩)⟩
         ·have l1:am (f :: fs) z=am fs z:=by simp [am,hz]
          have l2:a8 ((Sum.inr f.1,v) :: kvs) (Sum.inr z:Key)=a8 kvs (Sum.inr z:Key):=by simp [a8,hz]
          rw [l1,l2];exact e4 z
        ·cases i with
         | zero =>
          simp at q;subst q;exact ⟨a,_,rfl,p',kz (k:=Sum.inr f.1) ⟨tk,rfl⟩⟩
         | succ i=>exact e6 i kv (by simpa using q)
end
end L2
namespace PySem
open Sem (wp)
open Builtin
section
variable {prog:Program} {w:World} {A:Around} {E:Value->Shared->Prop} {s:Shared}
end
end PySem
namespace L2
open PySem PySem.Spec PyProof.Rows
section
variable {X:Cx}
def uk (lo c:Int) (n:Nat):It:=⟨λi _=>i < n,λi H x H'=>H'=H/\x=.int (lo+i*c),λi _=>n<=i⟩
theorem nu {P:Program} {w:World} {K:W.Frag} {tg:Expr} (it:Addr) (lo c:Int) (n:Nat):Turn P w K tg (uk lo c n) [it] it (λi h=>IsRangeIter h it (lo+(i:Nat)*c) ((n:Int) - (i:Nat)) c) where
 mem:=by simp
 obj:=λi h st b hb=>by
  have e:b=it:=by simpa using hb
  subst e;exact ⟨_,st,λv z=>by
   have z':Data.fields _=Data.cell v:=z
   cases z'⟩
 keep:=λi h h' st k=>k it (by simp) _ st
 item:=by
  intro X hP hw hK hc i pins s σ H E I hf st hg;subst hP hw hK;obtain ⟨f0,f1,f2,f3,f4,f5⟩:=hf it (by simp);have W:=Walks.range (prog:=X.prog) (w:=X.w) (I.ok.hd hc) it lo c n;refine W.item i s _ _ hg st λv h' tk hv st' kk=>?_;obtain ⟨t,rfl⟩:=hv;have I1:Inv X pins σ H { s with heap:=h',toks:=tk }:=I.turned (λb o hb e=>kk b o (by simpa using hb) e) f0 f1 f3 f4 f5;exact ⟨_,rfl,mJ (s:={ s with heap:=h',toks:=tk }) (n:= "range_iterator") st' rfl rfl (by decide) ⟨.int (lo+i*c),H,I1,⟨t,rfl⟩,⟨rfl,rfl⟩,st',λb hb=>(hf b hb).1⟩⟩
 done:=by
  intro X hP hw hK hc i pins s σ H E I hf st hg;subst hP hw hK;obtain ⟨f0,f1,f2,f3,f4,f5⟩:=hf it (by simp);exact wpAny_pyNext_range_end (I.ok.hd hc) st (by have:n<=i:=hg;lia) λh' eb=>⟨rfl,I.turned (t':=s.toks) (λb o hb e=>eb b o hb e) f0 f1 f3 f4 f5⟩
 self:=λ_ _ _ _ _ st h=>wpAny_pyIter_rangeiter st h
def rngN (a b c:Int):Nat:=(Builtin.Range.rangeSize a b c).toNat
theorem wC {a b c:Int} (hc:0 < c) {i:Nat} (h:i < rngN a b c):a+i*c < b:=by
 unfold rngN Builtin.Range.rangeSize at h;rw [if_pos (show c > 0 from hc)] at h
 by_cases hab:a < b
 ·rw [if_pos hab] at h;have h1:(0:Int)<=(b - a - 1) / c:=Int.ediv_nonneg (by lia) (by lia);have h2:(i:Int)<=(b - a - 1) / c:=by lia
  have h3:(i:Int)*c<=b - a - 1:=Int.le_trans (Int.mul_le_mul_of_nonneg_right h2 (by lia)) (Int.ediv_mul_le _ (by lia));lia
 ·rw [if_neg hab] at h;simp at h
theorem qK {a b c:Int} (hc:0 < c):(rngN a b c:Int)<=if a < b then b - a else 0:=by
 unfold rngN Builtin.Range.rangeSize;rw [if_pos (show c > 0 from hc)]
 by_cases hab:a < b
 ·rw [if_pos hab,if_pos hab];have h1:(0:Int)<=(b - a - 1) / c:=Int.ediv_nonneg (by lia) (by lia);have h2:(b - a - 1) / c<=b - a - 1:=Int.ediv_le_self _ (by lia);lia
 ·rw [if_neg hab,if_neg hab];simp
variable {tg:Expr}
def Hq (ta:TA):TI:=λσ H R=>ta σ H λvs H1=>∃ i j c:Int,vs=[.int i,.int j,.int c]/\(0<=i/\i < 2 ^ 62/\0<=j/\j < 2 ^ 62/\0 < c/\c < 1073741824)/\R (uk i c (rngN i j c)) H1
theorem sr {a b c:Expr} {ta:TA} {p pos:Pos} (hg:Gl X "range") (hm:X.mg "range" = none) (ha:PA X [a,b,c] ta) (hs:starEach [a,b,c] X.env=[(false,eval a X.env),(false,eval b X.env),(false,eval c X.env)]:=by rfl) (hs2:starEach [b,c] X.env=[(false,eval b X.env),(false,eval c X.env)]:=by rfl) :
  PI X tg (.Call (.Name "range" p) [a,b,c] [] pos) (Hq ta):=by
 intro pins s σ H R I h;refine Call_ (dC I hg hm boot_range (PyProof.Rows.callWith_type1 (thn (ha pos pins s σ H _ I h) λus s1 ⟨vs,H1,I1,r1,q1⟩=>?_) (by rw [hs,hs2]) (by rw [hs2];rfl)));obtain ⟨i,j,c,e,⟨q1,q2,q3,q4,q5,q6⟩,q⟩:=q1;subst e
 cases r1 with
 | cons r rr =>
  cases rr with
  | cons r' rr =>
   cases rr with
   | cons r'' rr =>
    cases rr
    obtain ⟨t,rfl⟩:=r;obtain ⟨t',rfl⟩:=r';obtain ⟨t'',rfl⟩:=r'';have hn0:=qK (a:=i) (b:=j) q5;have hsz:Builtin.Range.rangeSize i j c=((rngN i j c:Nat):Int):=rangeSize_toNat i j c;have hn:(rngN i j c:Int) < 2 ^ 62:=by
     split at hn0 <;> lia
    refine call_range_3 (by lia) ?_ (.inl (PyProof.noPylong_small (by lia)));have sm:Builtin.Range.small i j c=true:=by
     unfold Builtin.Range.small Builtin.Range.rangeFitsLong;rw [hsz,if_pos (show c > 0 from q5)];simp only [aAr,Bool.or_eq_true,decide_eq_true_eq,beq_iff_eq];refine ⟨⟨⟨⟨⟨?_,?_⟩,?_,?_⟩,?_,?_⟩,?_,?_⟩,.inr ⟨?_,?_⟩⟩ <;> lia
    refine wpAny_pyIter_range (IsRange.new ..) sm ?_;have I2:Inv X pins σ H1 { s1 with heap:=s1.heap.push { cls:=.type "range",data:=.fields #[.int i t,.int j t',.int c t''] } }:=I1.kept (t':=s1.toks) λb o e=>aAa _ e;refine ⟨(s1.heap.push { cls:=.type "range",data:=.fields #[.int i t,.int j t',.int c t''] }).objs.size,[(s1.heap.push { cls:=.type "range",data:=.fields #[.int i t,.int j t',.int c t''] }).objs.size],_,_,H1,rfl,
     I2.kept (t':=s1.toks) λb o e=>aAa _ e,nu _ i c (rngN i j c),?_,λb hb=>?_,q⟩
    ·have e1:i+((0:Nat):Int)*c=i:=by simp
     have e2:((rngN i j c:Nat):Int) - ((0:Nat):Int)=Builtin.Range.rangeSize i j c:=by rw [hsz];simp
     show IsRangeIter _ _ (i+((0:Nat):Int)*c) (((rngN i j c:Nat):Int) - ((0:Nat):Int)) c;rw [e1,e2];exact aAf _ rfl
    ·have e:b=(s1.heap.push { cls:=.type "range",data:=.fields #[.int i t,.int j t',.int c t''] }).objs.size:=by simpa using hb
     subst e;exact I2.fpOk (aAo _) (I2.hok.fresh (aAo _))
end
theorem u1 {A:Around} (h:A.units+64 < cLine):A.units+1 < cLine:=by lia
theorem il {P:Program} {w:World} {K:W.Frag} {mg:Str->Option Value} {base:Heap} {CX:CXT} {k:Nat} {f:Addr} {fd:FuncData} {ps:List Str} {sp:Sp} (h:∀ vs H Q E,¬ sp vs H Q E):FnOk P w K mg base CX k f fd ps sp :=
 ⟨λvs H Q E z=>(h vs H Q E z).elim,λA outer s H args us vs Q E hr e0 hb r z=>(h vs H Q E z).elim⟩
theorem wD {a:Int} {m:Nat} (h0:0<=a) (h:a < 2 ^ m):Builtin.Int.intBits a<=m:=by
 refine intBits_le_iff.mpr ?_;have e:((a.natAbs:Nat):Int)=a:=Int.natAbs_of_nonneg h0;have h':((a.natAbs:Nat):Int) < ((2 ^ m:Nat):Int):=by rw [e];simpa using h
 exact Int.ofNat_lt.mp h'
theorem gg {X:Cx} {K:W.Frag} (hK:X.K=K):aN X (.builtin "isinstance") (λxs H Q=>∃ a C D b,xs=[.ref a,.ref D]/\H a=some (xO a C)/\W.ExcK K C/\W.kitOne K (.ref C) (.ref D)=some b/\Q (.bl b) H):=by
 subst hK;exact uc
theorem pM {X:Cx} {K:W.Frag} (hK:X.K=K):aN X (.builtin "isinstance") (λxs H Q=>∃ a C T b,xs=[.ref a,.ty T]/\H a=some (xO a C)/\W.ExcK K C/\W.kitOne K (.ref C) (.type T)=some b/\Q (.bl b) H):=by
 subst hK;exact rY
section
variable {X:Cx}
theorem fA:OpR X (binaryOp .FloorDiv) (rI (λ_ j=>0 < j/\j < 10000000000000000000000000000000000000000000000000000000000000) λi j=>.int (i / j)):=opI λi j _ _ _ _ _ hc q=>by
 have h1:(0:Int) < j:=hc.1;have h2:j < 10000000000000000000000000000000000000000000000000000000000000:=hc.2;refine floordiv_int (by lia) (by rw [Int.fdiv_eq_ediv_of_nonneg i (by lia)];exact q) (.inl (PyProof.noPylong_of_log2 ?_));have h3:j.natAbs < 2 ^ 9000:=aAi (show j.natAbs < 10000000000000000000000000000000000000000000000000000000000000 by lia) (by decide +kernel);exact (Nat.log2_lt (by lia)).mpr h3
inductive ICatS (K:W.Frag) (x y:V) (H:Hp) (Q:VK):Prop
 | mk (l b:Addr) (xs zs:List V):(x=.ref l)->(y=.ref b)->(SqL K H l xs)->(SqL K H b zs)->(xs.length+zs.length<=sizeLine)->(∀ p,H p=none->Q (.ref p) (upd H p (.lst (xs++zs))))->ICatS K x y H Q
def iJ (K:W.Frag):R2:=λx y H Q=>ICatS K x y H Q
theorem wE:OpR X (binaryOp .Add) (iJ X.K):=by
 intro pins s σ H x y v u Q I rx ry h;obtain ⟨l,b,xs,zs,rfl,rfl,hH,hB,hz,q⟩:=h
 cases rx
 cases ry
 obtain ⟨its,r,pl,z⟩:=I.list hH;obtain ⟨its2,r2,pl2,z2⟩:=I.list hB;obtain ⟨⟨cls,dd,data,sl⟩,ho,hc,n,hd⟩:=pl.isList;obtain ⟨⟨cls2,dd2,data2,sl2⟩,ho2,hc2,n2,hd2⟩:=pl2.isList;simp only at hc hd hc2 hd2;subst hc hd hc2 hd2;have l1:=r.length;have l2:=r2.length;have ea:its.toArray++its2.toArray=(its++its2).toArray:=by simp
 refine concat_meets ⟨_,ho,rfl⟩ ⟨_,ho2,rfl⟩ noFill_list_add seq_list_add PySem.F.slot_list_add PySem.F.entry_list_add (PySem.F.args_list_add_2 _ _) (list_addW l b its.toArray its2.toArray n n2 dd dd2 sl sl2 (by simp only [aAm];lia)) ⟨ho,ho2,?_⟩;rw [ea];exact ⟨.ref _,_,I.lnew (t':=s.toks) (r.append r2) (by rw [aAX];lia),rfl,q _ I.fresh⟩
end
open PySem.NumText
def dg (m:Nat):List Nat:=(Nat.toDigits 10 m).map Char.toNat
theorem ul:∀ d:Nat,d < 10->(Nat.digitChar d).toNat=48+d:=by decide
theorem iK {m:Nat} (h:m < 10):dg m=[48+m]:=by
 unfold dg;rw [Nat.toDigits_of_lt_base h];show [(Nat.digitChar m).toNat]=_;rw [ul m h]
theorem wF {m:Nat} (h:10<=m):dg m=dg (m / 10)++[48+m % 10]:=by
 have hm:m % 10 < 10:=Nat.mod_lt m (by decide);have t:Nat.toDigits 10 (m / 10)++Nat.toDigits 10 (m % 10)=Nat.toDigits 10 (10*(m / 10)+m % 10):=Nat.toDigits_append_toDigits (by decide) (by lia) hm;rw [Nat.div_add_mod] at t;unfold dg;rw [<- t,aA0]
 congr 1
 exact iK hm
theorem um:∀ (k m:Nat),m < 10 ^ (k+1)->(dg m).length<=k+1
 | 0,m,h=>by rw [iK (by simpa using h)];exact aAo 1
 | k+1,m,h=>by
  by_cases h1:m < 10
  ·rw [iK h1];exact Nat.succ_le_succ (aAF _)
  ·rw [wF (by lia),aAX,aBr];have:m / 10 < 10 ^ (k+1):=by
    rw [aBV] at h;exact Nat.div_lt_of_lt_mul (by rw [Nat.mul_comm];exact h)
   have:=um k (m / 10) this;lia
def su (n:Int):List Nat:=if n < 0 then 45 :: dg n.natAbs else dg n.natAbs
theorem str_int (n:Int):(Str.ofString (toString n)).cps.toList=su n:=by
 rw [signs_ofString]
 cases n with
 | ofNat m =>
  have:¬ (Int.ofNat m < 0):=by simp
  unfold su;rw [if_neg this];show (Nat.repr m).toList.map Char.toNat=_;rw [Nat.toList_repr]
  rfl
 | negSucc m =>
  have:Int.negSucc m < 0:=Int.negSucc_lt_zero m;unfold su;rw [if_pos this];show ("-" ++Nat.repr (m+1)).toList.map Char.toNat=_;rw [String.toList_append,aA0,Nat.toList_repr]
  rfl
end L2
namespace L2
open PySem PySem.Spec PyProof.Rows
section
variable {X:Cx} {pins:List (Addr×Obj)} {σ:St} {H:Hp} {s:Shared} {h':Heap}
theorem Inv.turnedT {t':Nat} {wr:List Addr} {T:Addr} {o:HO} (I:Inv X pins σ H s) (k:∀ b u,b∉wr->s.heap.get? b=some u->h'.get? b=some u) (f:∀ b∈wr,dD X pins H b)
  (hT:s.heap.objs.size<=T) (new:ObjOk X.prog X.w (upd H T o) h' T o):Inv X pins σ (upd H T o) { s with heap:=h',toks:=t' }:=by
 have nT:∀ b u,s.heap.get? b=some u->b≠T:=λb u e z=>absurd (aAi (aAd e) (z ▸ hT)) (aAE _);have nH:∀ b u,H b=some u->b≠T:=λb u e z=>absurd (aAi (I.hok.lt e) (z ▸ hT)) (aAE _);have nw:∀ b u,H b=some u->b∉wr:=λb u e z=>by rw [(f b z).1] at e;cases e
 refine I.step (g':=s.gens) (d':=s.drawn) (ch:=wr) (λb hb=>?_) (λb u _ _ hc e _=>k b u hc e) (λb u _ _ hc e _=>⟨u.slots,k b u hc e⟩) (λb u _ e n=>by rw [ah (nT b u e)];exact n)
  (λb u hc e=>⟨u,k b u hc e⟩) (λb xs e=>by rw [ah (nH b _ e)];exact e) (λb u v e=>by rw [ah (nH b _ e)];exact e) (λb ps e=>⟨#[],by rw [ah (nH b _ e),e];simp⟩) (λm hm=>?_) (λb u e=>?_) I.bare
 ·obtain ⟨f0,f1,f2,f3,f4,f5⟩:=f b hb;exact ⟨f3,f1,f4,f5⟩
 ·obtain ⟨u,es,ep,ho,r⟩:=hm;exact ⟨u,es,ep,k _ u (λz=>(f _ z).2.1 rfl) ho,r⟩
 ·by_cases hb:b=T
  ·subst hb;rw [ac] at e
   cases e
   exact new
  ·rw [ah hb] at e;refine (I.hok b u e).stay (λc v hc q=>k c v ?_ q) (λc q=>?_) λc xs q=>by rw [ah (nH c _ q)];exact q
   ·rcases hc with z | z
    ·rw [z];exact nw b u e
    ·exact nw c _ z
   ·rw [ah (nH c _ q)];exact q
theorem Inv.turnedL {t':Nat} {wr:List Addr} (I:Inv X pins σ H s) (k:∀ b u,b∉wr->s.heap.get? b=some u->h'.get? b=some u) (f:∀ b∈wr,dD X pins H b):Inv X pins σ H { s with heap:=h',toks:=t' }:=by
 have nw:∀ b u,H b=some u->b∉wr:=λb u e z=>by rw [(f b z).1] at e;cases e
 refine I.step (g':=s.gens) (d':=s.drawn) (ch:=wr) (λb hb=>?_) (λb u _ _ hc e _=>k b u hc e) (λb u _ _ hc e _=>⟨u.slots,k b u hc e⟩) (λ_ _ _ _ n=>n)
  (λb u hc e=>⟨u,k b u hc e⟩) (λ_ _ e=>e) (λ_ _ _ e=>e) (λb ps e=>⟨#[],by rw [e];simp⟩) (λm hm=>?_) (λb u e=>?_) I.bare
 ·obtain ⟨f0,f1,f2,f3,f4,f5⟩:=f b hb;exact ⟨f3,f1,f4,f5⟩
 ·obtain ⟨u,es,ep,ho,r⟩:=hm;exact ⟨u,es,ep,k _ u (λz=>(f _ z).2.1 rfl) ho,r⟩
 ·refine (I.hok b u e).stay (λc v hc q=>k c v ?_ q) (λ_ q=>q) λ_ _ q=>q;rcases hc with z | z
  ·rw [z];exact nw b u e
  ·exact nw c _ z
end
def Itz (K:W.Frag) (a b:Addr):It :=
 ⟨λi H=>∃ xs ys x y,SqL K H a xs/\SqL K H b ys/\xs[i]?=some x/\ys[i]?=some y,
  λi H v H'=>∃ T x y,v=.ref T/\H T=none/\H'=upd H T (.tup [x,y])/\(∀ xs,SqL K H a xs->xs[i]?=some x)/\(∀ ys,SqL K H b ys->ys[i]?=some y),
  λi H=>∃ xs ys,SqL K H a xs/\SqL K H b ys/\min xs.length ys.length=i⟩
def Hr (z TI TO i1 i2 l1 l2:Addr) (i:Nat) (h:Heap):Prop:=IsZip h z TI TO .none/\IsPair h TI (.ref i1) (.ref i2)/\(∃ a b,IsPair h TO a b)/\h.IsListIter i1 l1 i/\h.IsListIter i2 l2 i
theorem uo {P:Program} {w:World} {K:W.Frag} {elts:List Expr} {k:Nat} {pos:Pos} (z TI TO i1 i2 l1 l2:Addr) (D:ZipApart z TI TO i1 i2 l1 l2) :
  Turn P w K (.Tuple elts k pos) (Itz K l1 l2) [z,TI,TO,i1,i2] z (Hr z TI TO i1 i2 l1 l2) where
 mem:=by simp
 obj:=λi h st b hb=>by
  obtain ⟨hz,hTI,⟨a,c,hTO⟩,⟨o1,e1,c1,d1⟩,⟨o2,e2,c2,d2⟩⟩:=st;simp only [aAb,aAc,or_false] at hb;rcases hb with rfl | rfl | rfl | rfl | rfl
  ·exact ⟨_,hz,λv q=>by cases q⟩
  ·exact ⟨_,hTI,λv q=>by cases q⟩
  ·exact ⟨_,hTO,λv q=>by cases q⟩
  ·exact ⟨o1,e1,λv q=>by rw [d1] at q;cases q⟩
  ·exact ⟨o2,e2,λv q=>by rw [d2] at q;cases q⟩
 keep:=λi h h' st kk=>by
  obtain ⟨hz,hTI,⟨a,c,hTO⟩,h1,h2⟩:=st;exact ⟨kk z (by simp) _ hz,kk TI (by simp) _ hTI,⟨a,c,kk TO (by simp) _ hTO⟩,h1.at λo e=>kk i1 (by simp) o e,h2.at λo e=>kk i2 (by simp) o e⟩
 item:=by
  intro X hP hw hK hc i pins s σ H E I hf st hg;subst hP hw hK;obtain ⟨xs,ys,x,y,hx,hy,ex,ey⟩:=hg;obtain ⟨its,rv,p,hz⟩:=I.list hx;obtain ⟨its2,rv2,p2,hz2⟩:=I.list hy;obtain ⟨s1,s2,s3,s4,s5⟩:=st;have W:=WalksT.zip2 (prog:=X.prog) (w:=X.w) (I.ok.hd hc) z TI TO i1 i2 l1 l2 D its.toArray its2.toArray;have li:i < xs.length:=(aAg.mp ex).1;have li2:i < ys.length:=(aAg.mp ey).1;have el:=rv.length;have el2:=rv2.length;have wsub:∀ b∈[z,TO,i1,i2],b∈[z,TI,TO,i1,i2]:=λb hb=>by
   simp only [aAb,aAc,or_false] at hb ⊢;rcases hb with rfl | rfl | rfl | rfl <;> simp
  refine W.item i s _ _ (by simp only [aAm];lia) ⟨s1,s2,s3,s4,s5,p.isList,p2.isList⟩ λT vals h' tk hv hT hTup hm hk=>?_;obtain ⟨u,v,eu,ev,rfl⟩:=hv;obtain ⟨u',eu',ru⟩:=rv.get ex;obtain ⟨v',ev',rv'⟩:=rv2.get ey;have e1:u=u':=by
   have:its[i]?=some u:=by simpa using eu
   rw [eu'] at this;exact (Option.some.inj this).symm
  have e2:v=v':=by
   have:its2[i]?=some v:=by simpa using ev
   rw [ev'] at this;exact (Option.some.inj this).symm
  subst e1 e2;have hTn:H T=none:=I.hok.fresh hT;have I1:Inv X pins σ (upd H T (.tup [x,y])) { s with heap:=h',toks:=tk }:=I.turnedT hk (λb hb=>hf b (wsub b hb)) hT ⟨by show 2<=sizeLine;decide,[u,v],.cons ru (.cons rv' .nil),hTup⟩;have ap:=W.apart i T h' hm;have f1:∀ b∈[z,TO,i1,i2],dD X pins (upd H T (.tup [x,y])) b:=λb hb=>by
   obtain ⟨f0,f1⟩:=hf b (wsub b hb);exact ⟨by rw [ah (λe:b=T=>ap (by rw [<- e];exact hb))];exact f0,f1⟩
  refine ⟨_,rfl,W.go elts k pos i T _ _ _ hm λh'' st2 hk2=>?_⟩;obtain ⟨t1,t2,t3,t4,t5,_,_⟩:=st2;refine ⟨.ref T,_,Inv.turnedL (s:={ s with heap:=h',toks:=tk }) (t':=tk) I1 hk2 f1,rfl,⟨T,x,y,rfl,hTn,rfl,λzs q=>by rw [I.list_inj q hx];exact ex,λzs q=>by rw [I.list_inj q hy];exact ey⟩,⟨t1,t2,t3,t4,t5⟩,λb hb=>?_⟩;have fb:=(hf b hb).1
  by_cases e:b=T
  ·subst e;have lti:s.heap.objs.size > TI:=aAd s2;simp only [aAb,aAc,or_false] at hb;rcases hb with rfl | rfl | rfl | rfl | rfl
   ·exact absurd (by simp) ap
   ·exact absurd lti (aBT.mpr hT)
   ·exact absurd (by simp) ap
   ·exact absurd (by simp) ap
   ·exact absurd (by simp) ap
  ·rw [ah e];exact fb
 done:=by
  intro X hP hw hK hc i pins s σ H E I hf st hg;subst hP hw hK;obtain ⟨xs,ys,hx,hy,hi⟩:=hg;obtain ⟨its,rv,p,hz⟩:=I.list hx;obtain ⟨its2,rv2,p2,hz2⟩:=I.list hy;obtain ⟨s1,s2,s3,s4,s5⟩:=st;have W:=WalksT.zip2 (prog:=X.prog) (w:=X.w) (I.ok.hd hc) z TI TO i1 i2 l1 l2 D its.toArray its2.toArray;have el:=rv.length;have el2:=rv2.length;have en:min its.toArray.size its2.toArray.size=i:=by simp only [aAm];lia
  have wsub:∀ b∈[z,TO,i1,i2],b∈[z,TI,TO,i1,i2]:=λb hb=>by
   simp only [aAb,aAc,or_false] at hb ⊢;rcases hb with rfl | rfl | rfl | rfl <;> simp
  refine W.done s _ _ ?_ λh' tk hk=>⟨rfl,I.turnedL hk λb hb=>hf b (wsub b hb)⟩;rw [en];exact ⟨s1,s2,s3,s4,s5,p.isList,p2.isList⟩
 self:=λ_ _ _ _ _ st h=>wpAny_pyIter_zip st.1 h
section
variable {X:Cx} {elts:List Expr} {k:Nat} {tpos:Pos}
def IB (K:W.Frag) (ta:TA):TI:=λσ H R=>ta σ H λvs H1=>∃ a b,vs=[.ref a,.ref b]/\(∃ xs,SqL K H1 a xs)/\(∃ ys,SqL K H1 b ys)/\R (Itz K a b) H1
theorem A9 {a b:Expr} {ta:TA} {p pos:Pos} (hg:Gl X "zip") (hm:X.mg "zip" = none) (ha:PA X [a,b] ta) (hs:starEach [a,b] X.env=[(false,eval a X.env),(false,eval b X.env)]:=by rfl) (hs2:starEach [b] X.env=[(false,eval b X.env)]:=by rfl) :
  PI X (.Tuple elts k tpos) (.Call (.Name "zip" p) [a,b] [] pos) (IB X.K ta):=by
 intro pins s σ H R I h;refine Call_ (dC I hg hm boot_zip (PyProof.Rows.callWith_type1 (thn (ha pos pins s σ H _ I h) λus s1 ⟨vs,H1,I1,r1,q1⟩=>?_) (by rw [hs,hs2]) (by rw [hs2];rfl)));obtain ⟨l1,l2,e,⟨xs,hx⟩,⟨ys,hy⟩,q⟩:=q1;subst e;obtain ⟨u,v,rfl,ru,rv⟩:=r1.two
 cases ru
 cases rv
 obtain ⟨its,rr,pl,hz⟩:=I1.list hx;obtain ⟨its2,rr2,pl2,hz2⟩:=I1.list hy;have lt1:l1 < s1.heap.objs.size:=by obtain ⟨o,e,_⟩:=pl.isList;exact aAd e
 have lt2:l2 < s1.heap.objs.size:=by obtain ⟨o,e,_⟩:=pl2.isList;exact aAd e
 refine call_zip_2 pl.isList pl2.isList λh' z1 z2 z3 z4 z5 zs kk=>?_;have I2:Inv X pins σ H1 { s1 with heap:=h' }:=I1.kept (t':=s1.toks) kk;refine wpAny_pyIter_zip z1 ?_;refine ⟨_,_,_,_,H1,rfl,I2,uo _ _ _ _ _ l1 l2 ?_,⟨z1,z2,⟨_,_,z3⟩,z4,z5⟩,λb hb=>?_,q⟩
 ·have lt1':s1.heap.objs.size > l1:=lt1;have lt2':s1.heap.objs.size > l2:=lt2
  constructor <;> (show ¬ (@Eq Nat _ _)) <;> lia
 ·have:s1.heap.objs.size<=b:=by
   simp only [aAb,aAc,or_false] at hb;rcases hb with rfl | rfl | rfl | rfl | rfl <;> lia
  exact I1.fpOk this (I1.hok.fresh this)
end
theorem uq {K:W.Frag} {a b l:Addr} {xs ys:List V} {g:TG} {tb:List V->Addr->St->Hp->(List V->St->Hp->Prop)->Prop} {Q:VK} {σ0:St} {H0:Hp} (Pv:Nat->List V->St->Hp->Prop) (h0:Pv 0 [] σ0 H0)
  (hla:∀ i us σ H,Pv i us σ H->SqL K H a xs/\SqL K H b ys)
  (hs:∀ i x y T us σ H (N:List V->St->Hp->Prop),xs[i]?=some x->ys[i]?=some y->H T=none->Pv i us σ H->(∀ us' σ' H',Pv (i+1) us' σ' H'->N us' σ' H')->g (.ref T) σ (upd H T (.tup [x,y])) λσ2 H2=>tb us l σ2 H2 N)
  (hd:∀ us σ H,Pv (min xs.length ys.length) us σ H->Q (.ref l) H) :
  ∃ W:Nat->Nat->List V->St->Hp->Prop,(∃ m,W 0 m [] σ0 H0)/\∀ i m us σ' H',W i m us σ' H'->((Itz K a b).stop i H'/\Q (.ref l) H') \/
   ((Itz K a b).go i H'/\∀ x H'',(Itz K a b).yld i H' x H''->g x σ' H'' λσ2 H2=>tb us l σ2 H2 λus' σ3 H3=>∃ m',m' < m/\W (i+1) m' us' σ3 H3):=by
 refine ⟨λi m us σ H=>m=min xs.length ys.length - i/\i<=min xs.length ys.length/\Pv i us σ H,⟨_,rfl,aAF _,h0⟩,?_⟩;rintro i m us σ H ⟨rfl,hi,p⟩;obtain ⟨sa,sb⟩:=hla i us σ H p
 by_cases hlt:i < min xs.length ys.length
 ·obtain ⟨x,ex⟩:∃ x,xs[i]?=some x:=⟨_,aAp (by lia)⟩;obtain ⟨y,ey⟩:∃ y,ys[i]?=some y:=⟨_,aAp (by lia)⟩;refine .inr ⟨⟨xs,ys,x,y,sa,sb,ex,ey⟩,λv H' q=>?_⟩;obtain ⟨T,x',y',rfl,hT,rfl,q1,q2⟩:=q;have e1:=q1 xs sa;have e2:=q2 ys sb;exact hs i x' y' T us σ H _ e1 e2 hT p λus' σ' H' w=>⟨_,by lia,rfl,hlt,w⟩
 ·have e:i=min xs.length ys.length:=by lia
  subst e;exact .inl ⟨⟨xs,ys,sa,sb,rfl⟩,hd us σ H p⟩
def met:List Key->List Key
 | []=>[]
 | k :: r=>if r.any (λj=>decide (j=k)) then met r else k :: met r
theorem lC (k:Key):∀ l:List Key,(met l).any (λj=>decide (j=k))=l.any (λj=>decide (j=k))
 | []=>rfl
 | a :: r=>by
  unfold met
  split
  ·rename_i h
   rw [lC k r,aAV]
   by_cases e:a=k
   ·subst e;rw [h];simp
   ·simp [e]
  ·rw [aAV,aAV,lC k r]
theorem ur:∀ l:List Key,(met l).length<=l.length
 | []=>aAo _
 | a :: r=>by
  unfold met;have:=ur r
  split
  ·rw [aAs];lia
  ·rw [aAs,aAs];lia
theorem qL:∀ {l:List Key},l.Nodup->(met l).length=l.length
 | [],_=>rfl
 | a :: r,h=>by
  obtain ⟨h1,h2⟩:=aBb.mp h;unfold met;rw [if_neg,aAs,aAs,qL h2];intro z;obtain ⟨b,hb,e⟩:=List.any_eq_true.mp z;exact h1 (of_decide_eq_true e ▸ hb)
abbrev gh (ks:List Key) (i:Nat):List Key:=met (ks.take i).reverse
theorem kB {ks:List Key} {i:Nat} {k:Key} (h:ks[i]?=some k):gh ks (i+1)=if (gh ks i).any (λj=>decide (j=k)) then gh ks i else k :: gh ks i:=by
 have e:(ks.take (i+1)).reverse=k :: (ks.take i).reverse:=by rw [aAM,h];simp
 show met (ks.take (i+1)).reverse=_;rw [e];show (if (ks.take i).reverse.any (λj=>decide (j=k)) then met (ks.take i).reverse else k :: met (ks.take i).reverse)=_;rw [<- lC k (ks.take i).reverse]
theorem wG (ks:List Key) (i:Nat):(gh ks i).length<=i:=by
 have h:=ur (ks.take i).reverse;rw [List.length_reverse,aAQ] at h;show (met (ks.take i).reverse).length<=i;lia
section
variable {P:Program} {w:World} {A:Around} {R:Result->Shared->Prop} {it:Addr} {fp wr:List Addr} {G:Array GenState->Array GenState->Prop} {n:Nat} {Pt:Nat->Value->Prop} {St:Nat->Shared->Prop}
abbrev SetK (P:Program) (w:World) (h:Heap) (a:Addr) (l:List Key):Prop:=h.SetOf (ag P w) a (λk=>l.any λj=>decide (j=k)) l.length
theorem SetK.kept {h h':Heap} {a:Addr} {l:List Key} (x:SetK P w h a l) (k:∀ o,h.get? a=some o->h'.get? a=some o):SetK P w h' a l:=by
 obtain ⟨o,es,ep,tb,ho,rest⟩:=x;exact ⟨o,es,ep,tb,k o ho,rest⟩
theorem ut {h:Heap} {a:Addr} {S S':Key->Bool} {n n':Nat} (x:h.SetOf (ag P w) a S n) (e:∀ k,S k=S' k) (en:n=n'):h.SetOf (ag P w) a S' n':=by
 cases en
 cases (funext e:S=S')
 exact x
theorem uu (W:WalksS P w A.in1 it fp wr G n Pt St) (S:Addr) (hS0:S∉fp) (ks:List Key) (hks:ks.length=n) (hv:∀ i v,Pt i v->∃ k,ks[i]?=some k/\(ag P w).is k v=true/\v.scannable=true) (hn:n+1 < scanBound) :
  ∀ (d i:Nat) (s:Shared),n - i=d->i<=n->St i s->SetK P w s.heap S (gh ks i) ->
   (∀ s',Moved (S :: wr) G s s'->SetK P w s'.heap S (gh ks n)->R (.ok (.ret .none)) s')->codeAny (model P w) A (.builtin "set.update.loop" ⟨[.ref S,.ref it],[]⟩) R s:=by
 have nw:S∉wr:=λz=>hS0 (W.sub _ z);have up:∀ b∈wr,b∈S :: wr:=λb z=>aAj _ z;intro d
 induction d with
 | zero =>
  intro i s e1 e2 st hS hR;obtain rfl:i=n:=by lia
  refine codeAny_builtin PyProof.Rows.F.entry_set_update_loop (by
   rw [Around.under_plainId PyProof.Rows.F.plain_set_update_loop _];show wpAny _ A.in1 (pyNext (.ref it) >>= _) _ _ s;refine wpAny_bind (W.done s _ _ st λs' mv=>?_);exact wpAny_pure (hR s' (mv.mono up) (hS.kept λo q=>mv.heap S o nw q)))
 | succ d ih =>
  intro i s e1 e2 st hS hR;have lt:i < n:=by lia
  refine codeAny_builtin PyProof.Rows.F.entry_set_update_loop (by
   rw [Around.under_plainId PyProof.Rows.F.plain_set_update_loop _];show wpAny _ A.in1 (pyNext (.ref it) >>= _) _ _ s;refine wpAny_bind (W.item i s _ _ lt st λv s' pv st' mv=>?_);obtain ⟨k,ek,kv,sc⟩:=hv i v pv;have hS':=hS.kept (h':=s'.heap) λo q=>mv.heap S o nw q;show wpAny _ A.in1 (holding [v] (setAdd S v) >>= _) _ _ s';refine wpAny_bind (wpAny_holding (by
    unfold setAdd;refine wpAny_holding (wpAny_bind ((ag P w).pyHash kv ?_));have room:(gh ks i).length+1 < scanBound:=by have:=wG ks i;lia
    refine wpAny_setAddHashed_of (knd:=ag P w) (s:={ s' with toks:=s'.toks+1 }) kv sc hS' room λh2 sb hS2=>?_;have hS3:SetK P w h2 S (gh ks (i+1)):=by
     refine ut hS2 (λj=>?_) ?_
     ·rw [kB ek]
      split
      ·rename_i c
       by_cases z:j=k
       ·subst z;rw [c];simp
       ·simp [z]
      ·rw [aAV,Bool.or_comm]
       congr 1
       exact decide_eq_decide.mpr eq_comm
     ·rw [kB ek]
      split <;> rfl
    refine wpAny_pure ⟨plainId_quiet PyProof.Rows.F.plain_set_update_loop _,ih (i+1) _ (by lia) lt (W.frame _ s' _ _ st' (aBz _) λb hb o q=>?_) hS3 λs3 mv3 hS4=>?_⟩
    ·rw [sb.2 b (λz:b=S=>hS0 (by rw [<- z];exact hb))];exact q
    ·refine hR s3 (Moved.trans W.gtrans ((mv.mono up).then_heap (aBz _) λb o hb q=>?_) mv3) hS4;rw [sb.2 b (λz:b=S=>hb (by rw [z];exact aAh))];exact q)))
theorem jy:isSubtype (.type "tuple") (.type "set")=pure false:=cE _ _
theorem eB:isSubtype (.type "tuple") (.type "frozenset")=pure false:=cE _ _
end
section
variable {P:Program} {w:World} {A:Around} {E:Value->Shared->Prop} {s:Shared}
def c4 (b:Bool):Obj:={ cls:=.type "set",dict:=none,data:=.set #[] 0 (.fresh 0 0 b) }
set_option maxHeartbeats 3200000 in
theorem lD {t:Addr} {its:Array Value} {ks:List Key} {Q:Value->Shared->Prop} (hh:A.handled=none) (ht:s.heap.IsTuple t its) (hl:ks.length=its.size) (hv:∀ (i:Nat) v,its[i]?=some v->∃ k,ks[i]?=some k/\(ag P w).is k v=true/\v.scannable=true)
  (hn:its.size+1 < scanBound) (h:∀ (h':Heap) (tk:Nat),SetK P w h' s.heap.objs.size (gh ks its.size)->(∀ b o,s.heap.get? b=some o->h'.get? b=some o)->Q (.ref s.heap.objs.size) { s with heap:=h',toks:=tk }) :
  wpAny (model P w) A (call (.type "set") [.ref t]) Q E s:=by
 obtain ⟨c0,tl,hmro⟩:=PySem.F.called_set.mro;have k1:=PySem.F.called_set.made;have k2:=PySem.F.called_set.sub;refine wpAny_call (codeAny_of_tree (by
  show wpAny _ _ (callAny (.type "set") _) _ _ _;refine wpAny_pure ⟨Code.quiet_builtin _ (by decide +kernel),codeAny_builtin PySem.F.entry_type_call ?_⟩;rw [Around.under_plain (weight_type_call_type "set" [.ref t] []) rfl];have k3:=PySem.F.called_set.notType;have k4:=PySem.F.called_set.canCreate;have k5:=PySem.F.typeCall_set_1 (.ref t)
  repeat (any_goals (first | assumption | wp_step))
  refine codeAny_mono (code_set_new_1 (.ref t) (E:=E) (Q₁:=λob s1=>∃ b:Bool,ob=.ref s.heap.objs.size/\s1={ s with heap:=s.heap.push (c4 b) }) λb=>⟨b,rfl,rfl⟩) λr s1 hr=>?_
  cases r with
  | error e=>exact hr
  | ok fl =>
   cases fl with
   | ret ob =>
    obtain ⟨b,rfl,rfl⟩:=hr;have g1:(s.heap.push (c4 b)).get? s.heap.objs.size=some (c4 b):=aAf _ rfl;have tS:Shared.TypeIs { s with heap:=s.heap.push (c4 b) } (.ref s.heap.objs.size) "set" :=⟨_,g1,rfl⟩;have k6:=PySem.F.called_set.init.lookup;have k7:=PySem.F.called_set.init.bind (.ref s.heap.objs.size)
    repeat (any_goals (first | assumption | wp_step))
    refine codeAny_mono (codeAny_call_builtin (R:=wants (λr s2=>r=.none/\∃ h' tk,s2={ s with heap:=h',toks:=tk }/\SetK P w h' s.heap.objs.size (gh ks its.size)/\(∀ b o,s.heap.get? b=some o->h'.get? b=some o)) E)
     PySem.F.called_set.init.plain PySem.F.entry_set_init (check_set_init_1 tS ?_)) λr2 s2 hr2=>?_
    ·obtain ⟨⟨oc,od,oa,osl⟩,ho,hcl,nl,hdt⟩:=id ht;simp only at hcl hdt;subst hcl hdt;have ht1:(s.heap.push (c4 b)).IsTuple t its:=⟨_,aAa _ ho,rfl,nl,rfl⟩;have ho1:(s.heap.push (c4 b)).get? t=some { cls:=.type "tuple",dict:=od,data:=.seq its nl,slots:=osl }:=aAa _ ho;have k8:=jy;have k9:=eB;have ka:(Value.type "tuple" == Value.type "dict")=false:=by decide
     unfold Builtin.«set.__init__» noKeywords Builtin.Frozenset.updateFrom
     generalize hPI:pyIter=PI
     wp_walk
     subst hPI;refine wpAny_pyIter_tuple ht1 ?_;refine wpAny_bind (wpAny_runValue ?_);have lt:s.heap.objs.size > t:=aAd ho;have hh3:A.in1.in1.in1.handled=none:=by simp [hh]
     have sz:(s.heap.push (c4 b)).objs.size=s.heap.objs.size+1:=aAC ..;have ne1:t≠(s.heap.push (c4 b)).objs.size:=by rw [sz];exact aAl (aAZ lt)
     have nS:s.heap.objs.size∉[(s.heap.push (c4 b)).objs.size,t]:=by
      rw [sz];intro z;rcases aAb.mp z with z | z
      ·exact absurd z (aAl (aA2 _))
      ·exact absurd (aAv.mp z) (aAT lt)
     refine uu ((Walks.tuple hh3 _ t ne1 its).toS) s.heap.objs.size nS ks hl hv hn (its.size - 0) 0 _ rfl (aAF _) ⟨⟨_,aAf _ rfl,rfl,rfl⟩,ht1.push _⟩ ?_ ?_
     ·exact ⟨_,#[],0,_,aAa _ g1,⟨rfl,rfl,rfl⟩,rfl,(λe he=>by simp at he),(λk=>⟨λz=>Bool.noConfusion (show false=true from z),λ⟨e,he,_⟩=>(aAc he).elim⟩),by decide,rfl,rfl⟩
     ·intro s3 mv hS3;obtain ⟨h3,g3,d3,t3,o3⟩:=s3
      cases (mv.gens:g3=s.gens)
      cases (mv.drawn:d3=s.drawn)
      cases (mv.os:o3=s.os)
      refine wpAny_pure (wpAny_pure ⟨rfl,h3,t3,rfl,hS3,λc o q=>?_⟩);have lc:s.heap.objs.size > c:=aAd q;refine mv.heap c o ?_ (aAa _ (aAa _ q));intro z;rcases aAb.mp z with z | z
      ·exact absurd z (aAl lc)
      ·exact absurd ((aAv.mp z).trans sz) (aAl (aAZ lc))
    ·cases r2 with
     | error e=>exact hr2
     | ok fl2 =>
      cases fl2 with
      | ret r =>
       obtain ⟨rfl,h',tk,rfl,q1,q2⟩:=hr2
       repeat (any_goals (first | assumption | wp_step))
       exact h _ _ q1 q2
      | _=>exact hr2.elim
   | _=>exact hr.elim))
end
def Ba (P:Program) (w:World) (p:Addr) (n:Nat):HO:=.ext λh=>∃ l,SetK P w h p l/\l.length=n
section
variable {X:Cx}
theorem wH {k:Key} {u:Value} (r:RelV (kV k) u):u.scannable=true:=by
 cases k with
 | inl i=>obtain ⟨t,rfl⟩:=r;rfl
 | inr z=>obtain ⟨t,rfl⟩:=r;rfl
theorem sv (hc:X.calm=true):aN X (.type "set") (λxs H Q=>∃ a ks,xs=[.ref a]/\SqT X.K H a (ks.map kV)/\ks.length<=1000/\∀ p,H p=none->Q (.ref p) (upd H p (Ba X.prog X.w p (gh ks ks.length).length))):=by
 intro pins s σ H xs us Q I r h;obtain ⟨a,ks,rfl,ha,hl,q⟩:=h;obtain ⟨u,rfl,rx⟩:=cc r
 cases rx
 obtain ⟨its,rv,ht,hz⟩:=I.tuple ha;have el:=rv.length;rw [aAe] at el;have ez:its.toArray.size=ks.length:=by rw [aAm,el]
 refine lD (ks:=ks) (I.ok.hd hc) (show s.heap.IsTuple a its.toArray from ht) ez.symm (λi v e=>?_) (by rw [ez];unfold scanBound;lia) λh' tk hS kk=>?_
 ·have e':its[i]?=some v:=by simpa using e
  have hi:i < ks.length:=by rw [el];exact (aAg.mp e').1
  obtain ⟨v',ev,rk⟩:=rv.get (i:=i) (x:=kV ks[i]) (by rw [aAt,aAp hi];rfl);rw [e'] at ev
  cases ev
  exact ⟨ks[i],aAp hi,kz rk,wH rk⟩
 ·rw [ez] at hS;refine ⟨.ref s.heap.objs.size,_,I.laid (a:=s.heap.objs.size) (o:=Ba X.prog X.w s.heap.objs.size (gh ks ks.length).length) kk (aAo _) ?_,rfl,q _ (I.hok.fresh (aAo _))⟩;obtain ⟨o,_,_,_,ho,_⟩:=id hS;exact ⟨⟨_,hS,rfl⟩,⟨o,ho⟩,λh1 h2 ⟨l,hl,e⟩ k=>⟨l,hl.kept k,e⟩⟩
theorem sw:aN X (.builtin "len") (λxs H Q=>∃ p n,xs=[.ref p]/\H p=some (Ba X.prog X.w p n)/\Q (.int n) H):=by
 intro pins s σ H xs us Q I r h;obtain ⟨p,n,rfl,e,q⟩:=h;obtain ⟨u,rfl,rx⟩:=cc r
 cases rx
 obtain ⟨⟨l,hS,en⟩,_,_⟩:=I.hok p _ e;obtain ⟨o,es,ep,tb,ho,hex,hd,_,_,hb,hf,hn⟩:=hS;have e2:es.size=n:=hn.trans en;have hb':es.size < 4096:=hb;exact call_len_set ho hex hd hf (by lia) ⟨.int n,H,I.tok _,⟨_,by rw [e2]⟩,q⟩
end
section
variable {K:W.Frag} {a b l:Addr} {xs ys:List V} {g:TG} {tb:List V->Addr->St->Hp->(List V->St->Hp->Prop)->Prop} {R:Hp->Prop} {σ0:St} {H0:Hp}
theorem cP (Pv:Nat->List V->St->Hp->Prop) (h0:Pv 0 [] σ0 H0) (hl:∀ i ys σ H,i<=xs.length->Pv i ys σ H->SqT K H a xs)
  (hs:∀ i x ys σ H (N:List V->St->Hp->Prop),xs[i]?=some x->Pv i ys σ H->(∀ ys' σ' H',Pv (i+1) ys' σ' H'->N ys' σ' H')->g x σ H λσ2 H2=>tb ys l σ2 H2 N)
  (hd:∀ ys σ H,Pv xs.length ys σ H->R H) :
  ∃ W:Nat->Nat->List V->St->Hp->Prop,(∃ m,W 0 m [] σ0 H0)/\∀ i m ys σ' H',W i m ys σ' H'->((Itt K a).stop i H'/\R H') \/
   ((Itt K a).go i H'/\∀ x H'',(Itt K a).yld i H' x H''->g x σ' H'' λσ2 H2=>tb ys l σ2 H2 λys' σ3 H3=>∃ m',m' < m/\W (i+1) m' ys' σ3 H3):=tY (Q:=λ_ H=>R H) Pv h0 hl hs hd
theorem cf (Pv:Nat->List V->St->Hp->Prop) (h0:Pv 0 [] σ0 H0) (hl:∀ i ys σ H,i<=xs.length->Pv i ys σ H->SqL K H a xs)
  (hs:∀ i x ys σ H (N:List V->St->Hp->Prop),xs[i]?=some x->Pv i ys σ H->(∀ ys' σ' H',Pv (i+1) ys' σ' H'->N ys' σ' H')->g x σ H λσ2 H2=>tb ys l σ2 H2 N)
  (hd:∀ ys σ H,Pv xs.length ys σ H->R H) :
  ∃ W:Nat->Nat->List V->St->Hp->Prop,(∃ m,W 0 m [] σ0 H0)/\∀ i m ys σ' H',W i m ys σ' H'->((Itl K a).stop i H'/\R H') \/
   ((Itl K a).go i H'/\∀ x H'',(Itl K a).yld i H' x H''->g x σ' H'' λσ2 H2=>tb ys l σ2 H2 λys' σ3 H3=>∃ m',m' < m/\W (i+1) m' ys' σ3 H3):=rV (Q:=λ_ H=>R H) Pv h0 hl hs hd
theorem sx (Pv:Nat->List V->St->Hp->Prop) (h0:Pv 0 [] σ0 H0) (hla:∀ i us σ H,Pv i us σ H->SqL K H a xs/\SqL K H b ys)
  (hs:∀ i x y T us σ H (N:List V->St->Hp->Prop),xs[i]?=some x->ys[i]?=some y->H T=none->Pv i us σ H->(∀ us' σ' H',Pv (i+1) us' σ' H'->N us' σ' H')->g (.ref T) σ (upd H T (.tup [x,y])) λσ2 H2=>tb us l σ2 H2 N)
  (hd:∀ us σ H,Pv (min xs.length ys.length) us σ H->R H) :
  ∃ W:Nat->Nat->List V->St->Hp->Prop,(∃ m,W 0 m [] σ0 H0)/\∀ i m us σ' H',W i m us σ' H'->((Itz K a b).stop i H'/\R H') \/
   ((Itz K a b).go i H'/\∀ x H'',(Itz K a b).yld i H' x H''->g x σ' H'' λσ2 H2=>tb us l σ2 H2 λus' σ3 H3=>∃ m',m' < m/\W (i+1) m' us' σ3 H3):=uq (Q:=λ_ H=>R H) Pv h0 hla hs hd
end
theorem im {X:Cx} {K:W.Frag} {es:List Expr} {k:Nat} {pos:Pos} {t:TGs} {n:Nat} (hK:X.K=K) (hc:X.calm=true) (h:PGs X es t)
  (hn:(assignEach es X.env).length=n:=by rfl) (hst:(assignEach es X.env).findIdx? (·.1)=none:=by rfl):PG X (.Tuple es k pos) (GV K n t):=by
 subst hK;exact fX hc h hn hst
theorem aS {H H1:Hp} {l:Addr} {o:HO} (hl:H l=none) (g:Same H H1):Same H (upd H1 l o):=λb u e=>by rw [ah (aw e hl)];exact g b u e
section
variable {X:Cx}
theorem uv {elt tgt iter:Expr} {ifs:List Expr} {scope:Scope} {pos spos py:Pos} {NL N':List Str} {ρ:List Nat} {wi:TI} {g:TG} {tb:List V->Addr->St->Hp->(List V->St->Hp->Prop)->Prop} {body:Value->Env->Sem Unit} {j:Nat} {y:Str}
  (hN:X.N.Nodup) (hj:X.N[j]?=some y) (hy:Loc X.env.scope y) (hfn:X.fn y=true\/X.env.scope.names.lookup y=some .local)
  (hsw:swapsWith (.ListComp elt [⟨tgt,iter,ifs,0⟩] scope pos) (some (.Name y py)) spos.line X.env=pure true)
  (hc:X.calm=true) (S:CScope X scope NL ρ N') (hi:PI X tgt iter wi)
  (hg:∀ C s₀ H₀ fp,PG (ccx X scope C N' s₀ H₀ fp) tgt g) (hb:∀ C s₀ H₀ fp,PB (ccx X scope C N' s₀ H₀ fp) (λacc=>body acc (ccx X scope C N' s₀ H₀ fp).env) tb)
  (he:∀ (it acc:Value) (env:Env),compTurn (.ListComp elt [⟨tgt,iter,ifs,0⟩] scope pos) 0 it acc env=(standAt iter.pos >>= λ_=>pyNext it >>= λr=>match r with
   | none=>pure (.done .next)
   | some v=>letOwnedTupleGo tgt it v >>= λ_=>assign tgt env v >>= λ_=>body acc env >>= λ_=>again (.compLoop (.ListComp elt [⟨tgt,iter,ifs,0⟩] scope pos) 0 it acc env)))
  (hs:∀ x,foldedSetIterable iter X.env x=pure x:=by intro _;rfl):PS X (.Assign [.Name y py] (.ListComp elt [⟨tgt,iter,ifs,0⟩] scope pos) spos) (ph (mQ NL.length ρ wi g tb) (fh j)):=by
 intro pins s σ H D0 I h;have free_in:∀ x∈scope.names,x.2=.free->∃ c,X.env.cells.lookup x.1=some c:=λx hx hk=>I.ok.has x.1 (S.frees x hx hk);rw [exec_Assign_Name_used _ _ _ _ hsw];refine wpAny_bind (wpAny_standAt (wpAny_bind ?_));rw [arm_evalThenUse_ListComp];refine wpAny_bind (thn (Q:=λ_ s'=>SP X pins D0 .next s') ?_ λ_ s' q0=>wpAny_pure (wpAny_pure q0));refine wpAny_comprehension_free (use:=some (assign (.Name y py) X.env)) (Q:=λ_ s'=>SP X pins D0 .next s') rfl hs (iE free_in) S.kind S.locs ?_;refine thn (hi pins s σ H _ I h) λv s1 h1=>thn h1 λitv s2 h2=>?_;obtain ⟨it,fp,tn,J,H2,e,I2,T,st2,f2,w⟩:=h2;subst e;refine wpAny_newObj_type (wpAny_newFunctionEnv S.nocell (by intro y hy;simp at hy) (λh₁ hns₁ hsb₁=>?_) S.kind);dsimp only at hns₁ hsb₁ ⊢
 generalize hH2:s2.heap.push { cls:=.type "list",dict:=none,data:=.seq ([]:List Value).toArray }=h2' at hns₁ hsb₁ ⊢
 have hCs:h2'.objs.size=s2.heap.objs.size+1:=by rw [<- hH2,aAC]
 have hDC:s2.heap.objs.size≠h2'.objs.size:=by rw [hCs];exact aAl (aA2 _)
 have hC:s2.heap.objs.size<=h2'.objs.size:=by rw [hCs];exact aBz _
 have old:∀ b o,s2.heap.get? b=some o->h₁.get? b=some o:=λb o e=>hsb₁.extBut b o (aAl (aAi (aAd e) hC)) (aAa _ (hH2 ▸ aAa _ e));have hd:h₁.get? s2.heap.objs.size=some { cls:=.type "list",data:=.seq #[] 0 }:=hsb₁.extBut _ _ hDC (aAa _ (hH2 ▸ aAf _ rfl));have hfo:∀ b∈fp,∃ o,s2.heap.get? b=some o:=λb hb=>let ⟨o,e,_⟩:=T.obj _ _ st2 b hb;⟨o,e⟩;have I4:Inv (ccx X scope h2'.objs.size N' s2 H2 fp) (X.pn++pins) (cst NL.length ρ σ) (upd H2 s2.heap.objs.size (.lst [])) { s2 with heap:=h₁,toks:=s2.toks+([]:List (Str×Value)).length } :=
  Inv.comp S I2 f2 hfo hC (aAo _) hDC old hd (by simpa using hns₁)
 have hD0:H2 s2.heap.objs.size=none:=I2.hok.fresh (aAo _);have nfp:s2.heap.objs.size∉fp:=λz=>by
  obtain ⟨o,e⟩:=hfo _ z;exact absurd (aAd e) (aAE _)
 obtain ⟨W,⟨m0,w0⟩,turn⟩:=w s2.heap.objs.size hD0;have stat:∀ {H':Hp},(∀ b∈fp,H' b=none)->∀ b∈fp,dD (ccx X scope h2'.objs.size N' s2 H2 fp) (X.pn++pins) H' b:=λ{H'} hn b hb=>by
  obtain ⟨f0,f1,f2',f3,f4,f5⟩:=f2 b hb;have ok:=I4.ok;refine ⟨hn b hb,(ok.exf b hb).1,ok.exfs b hb,.inl hb,(ok.exf b hb).2,λp hp=>f5 p hp⟩
 have loop:∀ s₃:Shared,s₃={ s2 with heap:=h₁,toks:=s2.toks+([]:List (Str×Value)).length } ->
   codeAny (model X.prog X.w) X.A (.compLoop (.ListComp elt [⟨tgt,iter,ifs,0⟩] scope pos) 0 (.ref it) (.ref s2.heap.objs.size) (compEnvC scope (cz X.env scope.names []) h2'.objs.size X.env))
    (compPost (model X.prog X.w) X.A X.xe (some (assign (.Name y py) X.env)) (λ_ s'=>SP X pins D0 .next s') (.ref s2.heap.objs.size) h2'.objs.size) s₃:=by
  rintro s₃ rfl;refine codeAny_loop rfl (λn s'=>∃ i ys σ' H',Inv (ccx X scope h2'.objs.size N' s2 H2 fp) (X.pn++pins) σ' H' s'/\tn i s'.heap/\(∀ b∈fp,H' b=none)/\W i n ys σ' H') (λn s3 hI=>?_) m0
   ⟨0,[],_,_,I4,T.keep _ _ _ st2 (λb _ o e=>old b o e),λb hb=>?_,w0⟩
  ·obtain ⟨i,ys,σ3,H3,I3,st3,fr3,w3⟩:=hI;show wpAny _ _ ((compTurn (.ListComp elt [⟨tgt,iter,ifs,0⟩] scope pos) 0 (.ref it) (.ref s2.heap.objs.size) (compEnvC scope (cz X.env scope.names []) h2'.objs.size X.env)).onRaise (λx=>do noteFrame x _;theTreesLotGoes x)) _ _ s3;refine wpAny_noted ?_;rw [he];refine wpAny_bind (wpAny_standAt (wpAny_bind ?_));rcases turn i n ys σ3 H3 w3 with ⟨stop,qn⟩ | ⟨go,step⟩
   ·refine thn (T.done (ccx X scope h2'.objs.size N' s2 H2 fp) rfl rfl rfl hc i _ s3 σ3 H3 _ I3 (stat fr3) st3 stop) λr s4 ⟨hr,I5⟩=>?_;subst hr;refine wpAny_pure ?_;obtain ⟨m,hm,_⟩:=id I5.loc;have IX:Inv X pins σ H3 { s4 with heap:=s4.heap }:=Inv.compEnd I2 f2 hC I5 (Heap.SameBut.refl _ _);have cne:∀ x c,X.env.cells.lookup x=some c->c≠h2'.objs.size:=λx c ec z=>by
     obtain ⟨v0,oc,hoc,_⟩:=I2.cell x c ec;exact absurd (aAi (aAd hoc) hC) (by rw [z];exact aAE _)
    have lne:h2'.objs.size≠X.env.locals:=aAT (aAi I2.lt hC);refine wpAny_assign_Name (kc IX hN hj hy (v:=.ref s2.heap.objs.size) rfl (λs5 I6 ⟨a,sb,ha⟩=>?_) hfn);have na:h2'.objs.size≠a:=λz=>by
     rcases ha with e | e
     ·exact lne (z.trans e)
     ·exact cne _ _ e z.symm
    refine ⟨m,hm.at' λo e=>(sb.2 _ na).trans e,λh' hs'=>⟨_,H3,?_,qn⟩⟩;exact I6.turned (t':=s5.toks) (λb o hb' e=>(hs'.2 b hb').trans e) I5.free lne (.inr (aAx I2.sz hC)) cne λq hq z=>by
     obtain ⟨e,_⟩:=I2.pin q hq;exact absurd (aAi (aAd e) hC) (by rw [z];exact aAE _)
   ·refine thn (T.item (ccx X scope h2'.objs.size N' s2 H2 fp) rfl rfl rfl hc i _ s3 σ3 H3 _ I3 (stat fr3) st3 go) λr s4 ⟨u,hr,h4⟩=>?_;subst hr;refine wpAny_bind (thn h4 λ_ s5 ⟨x,H5,I5,r5,y5,st5,fr5⟩=>?_);have I5':=I5.pinned (stat fr5) (T.obj _ _ st5);refine wpAny_bind (wpAny_mono (hg h2'.objs.size s2 H2 fp _ s5 σ3 H5 x u _ I5' r5 (step x H5 y5)) (λ_ s6 ⟨σ6,H6,I6,q6⟩=>?_) λ_ _ z=>z.elim);refine wpAny_bind (wpAny_mono (hb h2'.objs.size s2 H2 fp _ s6 σ6 H6 s2.heap.objs.size ys _ I6 q6) (λ_ s7 ⟨ys7,σ7,H7,I7,m',hm,w7⟩=>?_) λ_ _ z=>z.elim);refine wpAny_pure ⟨rfl,m',hm,i+1,ys7,σ7,H7,I7.unpinned,T.keep _ _ _ st5 λb hb o e=>(I7.pin (b,o) (aAA _ (aAA _ (bJ hb e)))).1,λb hb=>?_,w7⟩;obtain ⟨o,e,d⟩:=T.obj _ _ st5 b hb;exact (I7.pin (b,o) (aAA _ (aAA _ (bJ hb e)))).2.1
  ·rw [ah (show b≠s2.heap.objs.size from λz=>nfp (by rw [<- z];exact hb))];exact (f2 b hb).1
 refine codeAny_compStart_list (loop _ rfl) (T.self _ 0 _ _ _ ?_ (loop _ rfl));exact T.keep _ _ _ st2 λb _ o e=>old b o e
theorem ps_setC {elt tgt iter:Expr} {scope:Scope} {pos spos py:Pos} {NL N':List Str} {ρ:List Nat} {wi:TI} {g:TG} {te:TE} {j:Nat} {y:Str} (hN:X.N.Nodup) (hj:X.N[j]?=some y) (hy:Loc X.env.scope y)
  (hc:X.calm=true) (S:CScope X scope NL ρ N') (hi:PI X tgt iter wi) (hg:∀ C s₀ H₀ fp,PG (ccx X scope C N' s₀ H₀ fp) tgt g) (he:∀ C s₀ H₀ fp,PE (ccx X scope C N' s₀ H₀ fp) elt te)
  (hsw:swapsWith (.ListComp elt [⟨tgt,iter,[],0⟩] scope pos) (some (.Name y py)) spos.line X.env=pure true:=by rfl) (hfn:X.fn y=true\/X.env.scope.names.lookup y=some .local:=by first | exact .inl rfl | exact .inr rfl | assumption)
  (hs:∀ x,foldedSetIterable iter X.env x=pure x:=by intro _;rfl):PS X (.Assign [.Name y py] (.ListComp elt [⟨tgt,iter,[],0⟩] scope pos) spos) (ph (mQ NL.length ρ wi g (cEl te)) (fh j)) :=
 uv (body:=λacc env=>do let x <- eval elt env;let _ <- call (.builtin "list.append") [acc,x];pure ()) hN hj hy hfn hsw hc S hi hg (λC s₀ H₀ fp=>tR (he C s₀ H₀ fp)) (λit acc env=>mR elt tgt iter scope pos it acc env) hs
end
section
variable {X:Cx}
variable {K:W.Frag}
theorem pe_tupPK {es:List Expr} {x1:Nat} {pos:Pos} {t:TA} (hK:X.K=K) (h:PA X es t):PE X (.Tuple es x1 pos) (kA K t):=by subst hK;exact wy h
theorem aW (hK:X.K=K):IxR X (G9 K):=by subst hK;exact wc
theorem io (hK:X.K=K) (hu:X.A.units+64 < cLine):OpR X (compareOp .Eq) (Hg K):=by subst hK;exact A7 hu
theorem op_in_seqK (hK:X.K=K):OpR X (compareOp .In) (rIn K false):=by subst hK;exact rL
theorem jz (hK:X.K=K):OpR X (compareOp .NotIn) (rIn K true):=by subst hK;exact op_notIn_seq
end
section
variable {X:Cx}
end
section
variable {X:Cx}
theorem gi:∀ {ss:List Str} {us:List Value},StrsAre us ss->Vals (ss.map V.str) us
 | _,_,.nil=>.nil
 | _,_,.cons z t r=>.cons ⟨t,rfl⟩ (gi r)
end
abbrev two (v:Value) (c:Nat):Obj:={ cls:=.type "list",dict:=none,data:=.seq #[v,v] c,slots:=#[] }
section
variable {prog:Program} {w:World} {A:Around} {R:Result->Shared->Prop} {it:Addr} {fp wr:List Addr} {n:Nat} {P:Nat->Value->Prop} {St:Nat->Heap->Prop}
end
section
variable {prog:Program} {w:World} {A:Around} {E:Value->Shared->Prop} {s:Shared} {l:Addr} {zs:Array (Int×Tok)} {d:Value} {Q:Value->Shared->Prop}
end
section
variable {X:Cx}
end
section
variable {X:Cx} {K:W.Frag}
end
section
variable {l:Addr} {g:TG} {tb:List V->Addr->St->Hp->(List V->St->Hp->Prop)->Prop} {R:Hp->Prop} {σ0:St} {H0:Hp} {lo:Int} {n:Nat} {z:Str}
theorem sy (Pv:Nat->List V->St->Hp->Prop) (h0:Pv 0 [] σ0 H0) (hs:∀ i c ys σ H (N:List V->St->Hp->Prop),z.cps[i]?=some c->Pv i ys σ H->(∀ ys' σ' H',Pv (i+1) ys' σ' H'->N ys' σ' H')->g (.str ⟨#[c]⟩) σ H λσ2 H2=>tb ys l σ2 H2 N) (hd:∀ ys σ H,Pv z.cps.size ys σ H->R H) :
  ∃ W:Nat->Nat->List V->St->Hp->Prop,(∃ m,W 0 m [] σ0 H0)/\∀ i m ys σ' H',W i m ys σ' H'->((Its z).stop i H'/\R H')\/((Its z).go i H'/\∀ x H'',(Its z).yld i H' x H''->g x σ' H'' λσ2 H2=>tb ys l σ2 H2 λys' σ3 H3=>∃ m',m' < m/\W (i+1) m' ys' σ3 H3):=m8 (Q:=λ_ H=>R H) Pv h0 hs hd
end
section
variable {X:Cx} {K:W.Frag}
inductive JIxP (K:W.Frag) (x y:V) (H:Hp) (Q:VK):Prop
 | mk (l:List Dt) (i:Int) (d:Dt):(IsP K H (.tup l) x)->(y=.int i)->(atI l i=some d)->(∀ v,IsP K H d v->Q v H)->JIxP K x y H Q
def Hs (K:W.Frag):R2:=λx y H Q=>JIxP K x y H Q
inductive JLenD (K:W.Frag) (xs:List V) (H:Hp) (Q:VK):Prop
 | mk (x:V) (l:List Dt):(xs=[x])->(IsD K H (.tup l) x)->(Q (.int l.length) H)->JLenD K xs H Q
def Ht (K:W.Frag):List V->Hp->VK->Prop:=λxs H Q=>JLenD K xs H Q
inductive JIsi (K:W.Frag) (xs:List V) (H:Hp) (Q:VK):Prop
 | mk (x:V) (T:String) (b:Bool):(xs=[x,.ty T])->(IsiB K H x T b)->(Q (.bl b) H)->JIsi K xs H Q
def IC (K:W.Frag):List V->Hp->VK->Prop:=λxs H Q=>JIsi K xs H Q
inductive JTupP (K:W.Frag) (xs:List V) (H:Hp) (Q:VK):Prop
 | mk (p:Addr) (ys:List V) (l:List Dt):(xs=[.ref p])->(SqL K H p ys)->(IsPs K H l ys)->(∀ v H',Same H H'->IsP K H' (.tup l) v->Q v H')->JTupP K xs H Q
def Hu (K:W.Frag):List V->Hp->VK->Prop:=λxs H Q=>JTupP K xs H Q
theorem iL (hK:X.K=K):IxR X (Hs K):=by
 subst hK;intro e1 e2 pins s σ H x y v u Q I rx ry h hs;obtain ⟨l,i,d,a,b,c,q⟩:=h;exact wA _ _ _ _ _ _ _ _ _ _ _ I rx ry ⟨l,i,d,a,b,c,q⟩ hs
theorem call_lenDN (hK:X.K=K):aN X (.builtin "len") (Ht K):=by
 subst hK;intro pins s σ H xs us Q I r h;obtain ⟨x,l,a,b,q⟩:=h;exact sh _ _ _ _ _ _ _ I r ⟨x,l,a,b,q⟩
theorem ay (hK:X.K=K):aN X (.builtin "isinstance") (IC K):=by
 subst hK;intro pins s σ H xs us Q I r h;obtain ⟨x,l,m,a,b,q⟩:=h;exact tU _ _ _ _ _ _ _ I r ⟨x,l,m,a,b,q⟩
theorem bY (hK:X.K=K):aN X (.type "tuple") (Hu K):=by
 subst hK;intro pins s σ H xs us Q I r h;obtain ⟨x,l,m,a,b,c,q⟩:=h;exact nr _ _ _ _ _ _ _ I r ⟨x,l,m,a,b,c,q⟩
theorem bM {tg l:Expr} {tl:TE} (hK:X.K=K) (hl:PE X l tl):PI X tg l (GW K tl):=by subst hK;exact AW hl
theorem cg {tg l:Expr} {tl:TE} (hK:X.K=K) (hl:PE X l tl):PI X tg l (xI K tl):=by subst hK;exact vY hl
end
section
variable {prog:Program} {w:World} {A:Around} {E:Value->Shared->Prop} {s:Shared}
theorem c5 {b t:Addr} {k:Nat} {its:Array Value} {v:Value} {Q:Value->Shared->Prop} (hb:IsTupIter s.heap b t k) (ht:IsTup s.heap t its) (hv:its[k]?=some v)
  (q:∀ h',IsTupIter h' b t (k+1)->Heap.SameBut b s.heap h'->Q v { s with heap:=h' }):wpAny (model prog w) A (Builtin.SmallTypes.nextOf (.ref b)) Q E s:=by
 obtain ⟨ob,gb,cb,db⟩:=id hb;obtain ⟨ot,gt,_,nt,dt⟩:=ht;unfold Builtin.SmallTypes.nextOf;refine wpAny_bind (wpAny_callSpecial?_slot (name:=Str.ofString "__next__") hb.typeIs slot_tupleiter_next (wpAny_call_entry slot_tupleiter_next hb.typeIs entry_tupleiter_next ?_ (args_tupleiter_next _)));refine show wpAny _ _ (field (.ref b) 0 >>= _) _ _ s from wpAny_bind (wpAny_field gb db (x:=.ref t) rfl ?_);refine show wpAny _ _ (if (Value.ref t == Value.none)=true then _ else _) _ _ s from ?_;rw [if_neg (by exact aAq)];refine show wpAny _ _ (field (.ref b) 1 >>= _) _ _ s from wpAny_bind (wpAny_field gb db (x:=.int k 0) rfl ?_);refine show wpAny _ _ (seqItems? (.ref t) >>= _) _ _ s from wpAny_bind (wpAny_seqItems gt dt ?_);simp only [hv,aBC];refine wpAny_bind (wpAny_setField gb db (by simp) (wpAny_pure ⟨v,rfl,wpAny_pure (q _ ⟨_,aAJ _ gb (Obj.isFreed_of_fields (Obj.data_mapFields db _)),(Obj.cls_mapFields ..).trans cb,?_⟩ (Heap.SameBut.update ..))⟩));rw [Obj.data_mapFields db];simp [rawInt]
theorem gj {b t:Addr} {k:Nat} {its:Array Value} {Q:Value->Shared->Prop} (hh:A.handled=none) (hb:IsTupIter s.heap b t k) (ht:IsTup s.heap t its) (hv:its[k]?=none)
  (q:∀ h' e,Heap.ExtBut b s.heap h'->(∃ o,h'.get? e=some o/\o.cls=.type "StopIteration")->E (.ref e) { s with heap:=h' }):wpAny (model prog w) A (Builtin.SmallTypes.nextOf (.ref b)) Q E s:=by
 obtain ⟨ob,gb,cb,db⟩:=id hb;obtain ⟨ot,gt,_,nt,dt⟩:=ht;unfold Builtin.SmallTypes.nextOf;refine wpAny_bind (wpAny_callSpecial?_slot (name:=Str.ofString "__next__") hb.typeIs slot_tupleiter_next (wpAny_call_entry slot_tupleiter_next hb.typeIs entry_tupleiter_next ?_ (args_tupleiter_next _)));refine show wpAny _ _ (field (.ref b) 0 >>= _) _ _ s from wpAny_bind (wpAny_field gb db (x:=.ref t) rfl ?_);refine show wpAny _ _ (if (Value.ref t == Value.none)=true then _ else _) _ _ s from ?_;rw [if_neg (by exact aAq)];refine show wpAny _ _ (field (.ref b) 1 >>= _) _ _ s from wpAny_bind (wpAny_field gb db (x:=.int k 0) rfl ?_);refine show wpAny _ _ (seqItems? (.ref t) >>= _) _ _ s from wpAny_bind (wpAny_seqItems gt dt ?_);simp only [hv,aBC];refine wpAny_bind (wpAny_rule (wpAny_bind (wpAny_setField gb db (by simp) ?_)));refine show wpAny _ _ (newExc (.type "StopIteration") [] >>= _) _ _ _ from wpAny_bind ?_;simp only [newTuple,newExc];refine wpAny_bind (wpAny_newObj_type (wpAny_bind (m:=firstArgMember _ _) (wpAny_of_eq (a:=Value.none) (by first | rfl | (simp only [firstArgMember];rfl)) (wpAny_newObj_type ?_ (by size_fits)))) (by size_fits));simp only [raiseNew];refine wpAny_bind (wpAny_handled ?_);rw [show A.in1.handled=none from hh];exact wpAny_bind (wpAny_pure (wpAny_throw (q _ _ (((Heap.SameBut.update ..).extBut.push _).push _) ⟨_,aAf _ rfl,rfl⟩)))
theorem sA {z P0 P1 u v l m:Addr} {k:Nat} {xs ys:Array Value} {x y a b:Value} {Q:Option Value->Shared->Prop} (D:ZipApart z P0 P1 u v l m) (Z:IsZip s.heap z P0 P1 .none) (I0:IsPair s.heap P0 (.ref u) (.ref v)) (I1:IsPair s.heap P1 a b)
  (wu:IsTupIter s.heap u l k) (wv:IsTupIter s.heap v m k) (tl:IsTup s.heap l xs) (tm:IsTup s.heap m ys) (ex:xs[k]?=some x) (ey:ys[k]?=some y)
  (q:∀ h',IsZip h' z P0 P1 (rawInt s.heap.objs.size)->IsPair h' P1 x y->IsTupIter h' u l (k+1)->IsTupIter h' v m (k+1)->IsPair h' s.heap.objs.size x y->h'.objs.size=s.heap.objs.size+1 ->
   (∀ c o,c≠z->c≠P1->c≠u->c≠v->s.heap.get? c=some o->h'.get? c=some o)->Q (some (.ref s.heap.objs.size)) { s with heap:=h' }):wpAny (model prog w) A (pyNext (.ref z)) Q E s:=by
 have hT:s.TypeIs (.ref z) "zip" :=⟨_,Z,rfl⟩;unfold pyNext;refine wpAny_bind (wpAny_attempt (wpAny_callSpecial?_slot (name:=Str.ofString "__next__") hT F.slot_zip_next (wpAny_call_entry F.slot_zip_next hT F.entry_zip_next ?_ (F.args_zip_next_1 _))));refine show wpAny _ _ (field (.ref z) 2 >>= _) _ _ _ from wpAny_bind (wpAny_field Z rfl (x:=.bool false) rfl ?_);refine show wpAny _ _ (field (.ref z) 3 >>= _) _ _ _ from wpAny_bind (wpAny_field Z rfl (x:=.ref P0) rfl (wpAny_bind (wpAny_seqItems I0 rfl ?_)));refine show wpAny _ _ (Builtin.SmallTypes.ownedTupleIsFree (.ref z) >>= _) _ _ _ from wpAny_bind ?_;unfold Builtin.SmallTypes.ownedTupleIsFree;refine wpAny_bind (wpAny_field Z rfl (x:=.none) rfl (wpAny_pure ?_));rw [if_pos rfl];refine wpAny_bind (wpAny_rule (wpAny_bind (wpAny_field Z rfl (x:=.ref P1) rfl (wpAny_bind (wpAny_setField_rec Z (by simp) λha Za sa=>?_)))));replace Za:IsZip ha z P0 P1 .ellipsis:=Za;refine wpAny_bind ?_;simp only [aBp,aAP,aBw,aA3];refine wpAny_bind (wpAny_bind (wpAny_onRaise ?_));refine show wpAny _ _ (Builtin.SmallTypes.nextOf (.ref u) >>= _) _ _ _ from wpAny_bind (c5 (wu.extBut sa.extBut D.i1z) (tl.extBut sa.extBut D.l1z) ex λhb wb sb=>wpAny_pure ?_);have Ib:IsPair hb P1 a b:=sb.extBut _ _ D.TOi1 (sa.extBut _ _ D.TOz I1);refine wpAny_bind (wpAny_seqItems Ib rfl (wpAny_bind (wpAny_updateSeq_pair Ib λhc Ic sc=>wpAny_bind (wpAny_letGo (wpAny_pure ?_)))));replace Ic:IsPair hc P1 x b:=Ic;refine wpAny_bind (wpAny_bind (wpAny_onRaise ?_));refine show wpAny _ _ (Builtin.SmallTypes.nextOf (.ref v) >>= _) _ _ _ from wpAny_bind (c5 (((wv.extBut sa.extBut D.i2z).extBut sb.extBut D.i12.symm).extBut sc.extBut D.TOi2.symm) (((tm.extBut sa.extBut D.l2z).extBut sb.extBut D.l2i1).extBut sc.extBut D.l2TO) ey λhd wd sd=>wpAny_pure ?_);have Id:IsPair hd P1 x b:=sd.extBut _ _ D.TOi2 Ic;refine wpAny_bind (wpAny_seqItems Id rfl (wpAny_bind (wpAny_updateSeq_pair Id λhe Ie se=>wpAny_bind (wpAny_letGo (wpAny_pure (wpAny_pure ?_))))));replace Ie:IsPair he P1 x y:=Ie;refine wpAny_bind (wpAny_seqItems Ie rfl (wpAny_bind (wpAny_newTuple ?_)));have size:he.objs.size=s.heap.objs.size:=by rw [se.1,sd.1,sc.1,sb.1,sa.1]
 have Ze:IsZip he z P0 P1 .ellipsis:=se.extBut _ _ D.TOz.symm (sd.extBut _ _ D.i2z.symm (sc.extBut _ _ D.TOz.symm (sb.extBut _ _ D.i1z.symm Za)));have keep:∀ c o,c≠z->c≠P1->c≠u->c≠v->s.heap.get? c=some o->he.get? c=some o:=λc o n1 n2 n3 n4 e=>se.extBut _ _ n2 (sd.extBut _ _ n4 (sc.extBut _ _ n2 (sb.extBut _ _ n3 (sa.extBut _ _ n1 e))));have we:IsTupIter he u l (k+1):=((wb.extBut sc.extBut D.TOi1.symm).extBut sd.extBut D.i12).extBut se.extBut D.TOi1.symm;have we':IsTupIter he v m (k+1):=wd.extBut se.extBut D.TOi2.symm;have ltz:z < he.objs.size:=aAd Ze;refine show wpAny _ _ (Builtin.SmallTypes.ownedTupleHandOut (.ref z) (.ref he.objs.size) >>= _) _ _ _ from wpAny_bind ?_;unfold Builtin.SmallTypes.ownedTupleHandOut;have Zf:IsZip (he.push { cls:=.type "tuple",data:=.seq #[x,y] }) z P0 P1 .ellipsis:=aAa _ Ze;refine wpAny_bind (wpAny_setField_rec Zf (by simp) λhg Zg sg=>?_);replace Zg:IsZip hg z P0 P1 (rawInt he.objs.size):=Zg;refine wpAny_setField_rec Zg (by simp) λhi Zi si=>?_;replace Zi:IsZip hi z P0 P1 (rawInt he.objs.size):=Zi;have up:∀ c o,c≠z->he.get? c=some o->hi.get? c=some o:=λc o n e=>si.extBut _ _ n (sg.extBut _ _ n (aAa _ e));have Ti:IsPair hi he.objs.size x y:=si.extBut _ _ (aAT ltz) (sg.extBut _ _ (aAT ltz) (aAf _ rfl));have size':hi.objs.size=he.objs.size+1:=by rw [si.1,sg.1,aAC]
 refine wpAny_pure ⟨_,rfl,wpAny_pure ?_⟩;rw [size] at Zi Ti size';have go:=q hi Zi (up _ _ D.TOz Ie) (by obtain ⟨o,e,r⟩:=we;exact ⟨o,up _ o D.i1z e,r⟩) (by obtain ⟨o,e,r⟩:=we';exact ⟨o,up _ o D.i2z e,r⟩) Ti size' λc o n1 n2 n3 n4 e=>up c o n1 (keep c o n1 n2 n3 n4 e);rw [<- size] at go;exact go
theorem uw {z P0 P1 u v l m:Addr} {k:Nat} {xs ys:Array Value} {a b:Value} {Q:Option Value->Shared->Prop} (hh:A.handled=none) (D:ZipApart z P0 P1 u v l m) (Z:IsZip s.heap z P0 P1 .none) (I0:IsPair s.heap P0 (.ref u) (.ref v)) (I1:IsPair s.heap P1 a b)
  (wu:IsTupIter s.heap u l k) (wv:IsTupIter s.heap v m k) (tl:IsTup s.heap l xs) (tm:IsTup s.heap m ys) (no:xs[k]?=none\/ys[k]?=none)
  (q:∀ h',(∀ c o,c≠z->c≠P1->c≠u->c≠v->s.heap.get? c=some o->h'.get? c=some o)->Q none { s with heap:=h' }):wpAny (model prog w) A (pyNext (.ref z)) Q E s:=by
 have hT:s.TypeIs (.ref z) "zip" :=⟨_,Z,rfl⟩;unfold pyNext;refine wpAny_bind (wpAny_attempt (wpAny_callSpecial?_slot (name:=Str.ofString "__next__") hT F.slot_zip_next (wpAny_call_entry F.slot_zip_next hT F.entry_zip_next ?_ (F.args_zip_next_1 _))));refine show wpAny _ _ (field (.ref z) 2 >>= _) _ _ _ from wpAny_bind (wpAny_field Z rfl (x:=.bool false) rfl ?_);refine show wpAny _ _ (field (.ref z) 3 >>= _) _ _ _ from wpAny_bind (wpAny_field Z rfl (x:=.ref P0) rfl (wpAny_bind (wpAny_seqItems I0 rfl ?_)));refine show wpAny _ _ (Builtin.SmallTypes.ownedTupleIsFree (.ref z) >>= _) _ _ _ from wpAny_bind ?_;unfold Builtin.SmallTypes.ownedTupleIsFree;refine wpAny_bind (wpAny_field Z rfl (x:=.none) rfl (wpAny_pure ?_));rw [if_pos rfl];refine wpAny_bind (wpAny_rule (wpAny_bind (wpAny_field Z rfl (x:=.ref P1) rfl (wpAny_bind (wpAny_setField_rec Z (by simp) λha Za sa=>?_)))));replace Za:IsZip ha z P0 P1 .ellipsis:=Za;refine wpAny_bind ?_;simp only [aBp,aAP,aBw,aA3];refine wpAny_bind (wpAny_bind (wpAny_onRaise ?_));have stop:∀ {h':Heap} {e:Addr},(∃ o,h'.get? e=some o/\o.cls=.type "StopIteration")->IsZip h' z P0 P1 .ellipsis->e≠z:=λhe hz c=>by
  obtain ⟨o,ho,hc⟩:=he;subst c;rw [hz] at ho
  cases ho
  simp at hc
 have fin:∀ {h':Heap} {e:Addr},(∃ o,h'.get? e=some o/\o.cls=.type "StopIteration")->(∀ c o,c≠z->c≠P1->c≠u->c≠v->s.heap.get? c=some o->h'.get? c=some o) ->
   wpAny (model prog w) A (do if (<- isInstance (.ref e) (.type "StopIteration")) then pure none else throw (.ref e)) Q E { s with heap:=h' }:=λ{h' e} he hk=>by
  obtain ⟨o,ho,hc⟩:=he;exact wpAny_bind (wpAny_isInstance (T:= "StopIteration") (b:=true) ⟨o,ho,hc⟩ isSubtype_stop (wpAny_pure (q _ hk)))
 cases ex:xs[k]? with
 | none =>
  refine show wpAny _ _ (Builtin.SmallTypes.nextOf (.ref u) >>= _) _ _ _ from wpAny_bind (gj hh (wu.extBut sa.extBut D.i1z) (tl.extBut sa.extBut D.l1z) ex λhb e sb he=>?_);have Zb:IsZip hb z P0 P1 .ellipsis:=sb _ _ D.i1z.symm Za;have ne:=stop he Zb;obtain ⟨o,ho,hc⟩:=he;exact wpAny_setField_rec Zb (by simp) λhd _ sd=>fin ⟨o,sd.extBut _ _ ne ho,hc⟩ λc o n1 _ n3 _ e=>sd.extBut _ _ n1 (sb _ _ n3 (sa.extBut _ _ n1 e))
 | some x =>
  have ey:ys[k]?=none:=no.resolve_left (by rw [ex];simp);refine show wpAny _ _ (Builtin.SmallTypes.nextOf (.ref u) >>= _) _ _ _ from wpAny_bind (c5 (wu.extBut sa.extBut D.i1z) (tl.extBut sa.extBut D.l1z) ex λhb wb sb=>wpAny_pure ?_);have Ib:IsPair hb P1 a b:=sb.extBut _ _ D.TOi1 (sa.extBut _ _ D.TOz I1);refine wpAny_bind (wpAny_seqItems Ib rfl (wpAny_bind (wpAny_updateSeq_pair Ib λhc Ic sc=>wpAny_bind (wpAny_letGo (wpAny_pure (wpAny_bind (wpAny_bind (wpAny_onRaise ?_))))))));refine show wpAny _ _ (Builtin.SmallTypes.nextOf (.ref v) >>= _) _ _ _ from wpAny_bind (gj hh (((wv.extBut sa.extBut D.i2z).extBut sb.extBut D.i12.symm).extBut sc.extBut D.TOi2.symm) (((tm.extBut sa.extBut D.l2z).extBut sb.extBut D.l2i1).extBut sc.extBut D.l2TO) ey λhd e sd he=>?_);have Zd:IsZip hd z P0 P1 .ellipsis:=sd _ _ D.i2z.symm (sc.extBut _ _ D.TOz.symm (sb.extBut _ _ D.i1z.symm Za));have ne:=stop he Zd;obtain ⟨o,ho,hcl⟩:=he;exact wpAny_setField_rec Zd (by simp) λhf _ sf=>fin ⟨o,sf.extBut _ _ ne ho,hcl⟩ λc o n1 n2 n3 n4 e=>sf.extBut _ _ n1 (sd _ _ n4 (sc.extBut _ _ n2 (sb.extBut _ _ n3 (sa.extBut _ _ n1 e))))
theorem xM (hh:A.handled=none) (z P0 P1 u v l m:Addr) (D:ZipApart z P0 P1 u v l m) (xs ys:Array Value) :
  WalksT prog w A z [z,P0,P1,u,v,l,m] [z,P1,u,v] (min xs.size ys.size) (λi vals=>∃ x y,xs[i]?=some x/\ys[i]?=some y/\vals=#[x,y])
   (λi h=>IsZip h z P0 P1 .none/\IsPair h P0 (.ref u) (.ref v)/\(∃ a b,IsPair h P1 a b)/\IsTupIter h u l i/\IsTupIter h v m i/\IsTup h l xs/\IsTup h m ys)
   (λi T h=>IsZip h z P0 P1 (rawInt T)/\IsPair h P0 (.ref u) (.ref v)/\(∃ a b,IsPair h P1 a b)/\IsTupIter h u l (i+1)/\IsTupIter h v m (i+1)/\IsTup h l xs/\IsTup h m ys/\T≠z/\T≠P1/\T≠u/\T≠v) where
 sub:=λc hc=>by
  simp only [aAb,aAc,or_false] at hc ⊢;rcases hc with h | h | h | h <;> simp [h]
 frame:=λi h h' st kk=>by
  obtain ⟨Z,I0,⟨a,b,I1⟩,⟨o1,e1,r1⟩,⟨o2,e2,r2⟩,⟨o3,e3,r3⟩,⟨o4,e4,r4⟩⟩:=st;exact ⟨kk z (by simp) _ Z,kk P0 (by simp) _ I0,⟨a,b,kk P1 (by simp) _ I1⟩,⟨o1,kk u (by simp) _ e1,r1⟩,⟨o2,kk v (by simp) _ e2,r2⟩,⟨o3,kk l (by simp) _ e3,r3⟩,⟨o4,kk m (by simp) _ e4,r4⟩⟩
 item:=λi s Q E hi st q=>by
  obtain ⟨Z,I0,⟨a,b,I1⟩,wu,wv,tl,tm⟩:=st;have h1:i < xs.size:=by lia
  have h2:i < ys.size:=by lia
  refine sA D Z I0 I1 wu wv tl tm (aAO h1) (aAO h2) λh' a1 a2 a3 a4 a5 a6 kk=>?_;have far:∀ {c o},s.heap.get? c=some o->s.heap.objs.size≠c:=λe=>aAT (aAd e);obtain ⟨o1,e1,_⟩:=wu;obtain ⟨o2,e2,_⟩:=wv;obtain ⟨o3,e3,r3⟩:=tl;obtain ⟨o4,e4,r4⟩:=tm;refine q s.heap.objs.size #[xs[i],ys[i]] h' s.toks ⟨_,_,aAO h1,aAO h2,rfl⟩ (aAo _) ⟨_,a5,rfl,_,rfl⟩ ⟨a1,kk _ _ D.TIz D.TITO D.TIi1 D.TIi2 I0,⟨_,_,a2⟩,a3,a4,⟨o3,kk _ _ D.l1z D.l1TO D.l1i1 D.l1i2 e3,r3⟩,⟨o4,kk _ _ D.l2z D.l2TO D.l2i1 D.l2i2 e4,r4⟩,far Z,far I1,far e1,far e2⟩ λc o hc e=>?_;simp only [aAb,aAc,or_false,not_or] at hc;exact kk c o hc.1 hc.2.1 hc.2.2.1 hc.2.2.2 e
 go:=λelts k pos i T s Q E st q=>by
  obtain ⟨Z,I0,⟨a,b,I1⟩,wu,wv,tl,tm,_⟩:=st;refine wpAny_letOwnedTupleGo_zip Z λh' Z' s'=>q h' ⟨Z',s'.extBut _ _ D.TIz I0,⟨a,b,s'.extBut _ _ D.TOz I1⟩,wu.extBut s'.extBut D.i1z,wv.extBut s'.extBut D.i2z,tl.extBut s'.extBut D.l1z,tm.extBut s'.extBut D.l2z⟩ λc o hc e=>?_;simp only [aAb,aAc,or_false,not_or] at hc;exact s'.extBut _ _ hc.1 e
 apart:=λi T h st hT=>by
  obtain ⟨_,_,_,_,_,_,_,n1,n2,n3,n4⟩:=st;simp only [aAb,aAc,or_false] at hT;rcases hT with h | h | h | h
  ·exact n1 h
  ·exact n2 h
  ·exact n3 h
  ·exact n4 h
 done:=λs Q E st q=>by
  obtain ⟨Z,I0,⟨a,b,I1⟩,wu,wv,tl,tm⟩:=st;have no:xs[min xs.size ys.size]?=none\/ys[min xs.size ys.size]?=none:=by
   rcases Nat.le_total xs.size ys.size with h | h
   ·exact .inl (aBg (by lia))
   ·exact .inr (aBg (by lia))
  refine uw hh D Z I0 I1 wu wv tl tm no λh' kk=>q h' s.toks λc o hc e=>?_;simp only [aAb,aAc,or_false,not_or] at hc;exact kk c o hc.1 hc.2.1 hc.2.2.1 hc.2.2.2 e
 self:=λi s Q E st q=>wpAny_pyIter_zip st.1 q
abbrev zT1 (h:Heap) (l:Addr):Heap:=h.push { cls:=.type "tuple_iterator",data:=.fields #[.ref l,.int 0 0] }
abbrev zT2 (h:Heap) (l m:Addr):Heap:=(zT1 h l).push { cls:=.type "tuple_iterator",data:=.fields #[.ref m,.int 0 0] }
abbrev zT3 (h:Heap) (l m:Addr):Heap:=(zT2 h l m).push { cls:=.type "tuple",data:=.seq #[.ref h.objs.size,.ref (zT1 h l).objs.size] }
abbrev zT4 (h:Heap) (l m:Addr):Heap:=(zT3 h l m).push { cls:=.type "tuple",data:=.seq #[.none,.none] }
abbrev zT5 (h:Heap) (l m:Addr):Heap:=(zT4 h l m).push { cls:=.type "zip",data:=.fields #[.none,.bool false,.bool false,.ref (zT2 h l m).objs.size,.ref (zT3 h l m).objs.size] }
theorem pN (l m:Addr) (xs ys:Array Value) :
  Meets (Builtin.«zip.__new__» ⟨[.type "zip",.ref l,.ref m],[]⟩) (λ_ R s=>IsTup s.heap l xs/\IsTup s.heap m ys/\R (.ok (.ret (.ref (zT4 s.heap l m).objs.size))) { s with heap:=zT5 s.heap l m }) :=
 .of_wp λprog w A R s h=>by
  obtain ⟨hp,g,d,tk,os⟩:=s;obtain ⟨tl,tm,h⟩:=h;have sub:=sub_zip;have T1:IsTup (Shared.heap ⟨hp,g,d,tk,os⟩) l xs:=tl;have T2:IsTup (Shared.heap ⟨hp.push { cls:=.type "tuple_iterator",data:=.fields #[.ref l,.int 0 0] },g,d,tk,os⟩) m ys:=IsTup.push tm _
  wp_walk using iter_tuple T1,iter_tuple T2
  exact ⟨_,rfl,h⟩
theorem sC {l m:Addr} {xs ys:Array Value} {Q:Value->Shared->Prop} (tl:IsTup s.heap l xs) (tm:IsTup s.heap m ys)
  (q:∀ h',IsZip h' (s.heap.objs.size+4) (s.heap.objs.size+2) (s.heap.objs.size+3) .none->IsPair h' (s.heap.objs.size+2) (.ref s.heap.objs.size) (.ref (s.heap.objs.size+1))->IsPair h' (s.heap.objs.size+3) .none .none ->
   IsTupIter h' s.heap.objs.size l 0->IsTupIter h' (s.heap.objs.size+1) m 0->h'.objs.size=s.heap.objs.size+5->(∀ c o,s.heap.get? c=some o->h'.get? c=some o)->Q (.ref (s.heap.objs.size+4)) { s with heap:=h' }) :
  wpAny (model prog w) A (call (.type "zip") [.ref l,.ref m]) Q E s:=by
 refine callType_new F.called_zip (by decide) (F.typeCall_zip_2 _ _) (F.newCall_zip_2 _ _) (λobj=>F.args_object_init_3 obj _ _) F.entry_zip_new (pN l m xs ys) ⟨tl,tm,?_⟩;have n1:(zT1 s.heap l).objs.size=s.heap.objs.size+1:=aAC ..;have n2:(zT2 s.heap l m).objs.size=s.heap.objs.size+2:=by rw [aAC,n1]
 have n3:(zT3 s.heap l m).objs.size=s.heap.objs.size+3:=by rw [aAC,n2]
 have n4:(zT4 s.heap l m).objs.size=s.heap.objs.size+4:=by rw [aAC,n3]
 have n5:(zT5 s.heap l m).objs.size=s.heap.objs.size+5:=by rw [aAC,n4]
 have e5:(zT5 s.heap l m).get? (zT4 s.heap l m).objs.size=some _:=aAf _ rfl;have e4:(zT5 s.heap l m).get? (zT3 s.heap l m).objs.size=some _:=aAa _ (aAf _ rfl);have e3:(zT5 s.heap l m).get? (zT2 s.heap l m).objs.size=some _:=aAa _ (aAa _ (aAf _ rfl));have e2:(zT5 s.heap l m).get? (zT1 s.heap l).objs.size=some _:=aAa _ (aAa _ (aAa _ (aAf _ rfl)));have e1:(zT5 s.heap l m).get? s.heap.objs.size=some _:=aAa _ (aAa _ (aAa _ (aAa _ (aAf _ rfl))));refine show _/\_ from ?_;rw [n2,n3,n4] at e5;rw [n1,n2] at e3;rw [n3] at e4;rw [n1] at e2;rw [n4];exact ⟨⟨_,e5,rfl⟩,q _ e5 e3 e4 ⟨_,e1,rfl,rfl⟩ ⟨_,e2,rfl,rfl⟩ n5 λc o x=>aAa _ (aAa _ (aAa _ (aAa _ (aAa _ x))))⟩
end
def nv (K:W.Frag) (a b:Addr):It :=
 ⟨λi H=>∃ xs ys x y,SqT K H a xs/\SqT K H b ys/\xs[i]?=some x/\ys[i]?=some y,
  λi H v H'=>∃ T x y,v=.ref T/\H T=none/\H'=upd H T (.tup [x,y])/\(∀ xs,SqT K H a xs->xs[i]?=some x)/\(∀ ys,SqT K H b ys->ys[i]?=some y),
  λi H=>∃ xs ys,SqT K H a xs/\SqT K H b ys/\min xs.length ys.length=i⟩
def Bb (z TI TO i1 i2 l1 l2:Addr) (i:Nat) (h:Heap):Prop:=IsZip h z TI TO .none/\IsPair h TI (.ref i1) (.ref i2)/\(∃ a b,IsPair h TO a b)/\IsTupIter h i1 l1 i/\IsTupIter h i2 l2 i
theorem sD {P:Program} {w:World} {K:W.Frag} {elts:List Expr} {k:Nat} {pos:Pos} (z TI TO i1 i2 l1 l2:Addr) (D:ZipApart z TI TO i1 i2 l1 l2) :
  Turn P w K (.Tuple elts k pos) (nv K l1 l2) [z,TI,TO,i1,i2] z (Bb z TI TO i1 i2 l1 l2) where
 mem:=by simp
 obj:=λi h st b hb=>by
  obtain ⟨hz,hTI,⟨a,c,hTO⟩,⟨o1,e1,c1,d1⟩,⟨o2,e2,c2,d2⟩⟩:=st;simp only [aAb,aAc,or_false] at hb;rcases hb with rfl | rfl | rfl | rfl | rfl
  ·exact ⟨_,hz,λv q=>by cases q⟩
  ·exact ⟨_,hTI,λv q=>by cases q⟩
  ·exact ⟨_,hTO,λv q=>by cases q⟩
  ·exact ⟨o1,e1,λv q=>by rw [d1] at q;cases q⟩
  ·exact ⟨o2,e2,λv q=>by rw [d2] at q;cases q⟩
 keep:=λi h h' st kk=>by
  obtain ⟨hz,hTI,⟨a,c,hTO⟩,⟨o1,e1,r1⟩,⟨o2,e2,r2⟩⟩:=st;exact ⟨kk z (by simp) _ hz,kk TI (by simp) _ hTI,⟨a,c,kk TO (by simp) _ hTO⟩,⟨o1,kk i1 (by simp) _ e1,r1⟩,⟨o2,kk i2 (by simp) _ e2,r2⟩⟩
 item:=by
  intro X hP hw hK hc i pins s σ H E I hf st hg;subst hP hw hK;obtain ⟨xs,ys,x,y,hx,hy,ex,ey⟩:=hg;obtain ⟨its,rv,p,hz⟩:=I.tuple hx;obtain ⟨its2,rv2,p2,hz2⟩:=I.tuple hy;obtain ⟨s1,s2,s3,s4,s5⟩:=st;have W:=xM (prog:=X.prog) (w:=X.w) (I.ok.hd hc) z TI TO i1 i2 l1 l2 D its.toArray its2.toArray;have li:i < xs.length:=(aAg.mp ex).1;have li2:i < ys.length:=(aAg.mp ey).1;have el:=rv.length;have el2:=rv2.length;have wsub:∀ b∈[z,TO,i1,i2],b∈[z,TI,TO,i1,i2]:=λb hb=>by
   simp only [aAb,aAc,or_false] at hb ⊢;rcases hb with rfl | rfl | rfl | rfl <;> simp
  refine W.item i s _ _ (by simp only [aAm];lia) ⟨s1,s2,s3,s4,s5,p,p2⟩ λT vals h' tk hv hT hTup hm hk=>?_;obtain ⟨u,v,eu,ev,rfl⟩:=hv;obtain ⟨u',eu',ru⟩:=rv.get ex;obtain ⟨v',ev',rv'⟩:=rv2.get ey;have e1:u=u':=by
   have:its[i]?=some u:=by simpa using eu
   rw [eu'] at this;exact (Option.some.inj this).symm
  have e2:v=v':=by
   have:its2[i]?=some v:=by simpa using ev
   rw [ev'] at this;exact (Option.some.inj this).symm
  subst e1 e2;have hTn:H T=none:=I.hok.fresh hT;have I1:Inv X pins σ (upd H T (.tup [x,y])) { s with heap:=h',toks:=tk }:=I.turnedT hk (λb hb=>hf b (wsub b hb)) hT ⟨by show 2<=sizeLine;decide,[u,v],.cons ru (.cons rv' .nil),hTup⟩;have ap:=W.apart i T h' hm;have f1:∀ b∈[z,TO,i1,i2],dD X pins (upd H T (.tup [x,y])) b:=λb hb=>by
   obtain ⟨f0,f1⟩:=hf b (wsub b hb);exact ⟨by rw [ah (λe:b=T=>ap (by rw [<- e];exact hb))];exact f0,f1⟩
  refine ⟨_,rfl,W.go elts k pos i T _ _ _ hm λh'' st2 hk2=>?_⟩;obtain ⟨t1,t2,t3,t4,t5,_,_⟩:=st2;refine ⟨.ref T,_,Inv.turnedL (s:={ s with heap:=h',toks:=tk }) (t':=tk) I1 hk2 f1,rfl,⟨T,x,y,rfl,hTn,rfl,λzs q=>by rw [I.tuple_inj q hx];exact ex,λzs q=>by rw [I.tuple_inj q hy];exact ey⟩,⟨t1,t2,t3,t4,t5⟩,λb hb=>?_⟩;have fb:=(hf b hb).1
  by_cases e:b=T
  ·subst e;have lti:s.heap.objs.size > TI:=aAd s2;simp only [aAb,aAc,or_false] at hb;rcases hb with rfl | rfl | rfl | rfl | rfl
   ·exact absurd (by simp) ap
   ·exact absurd lti (aBT.mpr hT)
   ·exact absurd (by simp) ap
   ·exact absurd (by simp) ap
   ·exact absurd (by simp) ap
  ·rw [ah e];exact fb
 done:=by
  intro X hP hw hK hc i pins s σ H E I hf st hg;subst hP hw hK;obtain ⟨xs,ys,hx,hy,hi⟩:=hg;obtain ⟨its,rv,p,hz⟩:=I.tuple hx;obtain ⟨its2,rv2,p2,hz2⟩:=I.tuple hy;obtain ⟨s1,s2,s3,s4,s5⟩:=st;have W:=xM (prog:=X.prog) (w:=X.w) (I.ok.hd hc) z TI TO i1 i2 l1 l2 D its.toArray its2.toArray;have el:=rv.length;have el2:=rv2.length;have en:min its.toArray.size its2.toArray.size=i:=by simp only [aAm];lia
  have wsub:∀ b∈[z,TO,i1,i2],b∈[z,TI,TO,i1,i2]:=λb hb=>by
   simp only [aAb,aAc,or_false] at hb ⊢;rcases hb with rfl | rfl | rfl | rfl <;> simp
  refine W.done s _ _ ?_ λh' tk hk=>⟨rfl,I.turnedL hk λb hb=>hf b (wsub b hb)⟩;rw [en];exact ⟨s1,s2,s3,s4,s5,p,p2⟩
 self:=λ_ _ _ _ _ st h=>wpAny_pyIter_zip st.1 h
section
variable {X:Cx} {elts:List Expr} {k:Nat} {tpos:Pos}
def Hv (K:W.Frag) (ta:TA):TI:=λσ H R=>ta σ H λvs H1=>∃ a b,vs=[.ref a,.ref b]/\(∃ xs,SqT K H1 a xs)/\(∃ ys,SqT K H1 b ys)/\R (nv K a b) H1
theorem wI {a b:Expr} {ta:TA} {p pos:Pos} (hg:Gl X "zip") (hm:X.mg "zip" = none) (ha:PA X [a,b] ta) (hs:starEach [a,b] X.env=[(false,eval a X.env),(false,eval b X.env)]:=by rfl) (hs2:starEach [b] X.env=[(false,eval b X.env)]:=by rfl) :
  PI X (.Tuple elts k tpos) (.Call (.Name "zip" p) [a,b] [] pos) (Hv X.K ta):=by
 intro pins s σ H R I h;refine Call_ (dC I hg hm boot_zip (PyProof.Rows.callWith_type1 (thn (ha pos pins s σ H _ I h) λus s1 ⟨vs,H1,I1,r1,q1⟩=>?_) (by rw [hs,hs2]) (by rw [hs2];rfl)));obtain ⟨l1,l2,e,⟨xs,hx⟩,⟨ys,hy⟩,q⟩:=q1;subst e;obtain ⟨u,v,rfl,ru,rv⟩:=r1.two
 cases ru
 cases rv
 obtain ⟨its,rr,pl,hz⟩:=I1.tuple hx;obtain ⟨its2,rr2,pl2,hz2⟩:=I1.tuple hy;have lt1:l1 < s1.heap.objs.size:=by obtain ⟨o,e,_⟩:=pl;exact aAd e
 have lt2:l2 < s1.heap.objs.size:=by obtain ⟨o,e,_⟩:=pl2;exact aAd e
 refine sC pl pl2 λh' z1 z2 z3 z4 z5 zs kk=>?_;have I2:Inv X pins σ H1 { s1 with heap:=h' }:=I1.kept (t':=s1.toks) kk;refine wpAny_pyIter_zip z1 ?_;refine ⟨_,_,_,_,H1,rfl,I2,sD _ _ _ _ _ l1 l2 ?_,⟨z1,z2,⟨_,_,z3⟩,z4,z5⟩,λb hb=>?_,q⟩
 ·have lt1':s1.heap.objs.size > l1:=lt1;have lt2':s1.heap.objs.size > l2:=lt2
  constructor <;> (show ¬ (@Eq Nat _ _)) <;> lia
 ·have:s1.heap.objs.size<=b:=by
   simp only [aAb,aAc,or_false] at hb;rcases hb with rfl | rfl | rfl | rfl | rfl <;> lia
  exact I1.fpOk this (I1.hok.fresh this)
end
theorem sE {K:W.Frag} {a b l:Addr} {xs ys:List V} {g:TG} {tb:List V->Addr->St->Hp->(List V->St->Hp->Prop)->Prop} {Q:VK} {σ0:St} {H0:Hp} (Pv:Nat->List V->St->Hp->Prop) (h0:Pv 0 [] σ0 H0)
  (hla:∀ i us σ H,Pv i us σ H->SqT K H a xs/\SqT K H b ys)
  (hs:∀ i x y T us σ H (N:List V->St->Hp->Prop),xs[i]?=some x->ys[i]?=some y->H T=none->Pv i us σ H->(∀ us' σ' H',Pv (i+1) us' σ' H'->N us' σ' H')->g (.ref T) σ (upd H T (.tup [x,y])) λσ2 H2=>tb us l σ2 H2 N)
  (hd:∀ us σ H,Pv (min xs.length ys.length) us σ H->Q (.ref l) H) :
  ∃ W:Nat->Nat->List V->St->Hp->Prop,(∃ m,W 0 m [] σ0 H0)/\∀ i m us σ' H',W i m us σ' H'->((nv K a b).stop i H'/\Q (.ref l) H') \/
   ((nv K a b).go i H'/\∀ x H'',(nv K a b).yld i H' x H''->g x σ' H'' λσ2 H2=>tb us l σ2 H2 λus' σ3 H3=>∃ m',m' < m/\W (i+1) m' us' σ3 H3):=by
 refine ⟨λi m us σ H=>m=min xs.length ys.length - i/\i<=min xs.length ys.length/\Pv i us σ H,⟨_,rfl,aAF _,h0⟩,?_⟩;rintro i m us σ H ⟨rfl,hi,p⟩;obtain ⟨sa,sb⟩:=hla i us σ H p
 by_cases hlt:i < min xs.length ys.length
 ·obtain ⟨x,ex⟩:∃ x,xs[i]?=some x:=⟨_,aAp (by lia)⟩;obtain ⟨y,ey⟩:∃ y,ys[i]?=some y:=⟨_,aAp (by lia)⟩;refine .inr ⟨⟨xs,ys,x,y,sa,sb,ex,ey⟩,λv H' q=>?_⟩;obtain ⟨T,x',y',rfl,hT,rfl,q1,q2⟩:=q;have e1:=q1 xs sa;have e2:=q2 ys sb;exact hs i x' y' T us σ H _ e1 e2 hT p λus' σ' H' w=>⟨_,by lia,rfl,hlt,w⟩
 ·have e:i=min xs.length ys.length:=by lia
  subst e;exact .inl ⟨⟨xs,ys,sa,sb,rfl⟩,hd us σ H p⟩
section
variable {X:Cx} {K:W.Frag}
theorem kC:OpR X (compareOp .LtE) (λx y H Q=>∃ i j,x=.str i/\y=.str j/\Q (.bl (!decide (j.cps.toList < i.cps.toList))) H):=by
 intro pins s σ H x y v u Q I rx ry h;obtain ⟨i,j,rfl,rfl,q⟩:=h;obtain ⟨t,rfl⟩:=rx;obtain ⟨t',rfl⟩:=ry;exact PySem.P.le_str (ax I q rfl)
end
section
variable {prog:Program} {w:World} {A:Around} {E:Value->Shared->Prop} {s:Shared}
theorem jA:typeLookup (.type "dict") "__len__" = pure (some (.builtin "dict.__len__")):=by rw [typeLookup_type,builtinLookup_eq_fast];kernel_rfl
theorem ux {d:Addr} {kvs:List (Key×Value)} {Q:List Value->Shared->Prop} (hh:A.handled=none) (hd:(d == sysModules)=false) (hm:s.heap.DictOf (ag prog w) d kvs) (hn:kvs.length<=sizeLine)
  (q:∀ s' acc,(∀ b o,s.heap.get? b=some o->s'.heap.get? b=some o)->s.heap.objs.size < s'.heap.objs.size->s'.gens=s.gens->s'.drawn=s.drawn->s'.os=s.os->ItemsOf (λi v=>∃ k x,kvs[i]?=some (k,x)/\(ag prog w).is k v=true) acc kvs.length->Q acc.toList s') :
  wpAny (model prog w) A (collect (.ref d)) Q E s:=by
 obtain ⟨ep,at0⟩:=hm.dictAt;have hdT:s.TypeIs (.ref d) "dict" :=hm.typeIs;unfold collect;refine wpAny_bind (wpAny_runValue (codeAny_builtin F.entry_proto_collect ?_));rw [Around.under_plainId F.plain_proto_collect _];refine show wpAny _ A.in1 (newList [] >>= λl=>again (.builtin "list.__iadd__" ⟨[l,.ref d],[]⟩)) _ _ s from wpAny_bind (wpAny_newObj_type ?_);refine wpAny_pure ⟨plainId_quiet F.plain_list_iadd _,codeAny_builtin F.entry_list_iadd ?_⟩;rw [Around.under_plainId F.plain_list_iadd _];have ltd:d < s.heap.objs.size:=at0.lt_size;have at1:=at0.push { cls:=.type "list",data:=.seq ([]:List Value).toArray }
 generalize hH:s.heap.push { cls:=.type "list",data:=.seq ([]:List Value).toArray }=G at at1 ⊢
 have hT1:Shared.TypeIs { s with heap:=G } (.ref d) "dict" :=at1.dictOf.typeIs;refine show wpAny _ A.in1 (Builtin.List.listExtendWith (.ref s.heap.objs.size) (.ref d) (.ref s.heap.objs.size)) _ _ _ from ?_;unfold Builtin.List.listExtendWith;refine wpAny_bind (wpAny_typeOf hT1 ?_);have n1:Builtin.List.listSameRef (.ref s.heap.objs.size) (.ref d)=false:=by simp [Builtin.List.listSameRef];exact aAT ltd
 simp only [n1,show (Value.type "dict" == Value.type "list")=false by decide,show (Value.type "dict" == Value.type "tuple")=false by decide,aBU,aAk,if_false];refine wpAny_bind (wpAny_pyIter_dict hd at1 ?_);refine wpAny_bind (wpAny_holding ?_);have at2:=at1.push { cls:=.type "dict_keyiterator",data:=.fields #[.ref d,.int 0 0,.int kvs.length 0,.int ep 0] };have k2:Heap.IsKeyIter (G.push { cls:=.type "dict_keyiterator",data:=.fields #[.ref d,.int 0 0,.int kvs.length 0,.int ep 0] }) G.objs.size d 0 kvs.length ep:=⟨_,aAf _ rfl,rfl,rfl⟩;have S2:(G.push { cls:=.type "dict_keyiterator",data:=.fields #[.ref d,.int 0 0,.int kvs.length 0,.int ep 0] }).get? s.heap.objs.size=some { cls:=.type "list",data:=.seq ([]:List Value).toArray }:=aAa _ (hH ▸ aAf _ rfl);have keep2:∀ b o,s.heap.get? b=some o->(G.push { cls:=.type "dict_keyiterator",data:=.fields #[.ref d,.int 0 0,.int kvs.length 0,.int ep 0] }).get? b=some o:=λb o e=>aAa _ (hH ▸ aAa _ e);have sizeG:G.objs.size=s.heap.objs.size+1:=by rw [<- hH,aAC]
 generalize G.push { cls:=.type "dict_keyiterator",data:=.fields #[.ref d,.int 0 0,.int kvs.length 0,.int ep 0] }=G2 at at2 k2 S2 keep2 ⊢
 have hT2:Shared.TypeIs { s with heap:=G2 } (.ref d) "dict" :=at2.dictOf.typeIs;unfold Builtin.List.listLengthHint;refine wpAny_bind (wpAny_specialOf hT2 jA ?_)
 wp_delta
 refine wpAny_bind (wpAny_isInstance (b:=true) hT2 (by rw [isSubtype_type];kernel_rfl) ?_);refine show wpAny _ A.in1 (typeOf (Value.ref d) >>= _) _ _ _ from wpAny_bind (wpAny_typeOf hT2 (wpAny_pure ?_));rw [if_pos (by decide)];refine wpAny_bind (wpAny_rule (wpAny_bind ?_));refine show wpAny _ A.in1 (updateSeq s.heap.objs.size (·.push .none) >>= λ_=>updateSeq s.heap.objs.size (·.pop)) _ _ _ from wpAny_bind (wpAny_updateSeq S2 rfl ?_);have S3:=aAJ (Obj.mapSeq (·.push Value.none)) S2 rfl;refine wpAny_updateSeq (hz:=by seq_fits) S3 rfl ?_;have S4:=aAJ (Obj.mapSeq (·.pop)) S3 rfl;have oth:∀ b o,b≠s.heap.objs.size->G2.get? b=some o->((G2.update s.heap.objs.size (Obj.mapSeq (·.push Value.none))).update s.heap.objs.size (Obj.mapSeq (·.pop))).get? b=some o:=λb o n e=>(aAG _ _ (Ne.symm n)).trans ((aAG _ _ (Ne.symm n)).trans e);have nG:G.objs.size≠s.heap.objs.size:=by rw [sizeG];exact Nat.succ_ne_self _
 have nd:d≠G.objs.size:=by rw [sizeG];exact aAl (aAZ ltd)
 have Wk:=Walks.dictKeys (prog:=prog) (w:=w) (A:=A.in1) (knd:=ag prog w) hh G.objs.size d nd kvs ep;have hSf:s.heap.objs.size∉[G.objs.size,d]:=by
  simp only [aAb,aAc,or_false,not_or];exact ⟨nG.symm,aAT ltd⟩
 refine wpAny_pure ⟨plainId_quiet F.plain_extend_loop _,codeAny_extend_loopS Wk.toS hn _ hSf _ kvs.length 0 _ _ _ rfl (aAF _) ⟨k2.at λo e=>oth _ o nG e,at2.at' λo e=>oth _ o (aAl ltd) e⟩ S4 (ItemsOf.nil _) λs' acc' c' hmv S5 hacc=>?_⟩;refine show wpAny _ A (load s.heap.objs.size >>= _) _ _ s' from wpAny_bind (wpAny_load S5 (wpAny_pure (q s' acc' (λb o e=>hmv.heap b o (λhb=>?_) (oth b o (aAl (aAd e)) (keep2 b o e))) (aAd S5) hmv.gens hmv.drawn hmv.os hacc)));have hlt:=aAd e;simp only [aAb,aAc,or_false] at hb;rcases hb with h | h
 ·exact absurd hlt (h ▸ aAE _)
 ·rw [h,sizeG] at hlt;exact absurd hlt (aBT.mpr (aBz _))
theorem wJ {P:Program} {w:World} {z:Str} {v:Value} (h:(ag P w).is (Sum.inr z) v=true):∃ t,v=.str z t:=by
 rcases aK (show ix (Sum.inr z) v=true from h) with ⟨i,t,e,_⟩ | ⟨x,t,e,rfl⟩
 ·cases e
 ·cases e
  exact ⟨t,rfl⟩
theorem kD {P:Program} {w:World}:∀ {ss:List Str} {us:List Value},us.length=ss.length->(∀ (j:Nat) (v:Value),us[j]?=some v->∃ z,ss[j]?=some z/\(ag P w).is (Sum.inr z) v=true)->StrsAre us ss
 | [],us,hl,_=>by
  cases us with
  | nil=>exact .nil
  | cons u us=>cases hl
 | z :: ss,us,hl,h=>by
  cases us with
  | nil=>cases hl
  | cons u us =>
   obtain ⟨z',e,hz⟩:=h 0 u rfl;obtain rfl:z=z':=Option.some.inj e;obtain ⟨t,rfl⟩:=wJ hz;exact .cons z t (kD (Nat.succ.inj hl) λj v hj=>by simpa using h (j+1) v (by simpa using hj))
theorem wK {d:Addr} {kvs:List (Key×Value)} {ss:List Str} {Q:Value->Shared->Prop} (hh:A.handled=none) (hd:(d == sysModules)=false) (hm:s.heap.DictOf (ag prog w) d kvs) (names:kvs.map (·.1)=ss.map Sum.inr) (h64:ss.length < 64)
  (q:∀ (h':Heap) (t':Nat) (a:Addr) (out:Array Value) (ss':List Str) (n:Nat),(∀ b o,s.heap.get? b=some o->h'.get? b=some o)->s.heap.objs.size<=a->h'.get? a=some (seqObj "list" out n)->StrsAre out.toList ss'->ss'.Perm ss->sortedS ss'=true->Q (.ref a) { s with heap:=h',toks:=t' }) :
  wpAny (model prog w) A (call (.builtin "sorted") [.ref d]) Q E s:=by
 have lk:kvs.length=ss.length:=by have:=congrArg List.length names;simpa using this
 refine Calls.call_function_entry kind_sorted plain_sorted entry_sorted (args_sorted1 _) ?_;unfold Builtin.«sorted»;refine wpAny_bind (m:=checkCount "sorted" 1 1 _) (wpAny_pure (wpAny_bind (ux hh hd hm (by rw [lk];exact aAL (aBa h64 (by decide))) λs1 acc kk low g1 d1 o1 items=>?_)));have hS:StrsAre acc.toList ss:=kD (P:=prog) (w:=w) (by rw [aA9,items.1,lk]) λj v hj=>by
  obtain ⟨k,x,e,hk⟩:=items.2 j v (by simpa using hj);have e2:(kvs.map (·.1))[j]?=some k:=by rw [aAt,e];rfl
  rw [names,aAt] at e2;obtain ⟨z,hz,rfl⟩:=aAu.mp e2;exact ⟨z,hz,hk⟩
 have lacc:acc.toList.length < 64:=by
  have:=items.1;simp only [aA9];lia
 refine wpAny_bind (wpAny_newList ?_);have hoL:(s1.heap.push (seqObj "list" acc.toList.toArray 0)).get? s1.heap.objs.size=some (seqObj "list" acc.toList.toArray 0):=aAf _ rfl;refine wpAny_bind (wpAny_holding (wpAny_call_entry slot_list_sort ⟨_,hoL,rfl⟩ entry_list_sort (list_sort_treeK strKind_oneLt hoL hS.keysOf (λv₁ v₂ rest e=>keyKind_strs (by rw [<- e];exact hS)) lacc λst' hp hs=>⟨_,rfl,?_⟩) (args_list_sort _)));obtain ⟨ss',h1,h2,h3⟩:=sorted_out_str hS hp hs;obtain ⟨e,he⟩:=sortedHeap_at (out:=(arrOf st').map (·.2)) hoL;obtain ⟨hp1,g',d',tk',os'⟩:=s1;have e1:g'=s.gens:=g1;have e2:d'=s.drawn:=d1;have e3:os'=s.os:=o1;subst e1 e2 e3;refine wpAny_pure ⟨_,rfl,q _ tk' _ _ ss' e (λb o eb=>?_) (aAL low) he h1 h2 h3⟩;have lt:=aAd (kk b o eb);rw [sortedHeap_old (aAl lt) (by rw [aAC];exact aAZ lt)];exact aAa _ (kk b o eb)
end
section
variable {X:Cx}
def DicQ (K:W.Frag) (H:Hp) (p:Addr) (fs:List (Str×Dt)):Prop :=
 ∃ kvs,H p=some (.dK kvs)/\kvs.map (·.1)=fs.map (λp=>(Sum.inr p.1:Key))/\∀ z,(am fs z=none->a8 kvs (Sum.inr z:Key)=none)/\∀ d,am fs z=some d->∃ v,a8 kvs (Sum.inr z:Key)=some v/\IsP K H d v
theorem DicQ.p {K:W.Frag} {H:Hp} {p:Addr} {fs:List (Str×Dt)} (h:DicQ K H p fs):IA K H p fs:=by
 obtain ⟨kvs,e,_,k⟩:=h;exact ⟨kvs,e,k⟩
end
section
variable {prog:Program} {w:World} {A:Around} {E:Value->Shared->Prop} {s:Shared}
end
section
variable {prog:Program} {w:World} {A:Around} {E:Value->Shared->Prop} {s:Shared}
end
section
variable {X:Cx} {pins:List (Addr×Obj)} {σ:St} {H H':Hp} {s:Shared} {h':Heap}
end
abbrev Hx (j tk:Nat) (x:Value):Obj:={ cls:=.type "tuple",data:=.seq #[.int j tk,x] }
inductive Rws (h:Heap) (lo:Nat):Nat->List V->List (Addr×HO)->Prop
 | nil {j:Nat}:Rws h lo j [] []
 | cons {j T tk:Nat} {x:Value} {v:V} {vs:List V} {r:List (Addr×HO)}:lo < T->RelV v x->h.get? T=some (Hx j tk x)->Rws h lo (j+1) vs r->Rws h lo j (v :: vs) ((T,plO [.int j,v] [.int j tk,x]) :: r)
theorem Rws.length {h:Heap} {lo:Nat}:∀ {j:Nat} {vs:List V} {r:List (Addr×HO)},Rws h lo j vs r->r.length=vs.length
 | _,_,_,.nil=>rfl
 | _,_,_,.cons _ _ _ r=>by rw [aAs,aAs,r.length]
section
variable {X:Cx}
end
section
variable {prog:Program} {w:World} {A:Around} {E:Value->Shared->Prop} {s:Shared}
end
section
variable {X:Cx}
end
section
variable {X:Cx} {tg:Expr} {pins:List (Addr×Obj)} {σ:St} {H:Hp} {s:Shared}
end
section
variable {X:Cx}
theorem pO (hc:X.calm=true):aN X (.type "dict") (λxs H Q=>∃ x fs,xs=[x]/\IsP X.K H (.tup (fs.map prD)) x/\(fs.map (·.1)).Nodup/\fs.length<=1000/\∀ p H',H p=none->Same H H'->DicQ X.K H' p fs->Q (.ref p) H'):=by
 intro pins s σ H xs us Q I r h;obtain ⟨x,fs,rfl,dx,nd,hz,q⟩:=h;obtain ⟨u,rfl,rx⟩:=cc r;obtain ⟨a,ys,rfl,ha,⟨o,ho,eo,dn⟩,ra⟩:=dx.unref
 cases rx
 obtain ⟨its,r',⟨o',e',c',n',d'⟩,_⟩:=I.tuple ha;have e0:s.heap.get? a=some o:=(I.hok a _ eo).1;rw [e0] at e';obtain rfl:=Option.some.inj e';obtain ⟨kvs,vs,k1,k2,k3,k4,k5,k6⟩:=uj I ra r';have hl:vs.length=fs.length:=by rw [<- k1.length,k3]
 have big:=I.big;refine gW (knd:=ag X.prog X.w) (kvs:=vs) (I.ok.hd hc) e0 c' d' dn ⟨by rw [aAm];exact k5,λi kv z=>?_⟩ (aAx (Nat.add_le_add (hl ▸ hz) (hl ▸ hz)) (by decide)) λh' tk dd kp=>?_
 ·obtain ⟨b,key,z1,z2,z3⟩:=k6 i kv z;exact ⟨b,key,by simpa using z1,z2,z3⟩
 ·have ndv:(vs.map (·.1)).Nodup:=by
   rw [<- k1.keys,k2];have z:fs.map (λp=>(Sum.inr p.1:Key))=(fs.map (·.1)).map Sum.inr:=by rw [aAz];rfl
   rw [z];exact List.Pairwise.map _ (λa b n q=>n (Sum.inr.inj q)) nd
  rw [merged_nil_of_nodup vs ndv] at dd;have hf:=I.hok.fresh (aAo s.heap.objs.size);have I2:Inv X pins σ (upd H s.heap.objs.size (.dK kvs)) { s with heap:=h',toks:=tk }:=I.laid (t':=tk) kp (aAo _)
   (ui (by rw [k3];exact aAL (aj hz)) (by simp;exact aAT big) k1 dd)
  refine ⟨.ref s.heap.objs.size,_,I2,rfl,q _ _ hf (ae hf _) ⟨kvs,ac,k2,λz=>⟨(k4 z).1,λd l=>?_⟩⟩⟩;obtain ⟨v,l1,l2⟩:=(k4 z).2 d l;exact ⟨v,l1,l2.same (ae hf _)⟩
theorem ny (hc:X.calm=true):aN X (.builtin "sorted") (λxs H Q=>∃ (p:Addr) (kvs:List (Key×V)) (ss:List Str),xs=[.ref p]/\Rd H p (.dK kvs)/\kvs.map (·.1)=ss.map Sum.inr/\ss.length < 64/\∀ (a:Addr) (ss':List Str),H a=none->ss'.Perm ss->sortedS ss'=true->Q (.ref a) (upd H a (.lst (ss'.map V.str)))):=by
 intro pins s σ H xs us Q I r h;obtain ⟨p,kvs,ss,rfl,hp,names,hl,q⟩:=h;obtain ⟨u,rfl,rx⟩:=cc r
 cases rx
 obtain ⟨hz,hd,vs,kv,dof⟩:=qI I.hok hp;refine wK (ss:=ss) (I.ok.hd hc) hd dof (by rw [<- kv.keys];exact names) hl λh' t' a out ss' n kk low ea h1 h2 h3=>?_;have hn:H a=none:=I.hok.fresh low;refine ⟨.ref a,_,I.laid (t':=t') (o:=.lst (ss'.map V.str)) kk low ?_,rfl,q a ss' hn h2 h3⟩;have e2:seqObj "list" out n=seqObj "list" out.toList.toArray n:=by rw [Array.toArray_toList]
 refine ⟨?_,out.toList,n,gi h1,?_⟩
 ·rw [aAe,h2.length_eq];exact aAL (aBa hl (by decide))
 ·rw [ea,e2]
end
section
variable {a:Addr} {ob:Obj} {kvs:List (Key×V)} {g:TG} {l:Addr} {σ0:St} {H0:Hp} {R:Hp->Prop} {tb:List V->Addr->St->Hp->(List V->St->Hp->Prop)->Prop}
end
section
variable {X:Cx}
end
section
variable {prog:Program} {w:World} {A:Around} {E:Value->Shared->Prop} {s:Shared}
end
section
variable {X:Cx}
end
section
variable {X:Cx} {K:W.Frag}
end
section
variable {X:Cx} {K:W.Frag}
inductive JSlP (K:W.Frag) (x:V) (lo hi:Option Int) (H:Hp) (Q:VK):Prop
 | mk (l:List Dt):(IsP K H (.tup l) x)->(∀ v H',Same H H'->IsP K H' (.tup (rZ l lo hi)) v->Q v H')->JSlP K x lo hi H Q
def ID (K:W.Frag):V->Option Int->Option Int->Hp->VK->Prop:=λx lo hi H Q=>JSlP K x lo hi H Q
inductive JLenS (K:W.Frag) (xs:List V) (H:Hp) (Q:VK):Prop
 | mk (p:Addr) (ys:List V):(xs=[.ref p])->((SqL K H p ys\/SqT K H p ys))->(Q (.int ys.length) H)->JLenS K xs H Q
def Hy (K:W.Frag):List V->Hp->VK->Prop:=λxs H Q=>JLenS K xs H Q
def IE (K:W.Frag):List V->Hp->VK->Prop:=λxs H Q=>∃ p ys,xs=[.ref p]/\true=true/\SqL K H p (bls ys)/\Q (.bl (ys.all id)) H
def Bc (K:W.Frag):List V->Hp->VK->Prop:=λxs H Q=>∃ x fs,xs=[x]/\IsP K H (.tup (fs.map prD)) x/\(fs.map (·.1)).Nodup/\fs.length<=1000/\∀ p H',H p=none->Same H H'->DicQ K H' p fs->Q (.ref p) H'
theorem cQ (hK:X.K=K):SlR X (ID K):=by
 subst hK;intro pins s σ H x v vl vu lo hi sl Q I rx hs pl pu h;obtain ⟨l,a,q⟩:=h;exact wz _ _ _ _ _ _ _ _ _ _ _ _ I rx hs pl pu ⟨l,a,q⟩
theorem nz (hK:X.K=K):SlR X (Hb K):=by subst hK;exact wf
theorem az (hK:X.K=K):OpR X (binaryOp .Add) (iJ K):=by subst hK;exact wE
theorem call_len_seqN (hK:X.K=K):aN X (.builtin "len") (Hy K):=by
 subst hK;intro pins s σ H xs us Q I r h;obtain ⟨x,l,a,b,q⟩:=h;exact fo _ _ _ _ _ _ _ I r ⟨x,l,a,b,q⟩
theorem call_allN (hK:X.K=K) (hc:X.calm=true):aN X (.builtin "all") (IE K):=by
 subst hK;intro pins s σ H xs us Q I r h;obtain ⟨p,ys,rfl,_,hs,q⟩:=h;exact tW _ _ _ _ _ _ _ I r ⟨p,ys,rfl,hc,hs,q⟩
theorem nA (hK:X.K=K) (hc:X.calm=true):aN X (.type "dict") (Bc K):=by subst hK;exact pO hc
end
section
variable {K:W.Frag} {a b l:Addr} {xs ys:List V} {g:TG} {tb:List V->Addr->St->Hp->(List V->St->Hp->Prop)->Prop} {R:Hp->Prop} {σ0:St} {H0:Hp}
theorem pP (Pv:Nat->List V->St->Hp->Prop) (h0:Pv 0 [] σ0 H0) (hla:∀ i us σ H,Pv i us σ H->SqT K H a xs/\SqT K H b ys)
  (hs:∀ i x y T us σ H (N:List V->St->Hp->Prop),xs[i]?=some x->ys[i]?=some y->H T=none->Pv i us σ H->(∀ us' σ' H',Pv (i+1) us' σ' H'->N us' σ' H')->g (.ref T) σ (upd H T (.tup [x,y])) λσ2 H2=>tb us l σ2 H2 N)
  (hd:∀ us σ H,Pv (min xs.length ys.length) us σ H->R H) :
  ∃ W:Nat->Nat->List V->St->Hp->Prop,(∃ m,W 0 m [] σ0 H0)/\∀ i m us σ' H',W i m us σ' H'->((nv K a b).stop i H'/\R H') \/
   ((nv K a b).go i H'/\∀ x H'',(nv K a b).yld i H' x H''->g x σ' H'' λσ2 H2=>tb us l σ2 H2 λus' σ3 H3=>∃ m',m' < m/\W (i+1) m' us' σ3 H3):=sE (Q:=λ_ H=>R H) Pv h0 hla hs hd
end
section
variable {X:Cx} {K:W.Frag}
end
end L2
namespace PySem
open Sem (wp)
namespace F
end F
section
variable {prog:Program} {w:World} {K:Type} [DecidableEq K] {kd:KeyKind prog w K} {A:Around} {E:Value->Shared->Prop}
theorem dH {h h':Heap} {ks:List K} {a:Addr} (x:IsTupleKey kd h ks a) (k:∀ o,h.get? a=some o->h'.get? a=some o):IsTupleKey kd h' ks a:=by
 obtain ⟨o,its,n,e,r⟩:=x;exact ⟨o,its,n,k o e,r⟩
end
end PySem
namespace L2
open PySem PySem.Spec PyProof.Rows
def kDt:Key->Dt
 | .inl i=>.int i
 | .inr z=>.str z
theorem wL {K:W.Frag} {H:Hp} {k:Key} {v:V} (h:IsP K H (kDt k) v):v=kV k:=by
 cases k <;> (cases h;rfl)
theorem kE {K:W.Frag} {H:Hp}:∀ {ks:List Key} {xs:List V},IsPs K H (ks.map kDt) xs->xs=ks.map kV
 | [],_,h=>by cases h;rfl
 | k :: ks,_,h=>by
  cases h with
  | cons h r=>rw [wL h,kE r];rfl
def xN (P:Program) (w:World) (p:Addr) (xs:List (List Key×Addr×Value)) (h:Heap):Prop :=
 ∃ o es ep,h.get? p=some o/\o.ExactDict/\o.data=.dict es ep/\es.toList=xs.map (entryOfKey (tupleKind (ag P w)))/\(xs.map (·.1)).Nodup
def DicT (P:Program) (w:World) (K:W.Frag) (H:Hp) (p:Addr) (kvs:List (List Key×Dt)):Prop :=
 (p == sysModules)=false/\∃ xs:List (List Key×Addr×Value),H p=some (.ext (xN P w p xs)) /\
  Paired (λ(a:List Key×Dt) (b:List Key×Addr×Value)=>a.1=b.1/\IsP K H (.tup (a.1.map kDt)) (.ref b.2.1)/\∃ v,RelV v b.2.2/\IsP K H a.2 v) kvs xs
section
variable {X:Cx} {pins:List (Addr×Obj)} {σ:St} {H:Hp} {s:Shared}
theorem lE (I:Inv X pins σ H s) {ks:List Key} {a:Addr} (h:IsP X.K H (.tup (ks.map kDt)) (.ref a)):IsTupleKey (ag X.prog X.w) s.heap ks a:=by
 obtain ⟨b,ys,e,ha,_,ra⟩:=h.unref
 cases e
 obtain ⟨its,r,⟨o,h1,h2,n,h3⟩,_⟩:=I.tuple ha;rw [kE ra] at r;exact ⟨o,its.toArray,n,h1,h2,h3,by simpa using gf r⟩
theorem DicT.dict {p:Addr} {kvs:List (List Key×Dt)} (I:Inv X pins σ H s) (h:DicT X.prog X.w X.K H p kvs):(p == sysModules)=false/\∃ xs:List (List Key×Addr×Value),s.heap.DictOfH (tupleKind (ag X.prog X.w)) p xs /\
  Paired (λ(a:List Key×Dt) (b:List Key×Addr×Value)=>a.1=b.1/\IsP X.K H (.tup (a.1.map kDt)) (.ref b.2.1)/\∃ v,RelV v b.2.2/\IsP X.K H a.2 v) kvs xs:=by
 obtain ⟨e0,xs,e,r⟩:=h;obtain ⟨⟨o,es,ep,h1,h2,h3,h4,h5⟩,_⟩:=(show ObjOk X.prog X.w H s.heap p (.ext (xN X.prog X.w p xs)) from I.hok p _ e);refine ⟨e0,xs,⟨o,es,ep,h1,h2,h3,h4,λy hy=>?_,h5⟩,r⟩;have all:∀ {l:List (List Key×Dt)} {m:List (List Key×Addr×Value)},Paired (λ(a:List Key×Dt) (b:List Key×Addr×Value)=>a.1=b.1/\IsP X.K H (.tup (a.1.map kDt)) (.ref b.2.1)/\∃ v,RelV v b.2.2/\IsP X.K H a.2 v) l m->∀ y∈m,IsTupleKey (ag X.prog X.w) s.heap y.1 y.2.1:=by
  intro l m q
  induction q with
  | nil=>intro y hy;exact nomatch hy
  | @cons p q ps qs hq t ih =>
   intro y hy;rcases aAb.mp hy with rfl | hy
   ·rw [<- hq.1];exact lE I hq.2.1
   ·exact ih y hy
 exact all r y hy
end
end L2
namespace PySem
open Sem (wp)
section
variable {prog:Program} {w:World} {K:Type} [DecidableEq K] {knd:HeapKind prog w K} {A:Around} {E:Value->Shared->Prop} {s:Shared}
end
end PySem
namespace L2
open PySem PySem.Spec PyProof.Rows
section
variable {X:Cx} {pins:List (Addr×Obj)} {σ:St} {H:Hp} {s:Shared}
end
theorem u2 {A:Around} (h:A.units+64 < cLine):A.units+2 < cLine:=by lia
section
variable {X:Cx} {o e f:Expr} {apos cpos:Pos} {td ty tx:TE}
end
end L2
namespace PySem
open Sem (wp)
open PyProof.Rows
section
variable {prog:Program} {w:World} {A:Around} {E:Value->Shared->Prop} {s:Shared} {δ:Type} {R:δ->Value->Prop} {h₀:Heap} {a:Addr} {D:List (Str×δ)} {k:Str} {tk:Tok}
theorem gK {Q:Option Value->Shared->Prop} (T:KTD.TabOf R h₀ a D) (kp:∀ b o,h₀.get? b=some o->s.heap.get? b=some o) (q1:∀ d v,KTD.datumAt k D=some d->R d v->Q (some v) { s with toks:=s.toks+1 })
  (q2:KTD.datumAt k D=none->Q none { s with toks:=s.toks+1 }):wpAny (model prog w) A (dictGet a (.str k tk)) Q E s:=by
 obtain ⟨_,o,es,ep,ho0,hc,hd,hr⟩:=T;have ho:=kp _ _ ho0;obtain ⟨l⟩:=es;unfold dictGet
 try with_reducible refine wpAny_holding ?_
 refine wpAny_bind (wpAny_pyHash_str (wpAny_bind (KTD.kt_dictFind_strs (s:={ s with toks:=s.toks+1 }) ho hd (by simpa using hr.exact) ?_)));have hq:Q (findBy (λk v=>v.isStr k) (Array.mk l) k) { s with toks:=s.toks+1 }:=by
  rw [show findBy (λk v=>v.isStr k) (Array.mk l) k=(l.find? λe=>e.key.isStr k).map (·.val) by simp [findBy]]
  cases hat:KTD.datumAt k D with
  | none=>rw [show (l.find? λe=>e.key.isStr k).map (·.val)=none by have:=hr.find_none hat;simpa using this];exact q2 hat
  | some d =>
   obtain ⟨v,hv,rv⟩:=hr.find_some hat;rw [show (l.find? λe=>e.key.isStr k).map (·.val)=some v from hv];exact q1 d v hat rv
 rw [findBy_of_findIdx?] at hq
 cases hi:(Array.mk l).findIdx? λe=>e.key.isStr k with
 | some i=>rw [hi] at hq;exact wpAny_bind (wpAny_dictEntries (s:={ s with toks:=s.toks+1 }) ho hd (wpAny_pure hq))
 | none=>rw [hi] at hq;exact wpAny_pure hq
theorem pQ {dflt:Value}:MeetsIn prog w (Builtin.«dict.get» ⟨[.ref a,.str k tk,dflt],[]⟩) (λ_ Rr s=>KTD.TabOf R h₀ a D/\(∀ b o,h₀.get? b=some o->s.heap.get? b=some o)/\(∀ d v,KTD.datumAt k D=some d->R d v->Rr (.ok (.ret v)) { s with toks:=s.toks+1 }) /\
  (KTD.datumAt k D=none->Rr (.ok (.ret dflt)) { s with toks:=s.toks+1 })) :=
 .of_wp λA Rr s ⟨T,kp,h1,h2⟩=>by
  show wpAny _ _ (dictGet a (.str k tk) >>= _) _ _ s;refine wpAny_bind (gK T kp (λd v ha hv=>wpAny_pure ⟨v,rfl,h1 d v ha hv⟩) λhn=>wpAny_bind (m:=Builtin.Dict.missed a (.str k tk)) (wpAny_missed_other T.1 (wpAny_pure ⟨dflt,rfl,h2 hn⟩)))
end
end PySem
namespace L2
open PySem PySem.Spec PyProof.Rows
def iM (K:W.Frag) (a:Addr) (D:List (Str×Addr)):Prop:=∀ h,K.In h->KTD.TabOf (λb v=>v=Value.ref b) h a D
theorem BO {K:W.Frag} {a:Addr} {D:List (Str×Addr)} (e:KTD.tabLook (λb v=>v == Value.ref b) (λb=>K.lookup b) a D=true):iM K a D :=
 λ_ X=>KTD.tab_of_look (L:=λb v=>v == Value.ref b) (R:=λb v=>v=Value.ref b) (λ_ _ z=>eq_of_beq z) (λb o q=>X b o q) e
def lF (K:W.Frag) (b:Addr) (ws:List Str):Bool:=match K.lookup b with
 | some o=>o.cls == .type "tuple" && (match o.data with | .seq vs _=>KTD.strsLook vs.toList ws && decide (vs.size<=1000) | _=>false)
 | none=>false
def uy (K:W.Frag) (D:List (Addr×List Str)):Bool:=D.all λp=>lF K p.1 p.2
def uz (K:W.Frag) (D:List (Addr×List Str)):Prop:=∀ p∈D,∀ H:Hp,SqT K H p.1 (p.2.map V.str)
theorem Hz {K:W.Frag} {D:List (Addr×List Str)} (e:uy K D=true):uz K D:=by
 intro p hp H;have e1:lF K p.1 p.2=true:=aAR.mp e p hp;unfold lF at e1
 split at e1
 ·rename_i o ho
  simp only [aAr] at e1;obtain ⟨e2,e3⟩:=e1
  split at e3
  ·rename_i vs n hd
   simp only [aAr] at e3;exact .inr ⟨o,vs,n,ho,eq_of_beq e2,hd,aAL (aj (of_decide_eq_true e3.2)),gi (KTD.strs_of_look e3.1)⟩
  ·cases e3
 ·cases e1
def fB (k:Str):List (Str×Addr)->Option Addr
 | []=>none
 | (x,b) :: D=>if k=x then some b else fB k D
theorem dI {k:Str}:∀ D:List (Str×Addr),KTD.datumAt k D=fB k D
 | []=>rfl
 | (x,b) :: D=>by
  show (if decide (k=x)=true then some b else KTD.datumAt k D)=_
  by_cases h:k=x
  ·simp [fB,h]
  ·simp [fB,h,dI D]
def Bd (D:List (Str×Addr)) (ty tx:TE):TE:=λσ H Q=>ty σ H λy H1=>tx σ H1 λz H2=>∃ k,y=.str k/\Q (match fB k D with | some b=>.ref b | none=>z) H2
section
variable {X:Cx}
theorem pe_kgetA {x:Str} {ad:Addr} {D:List (Str×Addr)} {e f:Expr} {ty tx:TE} {p apos cpos:Pos} (hD:iM X.K ad D) (hg:Gl X x) (hm:X.mg x=some (.ref ad)) (he:PE X e ty) (hf:PE X f tx) (m:M2 X (.Name x p) "get" apos e f cpos) (hdb:(x == ("__debug__" : Str))=false:=by decide) :
  PE X (.Call (.Attribute (.Name x p) "get" apos) [e,f] [] cpos) (Bd D ty tx):=by
 intro pins s σ H Q I h;have T:∀ {s':Shared} {σ':St} {H':Hp} {pins':List (Addr×Obj)},Inv X pins' σ' H' s'->KTD.TabOf (λb v=>v=Value.ref b) X.base ad D:=λJ=>hD _ J.ok.mod.kin;have ty0:∀ {s':Shared} {σ':St} {H':Hp} {pins':List (Addr×Obj)},Inv X pins' σ' H' s'->s'.TypeIs (.ref ad) "dict" /\(∀ b,Value.ref ad=.ref b->∃ ob,s'.heap.get? b=some ob/\ob.dict=none):=λ{s' σ' H' pins'} J=>by
  obtain ⟨_,o,_,_,ho,hc,_⟩:=T J;refine ⟨⟨o,J.bk _ _ ho,hc.1⟩,λb q=>?_⟩;injection q with q
  subst q;exact ⟨o,J.bk _ _ ho,hc.2.1⟩
 refine wpAny_Call_method_late m.base m.few m.line rfl (aU I hg hm ?_ hdb);refine ⟨"dict","dict.get",PySem.F.plainAttrs_dict,PySem.F.slot_dict_get,PySem.F.type_dict_get,(ty0 I).1,(ty0 I).2,?_⟩;rw [m.trees];refine Calls.callWith_builtin rfl (Calls.evalArgs_plain (Calls.spliced_cons (thn (he pins s σ H _ I h) λiv s2 ⟨y,H2,I2,ry,q2⟩ =>
  Calls.spliced_cons (thn (hf pins s2 σ H2 _ I2 q2) λfv s3 ⟨z,H3,I3,rz,k,ey,q3⟩=>Calls.spliced_nil ?_))))
 subst ey;obtain ⟨tk,rfl⟩:=ry;refine call_meetsIn PySem.F.slot_dict_get (ty0 I3).1 PySem.F.entry_dict_get (PySem.F.args_dict_get_3 _ _ _) (pQ (h₀:=X.base) (D:=D) (R:=λb v=>v=Value.ref b)) ⟨T I3,λb o z=>I3.bk b o z,λb v hb hv=>?_,λhn=>?_⟩
 ·subst hv;rw [<- dI,hb] at q3;exact ⟨.ref b,H3,I3.tok _,rfl,q3⟩
 ·rw [<- dI,hn] at q3;exact ⟨z,H3,I3.tok _,rz,q3⟩
end
section
variable {prog:Program} {w:World} {A:Around} {E:Value->Shared->Prop} {s:Shared}
end
section
variable {prog:Program} {w:World} {A:Around} {E:Value->Shared->Prop} {s:Shared}
end
section
variable {prog:Program} {w:World} {K:Type} [DecidableEq K] {knd:KeyKind prog w K} {A:Around} {E:Value->Shared->Prop}
end
section
variable {prog:Program} {w:World} {K:Type} [DecidableEq K] {knd:KeyKind prog w K} {A:Around} {E:Value->Shared->Prop}
end
section
variable {X:Cx}
end
section
variable {X:Cx}
theorem ps_tryN {body:List Stmt} {h0:ExceptHandler} {hs:List ExceptHandler} {pos:Pos} {t:TS} (hb:PSs X.nox body t):PS X.nox (.Try body (h0 :: hs) [] [] pos) t:=by
 intro pins s σ H D I h;refine wpAny_Try_except (wpAny_mono (hb pins s σ H D I h) (λf s1 q=>?_) (λe s1 q=>q.elim))
 cases f with
 | next=>exact wpAny_execs_nil q
 | ret u=>exact q
 | brk=>exact q
 | cont=>exact q
end
open AutoSeq1 (wpAny_loadPart')
structure ZOut (lo:Nat) (xs ys acc:Array Value) (h:Heap):Prop where
 pr:∀ (j:Nat) (e:Value),acc[j]?=some e->∃ (T:Addr) (x y:Value),e=.ref T/\lo<=T/\xs[j]?=some x/\ys[j]?=some y/\IsPair h T x y
 ij:∀ (j k:Nat) (e:Value),acc[j]?=some e->acc[k]?=some e->j=k
theorem ZOut.keep {lo:Nat} {xs ys acc:Array Value} {h h':Heap} (Z:ZOut lo xs ys acc h) (k:∀ T x y,lo<=T->IsPair h T x y->IsPair h' T x y):ZOut lo xs ys acc h' :=
 ⟨λj e hj=>by obtain ⟨T,x,y,a,b,c,d,f⟩:=Z.pr j e hj;exact ⟨T,x,y,a,b,c,d,k T x y b f⟩,Z.ij⟩
section
variable {prog:Program} {w:World} {A:Around} {E:Value->Shared->Prop} {s:Shared}
end
section
variable {prog:Program} {w:World} {A:Around} {E:Value->Shared->Prop} {s:Shared}
end
abbrev HA (x y:Value):Obj:={ cls:=.type "tuple",data:=.seq #[x,y] }
inductive RwZ (h:Heap) (lo:Nat):List V->List V->List (Addr×HO)->Prop
 | nil:RwZ h lo [] [] []
 | cons {T:Nat} {x y:Value} {v u:V} {vs us:List V} {r:List (Addr×HO)}:lo<=T->RelV v x->RelV u y->h.get? T=some (HA x y)->RwZ h lo vs us r->RwZ h lo (v :: vs) (u :: us) ((T,plO [v,u] [x,y]) :: r)
theorem RwZ.length {h:Heap} {lo:Nat} {vs us:List V} {r:List (Addr×HO)} (R:RwZ h lo vs us r):r.length=vs.length:=by
 induction R with
 | nil=>rfl
 | cons _ _ _ _ _ ih=>rw [aAs,aAs,ih]
section
variable {X:Cx}
end
end L2
namespace L2
open PySem PySem.Spec PyProof.Rows
open AutoSeq1 (wpAny_loadPart')
section
variable {prog:Program} {w:World} {A:Around} {E:Value->Shared->Prop} {s:Shared}
end
section
variable {X:Cx}
end
end L2
namespace L2
open PySem PySem.Spec PyProof.Rows
section
variable {X:Cx} {o e:Expr} {es:List Expr} {to:TE} {t:TA} {name:Str} {apos cpos:Pos} {T id:String} {r:V->List V->Hp->VK->Prop}
end
section
variable {P:Program} {w:World} {A:Around} {E:Value->Shared->Prop} {s:Shared}
end
section
variable {P:Program} {w:World} {A:Around} {R:Result->Shared->Prop} {it:Addr} {fp wr:List Addr} {G:Array GenState->Array GenState->Prop} {n:Nat} {Pt:Nat->Value->Prop} {St:Nat->Shared->Prop}
end
section
variable {P:Program} {w:World} {A:Around} {E:Value->Shared->Prop} {s:Shared}
theorem uA (a:Value) {Q₁:Value->Shared->Prop} (h:Q₁ (.ref s.heap.objs.size) { s with heap:=s.heap.push (c4 (!w.params.followText "set-order")) }) :
  codeAny (model P w) A (.call (.builtin "set.__new__") ⟨[.type "set",a],[]⟩) (wants Q₁ E) s:=by
 refine codeAny_of_tree ?_;show wpAny _ A.in1 (do checkBuiltinCall "set.__new__" ⟨[.type "set",a],[]⟩;again (.builtin "set.__new__" ⟨[.type "set",a],[]⟩)) _ _ s;refine wpAny_bind (wpAny_of_eq (PySem.F.newCall_set_1 a) (wpAny_pure ⟨plainId_quiet PySem.F.plain_set_new _,codeAny_builtin PySem.F.entry_set_new ?_⟩));rw [Around.under_plainId PySem.F.plain_set_new _];unfold Builtin.«set.__new__» Builtin.Frozenset.newClass;have hsub:=sub_set_self;obtain ⟨hp,g,d,tk,os⟩:=s;dsimp only
 wp_walk
 refine wpAny_askSetting (wpAny_pure ?_);dsimp only;simp only [newObj];exact wpAny_bind (wpAny_alloc (wpAny_pure (wpAny_pure h)))
end
section
variable {P:Program} {w:World} {A:Around} {E:Value->Shared->Prop} {s:Shared}
def SIt (h:Heap) (I a:Addr) (first:Value) (i n ep:Nat):Prop:=∃ o,h.get? I=some o/\o.cls=.type "set_iterator" /\o.data=.fields #[first,.int i 0,.ref a,.int n 0,.int ep 0]
theorem SIt.type {I a:Addr} {first:Value} {i n ep:Nat} (x:SIt s.heap I a first i n ep):s.TypeIs (.ref I) "set_iterator" :=let ⟨o,ho,hc,_⟩:=x;⟨o,ho,hc⟩
theorem SIt.at {h h':Heap} {I a:Addr} {first:Value} {i n ep:Nat} (x:SIt h I a first i n ep) (e:∀ o,h.get? I=some o->h'.get? I=some o):SIt h' I a first i n ep:=let ⟨o,ho,r⟩:=x;⟨o,e _ ho,r⟩
end
section
variable {P:Program} {w:World} {A:Around} {E:Value->Shared->Prop} {s:Shared}
end
section
variable {P:Program} {w:World} {A:Around} {E:Value->Shared->Prop} {s:Shared}
end
section
variable {P:Program} {w:World} {A:Around} {E:Value->Shared->Prop} {s:Shared}
end
section
variable {P:Program} {w:World} {A:Around} {E:Value->Shared->Prop} {s:Shared}
end
section
variable {P:Program} {w:World} {A:Around} {E:Value->Shared->Prop} {s:Shared}
end
section
variable {X:Cx}
end
def SqE:Bool->W.Frag->Hp->Addr->List V->Prop
 | true=>SqT
 | false=>SqL
theorem SqE.same {t:Bool} {K:W.Frag} {H H':Hp} {a:Addr} {xs:List V} (e:Same H H') (h:SqE t K H a xs):SqE t K H' a xs:=by
 cases t
 ·exact e.seq h
 ·exact e.tup h
theorem SqE.butD {t:Bool} {K:W.Frag} {H H':Hp} {a p:Addr} {xs:List V} {kvs:List (Key×V)} (hp:H p=some (.dK kvs)) (e:But p H H') (h:SqE t K H a xs):SqE t K H' a xs:=by
 cases t
 ·rcases h with (h | ⟨o,h⟩) | h
  ·exact .inl (.inl (e _ _ (eD h hp (by intro z;cases z)) h))
  ·exact .inl (.inr ⟨o,e _ _ (eD h hp (by intro z;cases z)) h⟩)
  ·exact .inr h
 ·rcases h with (h | ⟨o,h⟩) | h
  ·exact .inl (.inl (e _ _ (eD h hp (by intro z;cases z)) h))
  ·exact .inl (.inr ⟨o,e _ _ (eD h hp (by intro z;cases z)) h⟩)
  ·exact .inr h
section
variable {X:Cx} {elts:List Expr} {k:Nat} {tpos:Pos}
end
def DicN (K:W.Frag) (H:Hp) (p:Addr) (ns:List Str) (f:Str->Dt):Prop :=
 ∃ kvs,H p=some (.dK kvs)/\kvs.map (·.1)=ns.map (Sum.inr:Str->Key)/\∀ z∈ns,∃ v,a8 kvs (Sum.inr z:Key)=some v/\IsP K H (f z) v
theorem sF (kvs:List (Key×V)) (ns:List Str) (z:Str) (v:V) (h:kvs.map (·.1)=ns.map (Sum.inr:Str->Key)):(cZ kvs (Sum.inr z:Key) v).map (·.1)=(if z∈ns then ns else ns++[z]).map (Sum.inr:Str->Key):=by
 have ha:(kvs.any λkv=>decide (kv.1=(Sum.inr z:Key)))=decide (z∈ns):=by
  have e:(kvs.any λkv=>decide (kv.1=(Sum.inr z:Key)))=(kvs.map (·.1)).any λk=>decide (k=(Sum.inr z:Key)):=by rw [List.any_map];rfl
  rw [e,h,List.any_map,aAU];simp
 unfold cZ;rw [ha]
 by_cases hz:z∈ns
 ·rw [if_pos (by simpa using hz),if_pos hz,aAz,<- h];refine aBd λkv _=>?_;show (if kv.1=Sum.inr z then (kv.1,v) else kv).1=kv.1
  split <;> rfl
 ·rw [if_neg (by simpa using hz),if_neg hz,aA0,h,aA0]
  rfl
section
variable {X:Cx} {o e f:Expr} {apos cpos:Pos} {td ty tx:TE}
end
section
variable {X:Cx} {e st:Expr} {te tst:TE} {p2 pos:Pos}
end
end L2
namespace PySem
open Sem (wp)
def Heap.Tr (h base:Heap) (e:Addr) (cls:Value) (ws:Array Value) (fl:Value):Prop :=
 ∃ oe vs T oT ts,h.get? e=some oe/\oe.cls=cls/\oe.data=.fields vs/\(∀ i,i≠1->vs[i]?=ws[i]?)/\vs[1]?=some (.ref T)/\base.get? T=none/\T≠e/\h.get? T=some oT/\oT.data=.fields ts/\ts[3]?=some fl
def Heap.Fl (base:Heap) (l:List Env) (e:Addr) (cls:Value) (ws:Array Value) (fl:Value) (h:Heap):Prop :=
 base.StaysIn h/\base.get? e=none/\h.FunFrames base l/\h.Tr base e cls ws fl
theorem Heap.Fl.flying {base h:Heap} {l:List Env} {e:Addr} {cls a0:Value} {ws:Array Value} (x:Heap.Fl base l e cls ws .none h) (h0:ws[0]?=some a0):Heap.FlyingW base l e cls a0 h:=by
 obtain ⟨k1,k2,k3,oe,vs,T,oT,ts,he,hc,hd,hk,r⟩:=x;exact ⟨k1,k2,k3,oe,vs,T,oT,ts,he,⟨hc,by rw [hk 0 (by decide)];exact h0⟩,hd,r⟩
section
variable {M:Model} {A:Around} {E:Value->Shared->Prop} {s:Shared}
theorem iN {base:Heap} {env:Env} {outer:List Env} {L e:Addr} {oe:Obj} {vs ws:Array Value} {head:Value} {hadNext:Bool} {Q:Unit->Shared->Prop}
  (hfr:A.frames=some (env :: outer)) (hl:s.heap.FunFrames base (env :: outer)) (hf:env.frame=some L)
  (he:s.heap.get? e=some oe) (hkb:base.StaysIn s.heap) (hen:base.get? e=none) (hd:oe.data=.fields vs) (hsz:1 < vs.size) (hw:∀ i,i≠1->vs[i]?=ws[i]?)
  (h:∀ h',Heap.Fl base (env :: outer) e oe.cls ws (rawInt L) h'->s.heap.UpToSlots h'->Q () { s with heap:=h' }) :
  wpAny M A (do let a <- frameOf env;let pl <- entryPlaceOf L hadNext;let b <- EntryCells.newEntry head a .none (rawInt L) .none pl;setField (.ref e) 1 b) Q E s:=by
 have nf:e∉(env :: outer).filterMap (·.frame):=λhm=>by
  obtain ⟨_,o,ho,hn⟩:=hl.mem hm;rw [he] at ho
  cases ho
  exact hn vs hd
 refine wpAny_bind (wpAny_frameOf_fun hfr hl hf λh1 hs1=>?_);refine wpAny_bind (wpAny_entryPlaceOf λpl hpl=>?_);unfold EntryCells.newEntry newFields;refine wpAny_bind (wpAny_newObj_type ?_ (hpl.sizeOk5 _ _ _ _ _))
 generalize hts:([head,Value.ref L,Value.none,rawInt L,Value.none]++(if pl.isEmpty then List.replicate 6 Value.none else pl)).toArray=ts
 have h3:ts[3]?=some (rawInt L):=by rw [<- hts];simp
 have he1:h1.get? e=some oe:=(hs1.2.1 e nf).trans he;have he2:=aAa (h:=h1) { cls:=.type "traceback",dict:=none,data:=.fields ts } he1;have hT2:(h1.push { cls:=.type "traceback",dict:=none,data:=.fields ts }).get? h1.objs.size=some { cls:=.type "traceback",dict:=none,data:=.fields ts }:=aAf h1 rfl;have hTe:h1.objs.size≠e:=aAT (aAd he1);have kb1:base.StaysIn h1:=λb o hbo=>(hs1.2.1 b λhm=>by rw [(hl.mem hm).1] at hbo;cases hbo).trans (hkb b o hbo);have old:∀ b o,b≠e->h1.get? b=some o->((h1.push { cls:=.type "traceback",dict:=none,data:=.fields ts }).update e (Obj.mapFields (·.setIfInBounds 1 (Value.ref h1.objs.size)))).get? b=some o:=λb o ne hb=>(aAG _ _ (Ne.symm ne)).trans (aAa _ hb);have nrec:∀ b o,s.heap.get? b=some o->(∀ vs,o.data≠.fields vs)->b≠e:=λb o hb hn q=>by
  subst q;rw [he] at hb
  cases hb
  exact hn vs hd
 have up:∀ b o,s.heap.get? b=some o->(∀ vs,o.data≠.fields vs)->∃ sl,((h1.push { cls:=.type "traceback",dict:=none,data:=.fields ts }).update e (Obj.mapFields (·.setIfInBounds 1 (Value.ref h1.objs.size)))).get? b=some { o with slots:=sl }:=λb o hb hn=>by
  obtain ⟨sl,q⟩:=hs1.2.2 b o hb;exact ⟨sl,old b _ (nrec b o hb hn) q⟩
 have hd3:=Obj.data_mapFields hd (·.setIfInBounds 1 (Value.ref h1.objs.size));refine wpAny_setField he2 hd hsz (h _ ⟨λb o hbo=>old b o (λq=>by rw [q,hen] at hbo;cases hbo) (kb1 b o hbo),hen,hl.of_keeps λb o hb hn=>?_,?_⟩ up)
 ·obtain ⟨sl,q⟩:=up b o hb hn;exact ⟨_,q,rfl⟩
 ·refine ⟨_,_,h1.objs.size,_,ts,aAJ _ he2 (Obj.isFreed_of_fields hd3),Obj.cls_mapFields _ _,hd3,λi hi=>?_,?_,kb1.fresh,hTe,(aAG _ _ (Ne.symm hTe)).trans hT2,rfl,h3⟩
  ·rw [Array.getElem?_setIfInBounds_ne (Ne.symm hi)];exact hw i hi
  ·simp [hsz]
theorem cR {base:Heap} {l:List Env} {e:Addr} {cls fl:Value} {ws:Array Value} {fr:Option Addr} {Q:Unit->Shared->Prop} (x:Heap.Fl base l e cls ws fl s.heap)
  (h:∀ h',Heap.Fl base l e cls ws (fr.elim Value.none λf=>rawInt f) h'->s.heap.UpToSlots h'->Q () { s with heap:=h' }):wpAny M A (setFlight (.ref e) fr) Q E s:=by
 obtain ⟨k1,k2,k3,oe,vs,T,oT,ts,he,hc,hd,hk,h1,hnT,hTe,hT,hdT,h3⟩:=x;have hz:3 < ts.size:=(aAS.mp h3).1;have oth:∀ b,b≠T->(s.heap.update T (Obj.mapFields (·.setIfInBounds 3 (fr.elim Value.none λf=>rawInt f)))).get? b=s.heap.get? b:=λb hb=>aAG _ _ (Ne.symm hb);have nrec:∀ b o,s.heap.get? b=some o->(∀ vs,o.data≠.fields vs)->b≠T:=λb o hb hn q=>by
  subst q;rw [hT] at hb
  cases hb
  exact hn ts hdT
 have hd3:=Obj.data_mapFields hdT (·.setIfInBounds 3 (fr.elim Value.none λf=>rawInt f));unfold setFlight;refine wpAny_bind (wpAny_field he hd h1 ?_);rw [if_pos (show (Value.ref T != Value.none)=true from by simp)];refine wpAny_setField hT hdT hz (h _ ⟨λb o hbo=>(oth b λq=>by rw [q,hnT] at hbo;cases hbo).trans (k1 b o hbo),k2,k3.of_keeps λb o hb hn=>⟨o,(oth b (nrec b o hb hn)).trans hb,rfl⟩,?_⟩ λb o hb hn=>⟨o.slots,(oth b (nrec b o hb hn)).trans hb⟩);exact ⟨oe,vs,T,_,_,(oth e (Ne.symm hTe)).trans he,hc,hd,hk,h1,hnT,hTe,aAJ _ hT (Obj.isFreed_of_fields hd3),hd3,by simp [hz]⟩
theorem wM {base:Heap} {env:Env} {outer:List Env} {L e:Addr} {cls:Value} {ws:Array Value} {Q:Unit->Shared->Prop} (hfr:A.frames=some (env :: outer)) (hf:env.frame=some L) (x:Heap.Fl base (env :: outer) e cls ws .none s.heap)
  (h:∀ h',Heap.Fl base (env :: outer) e cls ws (rawInt L) h'->s.heap.UpToSlots h'->Q () { s with heap:=h' }):wpAny M A (noteFrame (.ref e) env) Q E s:=by
 obtain ⟨k1,k2,k3,oe,vs,T,oT,ts,he,hc,hd,hk,h1,hnT,hTe,hT,hdT,h3⟩:=x;have hz:3 < ts.size:=(aAS.mp h3).1;have oth:∀ b,b≠T->(s.heap.update T (Obj.mapFields (·.setIfInBounds 3 Value.none))).get? b=s.heap.get? b:=λb hb=>aAG _ _ (Ne.symm hb);have nrec:∀ b o,s.heap.get? b=some o->(∀ vs,o.data≠.fields vs)->b≠T:=λb o hb hn q=>by
  subst q;rw [hT] at hb
  cases hb
  exact hn ts hdT
 subst hc;unfold noteFrame;simp only [hf];refine wpAny_bind (wpAny_field he hd h1 ?_);rw [if_pos (show (Value.ref T != Value.none)=true from by simp)];refine wpAny_bind (wpAny_field hT hdT h3 ?_);rw [if_neg (show ¬ ((Value.none == rawInt L)=true) from by simp [rawInt])];refine wpAny_bind (wpAny_setField hT hdT hz ?_);refine iN (s:={ s with heap:=s.heap.update T (Obj.mapFields (·.setIfInBounds 3 Value.none)) }) hfr (k3.of_keeps λb o hb hn=>⟨o,(oth b (nrec b o hb hn)).trans hb,rfl⟩) hf ((oth e (Ne.symm hTe)).trans he)
  (λb o hbo=>(oth b λq=>by rw [q,hnT] at hbo;cases hbo).trans (k1 b o hbo)) k2 hd (aAS.mp h1).1 hk λh' x' u=>h h' x' λb o hb hn=>u b o ((oth b (nrec b o hb hn)).trans hb) hn
theorem wN {base:Heap} {env:Env} {outer:List Env} {L e:Addr} {oe:Obj} {vs:Array Value} {Q:Unit->Shared->Prop} (hfr:A.frames=some (env :: outer)) (hf:env.frame=some L) (hl:s.heap.FunFrames base (env :: outer))
  (he:s.heap.get? e=some oe) (hkb:base.StaysIn s.heap) (hen:base.get? e=none) (hd:oe.data=.fields vs) (h1:vs[1]?=some .none)
  (h:∀ h',Heap.Fl base outer e oe.cls vs .none h'->s.heap.UpToSlots h'->Q () { s with heap:=h' }):wpAny M A (leaving env (.ref e)) Q E s:=by
 unfold leaving noteFrame;simp only [hf];refine wpAny_bind (wpAny_bind (wpAny_field he hd h1 ?_));rw [if_neg (by decide)];refine iN (ws:=vs) hfr hl hf he hkb hen hd (aAS.mp h1).1 (λ_ _=>rfl) λh2 x2 u2=>?_;refine cR (s:={ s with heap:=h2 }) (fr:=none) x2 λh3 x3 u3=>?_;obtain ⟨k1,k2,⟨_,_,k3⟩,k4⟩:=x3;exact h h3 ⟨k1,k2,k3,k4⟩ (u2.trans u3)
end
end PySem
namespace PySem
open Sem (wp)
theorem jB:entryFor table "proto.unchain" = some Builtin.«proto.unchain»:=entryFor_of_tree (by kernel_rfl)
section
variable {prog:Program} {w:World} {A:Around} {E:Value->Shared->Prop} {s:Shared} {env:Env}
variable {nm q:Str} {C N:Addr} {bs bm bmB:List Value} {hdct:Bool} {sn:List Str} {sub:List Value} {ab:Bool} {col:Option Bool} {dd:Option Addr} {k0 k1 k2 k3 k5:Option Value} {B newId initId:String}
theorem pR {x c:Sem Value} {Q:Flow->Shared->Prop} {ea:Addr} (hbase:bm.contains (.type "BaseException")=true) (hh:A.handled=some (.ref ea))
  (hc:∀ {s:Shared} {Q:Value->Shared->Prop},Q .none s->wpAny (model prog w) A c Q E s)
  (h:wpAny (model prog w) A x (λv s₁=>∃ e t oa wa,v=.ref e/\s₁.heap.get? C=some (excClassObj nm q C N bs bm hdct sn sub ab col dd k0 k1 k2 k3 k5 newId)/\e≠C/\e≠ea/\s₁.heap.get? ea=some oa/\oa.data=.fields wa/\wa[2]?=some .none /\
   s₁.heap.get? e=some { cls:=.ref C,data:=.fields #[.ref t,.none,.none,.none,.bool false,.none] } /\
   ∀ h',(∀ b,b≠e->h'.get? b=s₁.heap.get? b)->h'.get? e=some { cls:=.ref C,data:=.fields #[.ref t,.none,.ref ea,.none,.bool true,.none] }->E (.ref e) { s₁ with heap:=h' }) E s) :
  wpAny (model prog w) A (raiseStmt env (some x) (some c)) Q E s:=by
 have hcB:(Value.ref C :: bm).contains (.type "BaseException")=true:=by rw [List.contains_cons,hbase,Bool.or_true]
 unfold raiseStmt;refine wpAny_bind (wpAny_mono h (λv s₁ h₁=>?_) λ_ _ x=>x);obtain ⟨e,t,oa,wa,rfl,hC,neC,neA,ha,hda,h2,he,hE⟩:=h₁;obtain ⟨hp,g,d,tk,os⟩:=s₁;refine wpAny_bind (wpAny_holding (hc ?_))
 repeat (first | with_reducible refine wpAny_loadPart_at he ?_ | with_reducible refine wpAny_loadPart_at hC ?_ | (with_reducible refine wpAny_isSubtype_exc hC ?_;rw [hcB]) | wp_step)
 unfold raiseNew;refine wpAny_bind (wpAny_handled ?_);rw [hh];have bne:(Value.ref ea != Value.ref e)=true:=by simp [Ne.symm neA]
 dsimp only;rw [if_pos bne];have he3:=aAJ (Obj.mapFields (·.setIfInBounds 3 Value.none)) he rfl;have he4:=aAJ (Obj.mapFields (·.setIfInBounds 4 (Value.bool true))) he3 rfl;have oth:∀ b,b≠e->((hp.update e (Obj.mapFields (·.setIfInBounds 3 Value.none))).update e (Obj.mapFields (·.setIfInBounds 4 (Value.bool true)))).get? b=hp.get? b:=λb hb=>(aAG _ _ (Ne.symm hb)).trans (aAG _ _ (Ne.symm hb));have ha4:=(oth ea (Ne.symm neA)).trans ha
 generalize (hp.update e (Obj.mapFields (·.setIfInBounds 3 Value.none))).update e (Obj.mapFields (·.setIfInBounds 4 (Value.bool true)))=h4 at he4 oth ha4 ⊢
 refine wpAny_bind (wpAny_holding (wpAny_runValue (codeAny_builtin jB ?_)));unfold Builtin.«proto.unchain»;refine wpAny_bind (wpAny_field ha4 hda h2 ?_);have fin:wpAny (model prog w) A (do updateField e 2 (Value.ref ea);throw (Value.ref e)) Q E { heap:=h4,gens:=g,drawn:=d,toks:=tk,os:=os }:=by
  refine wpAny_bind ?_;show wpAny (model prog w) A (setField (.ref e) 2 (Value.ref ea)) _ _ _;refine wpAny_setField he4 rfl (by show 2 < 6;decide) (wpAny_throw ?_);exact hE _ (λb hb=>(aAG _ _ (Ne.symm hb)).trans (oth b hb)) (aAJ _ he4 rfl)
 repeat (first | exact fin | wp_step)
end
end PySem
namespace L2
open PySem PySem.Spec PyProof.Rows
def FlyG (P:Program) (w:World) (ws:Array Value):CXT:=λouter H s E e s'=>∃ (ea C:Addr) (B:Heap) (H':Hp),e=.ref ea/\Heap.Fl B outer ea (.ref C) ws .none s'.heap/\s'.os=s.os/\AllBare s'.gens/\Un (frs outer) [] H H' s.heap s'.heap/\HOk P w H' B /\
 (∀ b o,s.heap.get? b=some o->H b=none->b∉frs outer->B.get? b=some o)/\(∀ b o,s.heap.get? b=some o->b∉frs outer->∃ o',B.get? b=some o')/\E (.ref C) none H'
def jC (P:Program) (w:World):CXT:=λouter H s E e s'=>∃ ws a0,ws[0]?=some a0/\ws[2]?=some .none/\FlyG P w ws outer H s E e s'
theorem FlyG.cxe {P:Program} {w:World} {ws:Array Value} {a0:Value} {outer:List Env} {H:Hp} {s s':Shared} {E:XK} {e:Value} (h:FlyG P w ws outer H s E e s') (h0:ws[0]?=some a0):CXE P w outer H s E e s':=by
 obtain ⟨ea,C,B,H',rfl,fl,r⟩:=h;exact ⟨ea,C,a0,B,H',rfl,fl.flying h0,r⟩
def uB (X:Cx) (E:XK):Prop:=X.xe=λe s'=>wpAny (model X.prog X.w) X.A (leaving X.env e) (λ_ s''=>jC X.prog X.w X.outer X.H₀ X.s₀ E e s'') (λe' s''=>jC X.prog X.w X.outer X.H₀ X.s₀ E e' s'') s'
section
variable {X:Cx} {pins:List (Addr×Obj)} {σ:St} {H:Hp} {s:Shared}
theorem kF (hstk:X.stack=X.env :: X.outer) (I:Inv X pins σ H s) {h':Heap} {ea:Addr} (kp:∀ b o,s.heap.get? b=some o->h'.get? b=some o) (hn:s.heap.get? ea=none) :
  (W.hideAll s.heap (frs (X.env :: X.outer))).StaysIn h'/\(W.hideAll s.heap (frs (X.env :: X.outer))).get? ea=none/\h'.FunFrames (W.hideAll s.heap (frs (X.env :: X.outer))) (X.env :: X.outer):=by
 have F0:s.heap.FunFrames X.base (X.env :: X.outer):=by rw [<- hstk];exact I.stack
 have hin:∀ env∈(X.env :: X.outer),∀ b,env.frame=some b->b∈frs (X.env :: X.outer):=λenv he b hb=>aAn.mpr ⟨env,he,hb⟩;refine ⟨λb o e=>kp b o (W.of_hideAll _ e),?_,(W.funFrames_hide F0 hin).of_keeps λb o hb _=>⟨o,kp b o hb,rfl⟩⟩
 cases hq:(W.hideAll s.heap (frs (X.env :: X.outer))).get? ea with
 | none=>rfl
 | some o =>
  have:=W.of_hideAll _ hq;rw [hn] at this
  cases this
theorem nB {E:XK} {C ea:Addr} {h' h2:Heap} {ws:Array Value} {tk:Nat} (hstk:X.stack=X.env :: X.outer) (hfr:X.env.frame=some X.env.locals) (hex:X.ex=[]) (I:Inv X pins σ H s) (kp:∀ b o,s.heap.get? b=some o->h'.get? b=some o)
  (fl:Heap.Fl (W.hideAll s.heap (frs (X.env :: X.outer))) X.outer ea (.ref C) ws .none h2) (up:h'.UpToSlots h2) (q:E (.ref C) none H):FlyG X.prog X.w ws X.outer X.H₀ X.s₀ E (.ref ea) { s with heap:=h2,toks:=tk }:=by
 have F0:s.heap.FunFrames X.base (X.env :: X.outer):=by rw [<- hstk];exact I.stack
 have mem:∀ b∈frs X.outer,b∈frs (X.env :: X.outer):=λb hb=>by
  obtain ⟨env,he,hf⟩:=aAn.mp hb;exact aAn.mpr ⟨env,aAj _ he,hf⟩
 have inv:∀ b,b∈frs (X.env :: X.outer)->b=X.env.locals\/b∈frs X.outer:=λb hb=>by
  obtain ⟨env,he,hf⟩:=aAn.mp hb;rcases aAb.mp he with rfl | he
  ·rw [hfr] at hf;exact .inl (Option.some.inj hf).symm
  ·exact .inr (aAn.mpr ⟨env,he,hf⟩)
 have stayB:∀ b o,s.heap.get? b=some o->b∉frs (X.env :: X.outer)->(W.hideAll s.heap (frs (X.env :: X.outer))).get? b=some o:=λb o e n=>W.hideAll_get _ e n;have old:∀ b o,X.s₀.heap.get? b=some o->b∉frs X.outer->b∉frs (X.env :: X.outer):=λb o e n z=>by
  rcases inv b z with rfl | z
  ·exact absurd (aAi (aAd e) I.ok.above) (aAE _)
  ·exact n z
 have B0:Un X.fs [] X.H₀ H X.s₀.heap s.heap:=by have z:=I.base;rw [hex] at z;exact z
 have c1:∀ b o,X.s₀.heap.get? b=some o->X.H₀ b=none->b∉frs X.outer->(W.hideAll s.heap (frs (X.env :: X.outer))).get? b=some o:=λb o e n hb=>stayB b o (B0.keep b o e n hb (by simp)) (old b o e hb);have c2:∀ b o,X.s₀.heap.get? b=some o->b∉frs X.outer->∃ o',(W.hideAll s.heap (frs (X.env :: X.outer))).get? b=some o':=λb o e hb=>by
  obtain ⟨o',e'⟩:=B0.there b o e (by simp);exact ⟨o',stayB b o' e' (old b o e hb)⟩
 refine ⟨ea,C,_,H,rfl,fl,I.os,I.bare,cF B0 c1 c2 fl.1 λb o e hb=>?_,λb u e=>?_,c1,c2,q⟩
 ·obtain ⟨sl,e1⟩:=B0.slot b o e (I.ok.frf b hb) hb (by simp);obtain ⟨o2,e2,nf⟩:=bP F0 (mem b hb);rw [e1] at e2;obtain rfl:=Option.some.inj e2;obtain ⟨sl2,e3⟩:=up b _ (kp b _ e1) nf;exact ⟨sl2,e3⟩
 ·refine (I.hok b u e).stay (λc v hc z=>stayB c v z λhf=>?_) (λ_ z=>z) λ_ _ z=>z;have n0:H c=none:=by rw [<- hstk] at hf;exact I.stkFree c hf
  rcases hc with rfl | hc
  ·rw [e] at n0;cases n0
  ·rw [hc] at n0;cases n0
theorem sG {E:XK} {C:Addr} {ea:Addr} {vs:List Value} {h':Heap} {tk:Nat} (hx:uB X E) (hstk:X.stack=X.env :: X.outer) (hfr:X.env.frame=some X.env.locals) (hex:X.ex=[]) (I:Inv X pins σ H s) (hm:Heap.MadeExcOf s.heap h' ea (.ref C) vs)
  (q:E (.ref C) none H):X.xe (.ref ea) { s with heap:=h',toks:=tk }:=by
 rw [hx];have fr0:X.A.frames=some (X.env :: X.outer):=by rw [<- hstk];exact I.ok.frames
 obtain ⟨k1,k2,k3⟩:=kF hstk I hm.keeps hm.new;obtain ⟨t,ht,_⟩:=hm.there;refine wN (s:={ s with heap:=h',toks:=tk }) fr0 hfr k3 ht k1 k2 rfl rfl λh2 fl up=>?_;exact ⟨_,_,rfl,rfl,nB (s:=s) (tk:=tk) hstk hfr hex I hm.keeps fl up q⟩
theorem ps_raise2 {E:XK} {x:Str} {C:Addr} {e:Expr} {es:List Expr} {t:TA} {np cpos pos:Pos} (hx:uB X E) (hstk:X.stack=X.env :: X.outer) (hfr:X.env.frame=some X.env.locals) (hex:X.ex=[]) (hc:X.calm=true) (G:ExC X.K X.mg x C) (hg:Gl X x) (ha:PA X (e :: es) t)
  (hdb:(x == ("__debug__" : Str))=false:=by decide) (he:starEach (e :: es) X.env=(false,eval e X.env) :: starEach es X.env:=by rfl) (hpl:(backTo cpos (starEach es X.env)).any (·.1)=false:=by rfl) :
  PS X (.Raise (some (.Call (.Name x np) (e :: es) [] cpos)) none pos) (pJ C E t):=by
 intro pins s σ H D I h;obtain ⟨bm,N,nm,qn,bs,hd,sn,sub,ab,col,dd,k0,k1,k2,k3,k5,mN,hC,hN,hni,T⟩:=ik I.ok.mod.kin G.q;refine wpAny_Raise_call_subT (C:=C) (nm:=nm) (q:=qn) (N:=N) (bs:=bs) (bm:=bm) (hdct:=hd) (sn:=sn) (sub:=sub) (ab:=ab) (col:=col) (dd:=dd) (k0:=k0) (k1:=k1) (k2:=k2) (k3:=k3) (k5:=k5) F.excBase_ValueError (mN:=mN) (T.hasType F.excBase_ValueError.hasBase) (I.ok.hd hc)
  (by rw [he];show (false || (backTo cpos (starEach es X.env)).any (·.1))=false;rw [hpl];rfl) hni (aU I hg G.m ⟨rfl,?_⟩ hdb)
 have z:=ha cpos pins s σ H _ I h;rw [he] at z ⊢;refine Calls.evalArgs_plain (wpAny_mono z (λus s2 ⟨vs,H2,I2,r,hz,q⟩=>?_) λ_ _ y=>y);refine ⟨rfl,by show us.length<=sizeLine;rw [<- r.length];exact hz,I2.bk _ _ hC,hN.keeps I2.bk,T.keeps I2.bk,λh' ea hm=>?_⟩;exact sG (tk:=s2.toks) hx hstk hfr hex I2 hm q
def PX2 (X:Cx) (e:Expr) (t:TX):Prop :=
 ∀ (pins:List (Addr×Obj)) (s:Shared) (σ:St) (H:Hp) (Q:VK) (E:XK),Inv X pins σ H s->t σ H Q E ->
  wpAny (model X.prog X.w) X.A (eval e X.env) (EP X pins σ Q) (λex s'=>∃ H1 s1,Inv X pins σ H1 s1/\jC X.prog X.w X.stack H1 s1 E ex s') s
theorem px_call2 {k:Nat} {f:Addr} {fd:FuncData} {ps:List Str} {sp:Sp} {x:Str} {p pos:Pos} {e:Expr} {es:List Expr} {t:TA} (F:FnOk X.prog X.w X.K X.mg X.base (jC X.prog X.w) k f fd ps sp) (hr:Room k X.A) (hg:Gl X x) (hm:X.mg x=some (.ref f))
  (hk:W.keepIn X.K (.ref f)=true) (hb:Binds X.K fd ps []) (ha:PA X.nox (e :: es) t) (hdb:(x == ("__debug__" : Str))=false:=by decide) (he:starEach (e :: es) X.env=(false,eval e X.env) :: starEach es X.env:=by rfl)
  (hpl:(backTo pos (starEach es X.env)).any (·.1)=false:=by rfl):PX2 X (.Call (.Name x p) (e :: es) [] pos) (λσ H Q E=>t σ H λvs H1=>sp vs H1 Q E):=by
 intro pins s σ H Q E I h;refine wpAny_Call_Name_kw (aU I hg hm ?_ hdb);refine W.callWith_K (h₀:=X.base) I.ok.mod.kin hk (wpAny_mono (ha pos pins s σ H _ (I.wish _) h) (λus s1 ⟨vs,H1,I1',r,q⟩=>?_) λ_ _ z=>z.elim) he hpl;have I1:Inv X pins σ H1 s1:=Inv.unwish I1';refine ⟨I1.kIn,?_⟩;have hl:us.length=ps.length:=by rw [<- r.length];exact F.len _ _ _ _ q
 have hb':BindsTo s1 fd ⟨us,[]⟩ (ps.zip us):=by
  have z:=hb s1 us I1.kIn (by rw [aA4];exact hl)
  rwa [aA4] at z
 refine wpAny_call (codeAny_mono (F.run X.A X.stack s1 H1 ⟨us,[]⟩ us vs Q E hr I1.env0 hb' r q) λrr s' hq=>?_)
 cases rr with
 | error ex=>exact ⟨H1,s1,I1,hq⟩
 | ok fl =>
  cases fl with
  | ret u=>exact I1.after hq
  | next=>exact False.elim hq
  | brk=>exact False.elim hq
  | cont=>exact False.elim hq
end
theorem Fun.okE2 {P:Program} {w:World} {K:W.Frag} {mg:Str->Option Value} {base:Heap} {x qual:Str} {st:Stmt} {f:Addr} {fd:FuncData} {N ps:List Str} {k:Nat} {sp:Sp} (F:Fun K x qual st f fd) (S:FnScope N ps (aa st)) (len:∀ vs H Q E,sp vs H Q E->vs.length=ps.length)
  (hbody:∀ (cdv:Value) (A:Around) (outer:List Env) (s:Shared) (H:Hp) (vs:List V) (Q:VK) (E:XK),Room k (A.deeper (envOfC qual (aa st) s.heap.objs.size f cdv))->sp vs H Q E ->
   ∃ t,PSs (gQ (jC P w) P w K mg base N qual (aa st) f cdv A outer s H E) (br st) t/\t { nx:=λ_ H'=>Q .non H',rt:=Q } (dF N vs) H):FnOk P w K mg base (jC P w) (k+1) f fd ps sp:=by
 obtain ⟨oc,od,kV,doc,pm,an,cdv,ct,osl,rfl,lk,hcd⟩:=F.ex;exact qF lk hcd S len λA outer s H vs Q E hr hsp=>hbody cdv A outer s H vs Q E hr hsp
theorem xeOf2 {P:Program} {w:World} {K:W.Frag} {mg:Str->Option Value} {base:Heap} {N:List Str} {qual:Str} {scope:Scope} {f:Addr} {cd:Value} {A:Around} {outer:List Env} {s:Shared} {H:Hp} {E:XK} :
  uB (gQ (jC P w) P w K mg base N qual scope f cd A outer s H E) E:=rfl
end L2
namespace PySem
open Sem (wp)
section
variable {prog:Program} {w:World} {A:Around} {E:Value->Shared->Prop} {s:Shared} {env:Env}
variable {nm q:Str} {C N:Addr} {bs bm bmB:List Value} {hdct:Bool} {sn:List Str} {sub:List Value} {ab:Bool} {col:Option Bool} {dd:Option Addr} {k0 k1 k2 k3 k5:Option Value} {B newId initId:String}
theorem gX (F:ExcBaseFacts B newId initId bmB) {mN:Str->Option Value} {x:Str} {np cpos pos cp:Pos} {j:Nat} {args:List Expr} {Q:Flow->Shared->Prop} {ea:Addr}
  (hbase:bm.contains (.type "BaseException")=true) (hh:A.handled=some (.ref ea)) (hplain:(backTo cpos (starEach args env)).any (·.1)=false) (hni:mN "__init__" = none)
  (h:wpAny (model prog w) A (eval (.Name x np) env) (λf s₁=>f=.ref C/\wpAny (model prog w) A (evalArgs (.ref C) true (backTo cpos (starEach args env)) [])
   (λa s₂=>a.kw=[]/\a.pos.length<=sizeLine/\s₂.heap.get? C=some (excClassObj nm q C N bs bm hdct sn sub ab col dd k0 k1 k2 k3 k5 newId)/\s₂.heap.Ns N mN/\OwnTail s₂.heap bmB bm/\(∃ oa wa,s₂.heap.get? ea=some oa/\oa.data=.fields wa/\wa[2]?=some .none) /\
    ∀ h' e t,(∀ b o,s₂.heap.get? b=some o->h'.get? b=some o)->s₂.heap.get? e=none->h'.get? e=some { cls:=.ref C,data:=.fields #[.ref t,.none,.ref ea,.none,.bool true,.none] }->E (.ref e) { s₂ with heap:=h' }) E s₁) E s) :
  wpAny (model prog w) A (exec (.Raise (some (.Call (.Name x np) args [] cpos)) (some (.Constant .none j cp)) pos) env) Q E s:=by
 rw [arm_exec_Raise];refine wpAny_bind (wpAny_standAt ?_);refine pR (C:=C) (nm:=nm) (q:=q) (N:=N) (bs:=bs) (bm:=bm) (hdct:=hdct) (sn:=sn) (sub:=sub) (ab:=ab) (col:=col) (dd:=dd) (k0:=k0) (k1:=k1) (k2:=k2) (k3:=k3) (k5:=k5) (newId:=newId) hbase hh (λq=>wpAny_bind (wpAny_Constant_none (wpAny_bind (wpAny_standAt (wpAny_pure q))))) ?_;refine wpAny_bind (wpAny_mono (wpAny_Call_ofName (wpAny_mono h (λf s₁ h₁=>?_) λ_ _ x=>x)) (λv s₃ h₃=>wpAny_bind (wpAny_standAt (wpAny_pure h₃))) λ_ _ x=>x);obtain ⟨rfl,h₁⟩:=h₁;unfold callWith;refine wpAny_bind (wpAny_holding (wpAny_mono h₁ (λa s₂ h₂=>wpAny_bind (wpAny_standAt ?_)) λ_ _ x=>x));obtain ⟨apos,akw⟩:=a;obtain ⟨hkw,hlen,hC,hn,T,⟨oa,wa,ha,hda,h2⟩,h₂⟩:=h₂;obtain rfl:akw=[]:=hkw;obtain ⟨hp,g,d,tk,os⟩:=s₂;simp only [hplain];refine wpAny_bind (wpAny_keeperOf_exc hC ?_);refine wpAny_bind (wpAny_call_exc_subT (hrest:=hlen) F T hC hn hni λh' e hm=>wpAny_bind (wpAny_holding (wpAny_point (wpAny_pure ?_))));obtain ⟨t,ht,_,_⟩:=hm.there;have ne:∀ {b:Addr} {o:Obj},hp.get? b=some o->e≠b:=λ{b o} hb c=>by
  subst c;have:=hm.new;rw [show Heap.get? hp e=some o from hb] at this
  cases this
 exact ⟨e,t,oa,wa,rfl,hm.keeps _ _ hC,ne hC,ne ha,hm.keeps _ _ ha,hda,h2,ht,λh'' ho he=>h₂ h'' e t (λb o hb=>(ho b (ne hb).symm).trans (hm.keeps b o hb)) hm.new he⟩
theorem wO {M:Model} {A':Around} {base:Heap} {outer:List Env} {L e:Addr} {oe:Obj} {vs:Array Value} {E2:Value->Shared->Prop} (hfr:A.frames=some (env :: outer)) (hfr':A'.frames=some (env :: outer)) (hf:env.frame=some L) (hl:s.heap.FunFrames base (env :: outer))
  (he:s.heap.get? e=some oe) (hkb:base.StaysIn s.heap) (hen:base.get? e=none) (hd:oe.data=.fields vs) (h1:vs[1]?=some .none)
  (hE:∀ s',E2 (.ref e) s'->E (.ref e) s')
  (h:∀ h',Heap.Fl base (env :: outer) e oe.cls vs (rawInt L) h'->s.heap.UpToSlots h'->E2 (.ref e) { s with heap:=h' }):notedBy M A' env (λx s2=>cameBackBy M A env E x s2) (.ref e) s:=by
 unfold notedBy noteFrame;simp only [hf];refine wpAny_bind (wpAny_field he hd h1 ?_);rw [if_neg (by decide)];refine iN (ws:=vs) hfr' hl hf he hkb hen hd (aAS.mp h1).1 (λ_ _=>rfl) λh2 x2 u2=>?_;have x2':=x2;obtain ⟨k1,k2,k3,oe2,vs2,T,oT,ts,he2,hc2,hd2,hk2,hh1,_⟩:=x2';unfold cameBackBy;refine wpAny_bind (wpAny_field (s:={ s with heap:=h2 }) he2 hd2 hh1 ?_);rw [if_neg (show ¬ ((Value.ref T == Value.none)=true) from by simp)];refine cR (s:={ s with heap:=h2 }) (fr:=env.frame) x2 λh3 x3 u3=>hE _ (h h3 ?_ (u2.trans u3));rw [hf] at x3;exact x3
end
end PySem
namespace L2
open PySem PySem.Spec PyProof.Rows
section
variable {X:Cx} {pins:List (Addr×Obj)} {σ:St} {H:Hp} {s:Shared}
theorem uC {E:XK} {C ea:Addr} {h' h2:Heap} {ws:Array Value} {a0:Value} {s':Shared} (hx:ud X E) (hstk:X.stack=X.env :: X.outer) (hfr:X.env.frame=some X.env.locals) (hex:X.ex=[]) (I:Inv X pins σ H s) (kp:∀ b o,s.heap.get? b=some o->h'.get? b=some o)
  (h0:ws[0]?=some a0) (es:s'={ s with heap:=h2 }) (fl:Heap.Fl (W.hideAll s.heap (frs (X.env :: X.outer))) (X.env :: X.outer) ea (.ref C) ws (rawInt X.env.locals) h2) (up:h'.UpToSlots h2) (q:E (.ref C) none H):X.xe (.ref ea) s':=by
 rw [hx];subst es;have fl':=fl;obtain ⟨k1,k2,k3,oe,vs,T,oT,ts,he,hc,hd,hk,r⟩:=fl';show wpAny _ _ (leaving X.env (.ref ea)) _ _ _;unfold leaving;refine wpAny_bind (wpAny_noteFrame_againW (s:={ s with heap:=h2 }) hfr ⟨oe,vs,T,oT,ts,he,⟨hc,by rw [hk 0 (by decide)];exact h0⟩,hd,r⟩ ?_);refine cR (s:={ s with heap:=h2 }) (fr:=none) fl λh3 x3 u3=>?_;obtain ⟨m1,m2,⟨_,_,m3⟩,m4⟩:=x3;exact (nB (s:=s) (tk:=s.toks) hstk hfr hex I kp ⟨m1,m2,m3,m4⟩ (up.trans u3) q).cxe h0
def Be (K:W.Frag) (HC C:Addr) (E:XK) (te:TX) (ta:TA):TS:=λD σ H=>te σ H (λv H1=>D.rt v H1) λcls _ H'=>∃ C',cls=.ref C'/\W.exmOne K (.ref C') (.ref HC)=some true/\ta σ H' λxs H2=>xs.length<=sizeLine/\E (.ref C) none H2
theorem ps_tryRF {E:XK} {e e2:Expr} {es2:List Expr} {x y:Str} {np p1 hpos pos np2 cpos cp pos2:Pos} {j:Nat} {te:TX} {ta:TA} {HC C:Addr} (hx:ud X E) (hstk:X.stack=X.env :: X.outer) (hfr:X.env.frame=some X.env.locals) (hex:X.ex=[]) (he:PX2 X e te)
  (hm:X.mg x=some (.ref HC)) (hg:Gl X x) (G:ExC X.K X.mg y C) (hgy:Gl X y) (ha:∀ ea,PA (hcx X ea) (e2 :: es2) ta) (hdb:(x == ("__debug__" : Str))=false:=by decide) (hdby:(y == ("__debug__" : Str))=false:=by decide)
  (hse:starEach (e2 :: es2) X.env=(false,eval e2 X.env) :: starEach es2 X.env:=by rfl) (hpl:(backTo cpos (starEach es2 X.env)).any (·.1)=false:=by rfl) :
  PS X (.Try [.Return (some e) p1] [.ExceptHandler (some (.Name x np)) none [.Raise (some (.Call (.Name y np2) (e2 :: es2) [] cpos)) (some (.Constant .none j cp)) pos2] hpos] [] [] pos) (Be X.K HC C E te ta):=by
 intro pins s σ H D I h;have fr0:X.A.frames=some (X.env :: X.outer):=by rw [<- hstk];exact I.ok.frames
 refine wpAny_Try_except (wpAny_execs_cons (wpAny_Return_some (wpAny_mono (he pins s σ H _ _ I h) (λv s1 ⟨y,H1,I1,r1,q1⟩=>?_) (λex s1 ⟨H1,s0,I0,fl0⟩=>?_))))
 ·exact ⟨y,σ,H1,I1,r1,q1⟩
 obtain ⟨ws,a0,h0,h2,ea,C',B,H',rfl,fl,os,bare,un,hok,c1,c2,C'',e',hxm,q⟩:=fl0
 cases e'
 have flS:=fl;rw [hstk] at fl;refine wM fr0 hfr fl λh4 x4 up4=>?_;refine cR (s:={ s1 with heap:=h4 }) (fr:=none) x4 λh5 x5 up5=>?_;have frames:∀ {h2:Heap},s1.heap.UpToSlots h2->∀ b o,s0.heap.get? b=some o->b∈frs X.stack->∃ sl,h2.get? b=some { o with slots:=sl }:=λ{h2} up b o e hb=>by
  obtain ⟨sl,e1⟩:=un.slot b o e (I0.stkFree b hb) hb (by simp);obtain ⟨o2,e2,nf⟩:=bP flS.2.2.1 hb;rw [e1] at e2;obtain rfl:=Option.some.inj e2;obtain ⟨sl2,e3⟩:=up b _ e1 nf;exact ⟨sl2,e3⟩
 have I5:Inv X pins σ H' { s1 with heap:=h5 }:=I0.call' (s':={ s1 with heap:=h5 }) os (cF un c1 c2 x5.1 (frames (up4.trans up5))) (hok.kept x5.1) bare (ch:=[]) (λ_ z=>nomatch z);have ea0:H' ea=none:=nh hok fl.2.1;have x5':=x5;obtain ⟨_,_,_,ob,vb,_,_,_,hob,hobc,_⟩:=x5';have LT:W.Looks (model X.prog X.w) h5 (typeOf (.ref ea)) (.ref C'):=by
  have L:W.Looks (model X.prog X.w) h5 (typeOf (.ref ea)) ob.cls:=(W.Looks.ld hob).andThen .now;rw [hobc] at L;exact L
 refine wpAny_handleBy_cons (codeAny_handlers_test (aU (X:=hcx X ea) (I5.hcx ea) hg hm ?_ hdb)) (by intro z;cases z);refine (W.exm_one (h:=h5) I5.kIn LT hxm).here ?_;refine codeAny_handlers_suite ?_;refine cR (s:={ s1 with heap:=h5 }) (fr:=none) x5 λh6 x6 up6=>?_;have up16:s1.heap.UpToSlots h6:=(up4.trans up5).trans up6;have x6':=x6;obtain ⟨_,_,f6,oe,vs,_,_,_,hoe,hoec,hoed,hkk,_⟩:=x6';have neF:ea∉frs X.stack:=λhb=>by
  rw [<- hstk] at f6;obtain ⟨o2,e2,nf⟩:=bP f6 hb;rw [hoe] at e2;obtain rfl:=Option.some.inj e2;exact nf _ hoed
 have I6:Inv X pins σ H' { s1 with heap:=h6 }:=I0.call' (s':={ s1 with heap:=h6 }) os (cF un c1 c2 x6.1 (frames up16)) (hok.kept x6.1) bare (ch:=[]) (λ_ z=>nomatch z);have I6p:Inv X ((ea,oe) :: pins) σ H' { s1 with heap:=h6 }:=⟨I6.ok,I6.os,I6.bare,I6.base,I6.loc,I6.cell,I6.free,I6.freeC,λp hp=>by
  rcases aAI.mp hp with h1 | h1
  ·exact I6.pin p (aAI.mpr (.inl h1))
  ·rcases aAb.mp h1 with rfl | h1
   ·refine ⟨hoe,ea0,λc=>?_,λc=>?_,λv c=>?_⟩
    ·refine neF ?_;rw [hstk];exact aAn.mpr ⟨X.env,aAh,by rw [hfr,<- c]⟩
    ·refine neF ?_;rw [hstk];obtain ⟨env,he,hf⟩:=aAn.mp c;exact aAn.mpr ⟨env,aAj _ he,hf⟩
    ·rw [show oe.data=_ from hoed] at c
     cases c
   ·exact I6.pin p (aAI.mpr (.inr h1)),I6.hok,I6.len⟩
 refine wpAny_execs_cons ?_;obtain ⟨bm,N,nm,qn,bs,hd,sn,sub,ab,col,dd,k0,k1,k2,k3,k5,mN,hC,hN,hni,T⟩:=ik I.ok.mod.kin G.q;refine gX (C:=C) (nm:=nm) (q:=qn) (N:=N) (bs:=bs) (bm:=bm) (hdct:=hd) (sn:=sn) (sub:=sub) (ab:=ab) (col:=col) (dd:=dd) (k0:=k0) (k1:=k1) (k2:=k2) (k3:=k3) (k5:=k5) F.excBase_ValueError (mN:=mN) (T.hasType F.excBase_ValueError.hasBase) rfl
  (by rw [hse];show (false || (backTo cpos (starEach es2 X.env)).any (·.1))=false;rw [hpl];rfl) hni (aU (X:=hcx X ea) (I6p.hcx ea) hgy G.m ⟨rfl,?_⟩ hdby)
 have z:=ha ea cpos ((ea,oe) :: pins) _ σ H' _ (I6p.hcx ea) q;rw [show (hcx X ea).env=X.env from rfl,hse] at z;rw [hse];refine Calls.evalArgs_plain (wpAny_mono z (λus s2 ⟨vs2,H2,I2,r,hz,q2⟩=>?_) λ_ _ y=>y.elim);have J2:Inv X ((ea,oe) :: pins) σ H2 s2:=I2.unhcx I.ok;refine ⟨rfl,by show us.length<=sizeLine;rw [<- r.length];exact hz,J2.bk _ _ hC,hN.keeps J2.bk,T.keeps J2.bk,⟨oe,vs,(J2.pin (ea,oe) (aAI.mpr (.inr aAh))).1,hoed,by rw [hkk 2 (by decide)];exact h2⟩,λh7 e7 t7 kp hn7 he7=>?_⟩;obtain ⟨b1,b2,b3⟩:=kF hstk J2 kp hn7;refine wO (A:=X.A) (E:=X.xe) (E2:=X.xe) (s:={ s2 with heap:=h7 }) fr0 fr0 hfr b3 he7 b1 b2 rfl rfl (λ_ z=>z) λh8 x8 up8=>?_;exact uC hx hstk hfr hex J2 kp rfl rfl x8 up8 q2
end
end L2
namespace PySem
open Sem (wp)
section
variable {prog:Program} {w:World} {K:Type} [DecidableEq K] {kd:KeyKind prog w K} {k0:K} {A:Around} {E:Value->Shared->Prop} {s:Shared}
def IsBoxKey (kd:KeyKind prog w K) (k0:K) (h:Heap) (k:K) (a:Addr):Prop :=
 ∃ o u b n,h.get? a=some o/\o.cls=.type "tuple" /\o.data=.seq #[u,.ref b] n/\kd.is k0 u=true/\IsTupleKey kd h [k] b
theorem IsBoxKey.tuple {k:K} {a:Addr} (x:IsBoxKey kd k0 s.heap k a):s.TypeIs (.ref a) "tuple" :=let ⟨o,_,_,_,q,c,_⟩:=x;⟨o,q,c⟩
theorem IsBoxKey.one {h:Heap} {a:Addr} {x y:K} (p:IsBoxKey kd k0 h x a) (q:IsBoxKey kd k0 h y a):x=y:=by
 obtain ⟨o,u,b,n,p1,p2,p3,p4,p5⟩:=p;obtain ⟨o',u',b',n',q1,q2,q3,q4,q5⟩:=q;obtain rfl:o=o':=Option.some.inj (p1.symm.trans q1);rw [p3] at q3;injection q3 with e _
 have e2:u=u'/\b=b':=by simpa using e
 obtain ⟨rfl,rfl⟩:=e2;exact List.cons.inj (p5.inj q5) |>.1
theorem IsBoxKey.stay {h h':Heap} {k:K} {a d:Addr} {o:Obj} {es ep} (x:IsBoxKey kd k0 h k a) (q:h.get? d=some o) (qd:o.data=.dict es ep) (sb:Heap.SameBut d h h'):IsBoxKey kd k0 h' k a:=by
 obtain ⟨o',u,b,n,p1,p2,p3,p4,p5⟩:=x;have ne:a≠d:=by
  rintro rfl;obtain rfl:o'=o:=Option.some.inj (p1.symm.trans q);rw [qd] at p3;exact nomatch p3
 exact ⟨o',u,b,n,(sb.2 a ne).trans p1,p2,p3,p4,p5.keeps q qd sb⟩
def lG (kd:KeyKind prog w K) (k0 k:K):Int:=reduceHash (Builtin.Tuple.tupleHashOf [kd.hash k0,tupleKeyHash kd [k]])
theorem uD {k:K} {a:Addr} {Q:Int->Shared->Prop} (hu:A.units+1 < cLine) (x:IsBoxKey kd k0 s.heap k a) (z:Q (lG kd k0 k) { s with toks:=s.toks+4 }) :
  wpAny (model prog w) A (pyHash (.ref a)) Q E s:=by
 have ty:=x.tuple;obtain ⟨o,u,b,n,p1,_,p3,p4,p5⟩:=x;unfold pyHash
 first | unfold pyHashByItsType | skip
 first | refine wpAny_bind (wpAny_cRoomFor_or (.inr (aBa (aA2 _) hu)) ?_) | skip
 refine wpAny_bind (wpAny_specialOf ty F.slot_tuple_hash.lookup ?_);show wpAny _ _ (if (some (Value.builtin "tuple.__hash__") == some Value.none)=true then _ else _) Q E s;rw [if_neg (by rw [beq_builtin_none];exact aAq)];refine wpAny_bind (wpAny_specialOf ty F.slot_tuple_hash.lookup ?_);show wpAny _ _ (callSpecialIfBoundUnlessNone? (.ref a) "__hash__" _ >>= _) Q E s;refine wpAny_bind (wpAny_callSpecialIfBoundUnlessNone?_slot ty F.slot_tuple_hash (wpAny_call_entry F.slot_tuple_hash ty F.entry_tuple_hash ?_ (F.args_tuple_hash_1 _)));show wpAny _ _ (Builtin.Tuple.tupleItemsOf (.ref a) >>= _) _ _ s;refine wpAny_bind (wpAny_tupleItemsOf p1 p3 ?_);refine wpAny_bind ?_;rw [<- aBe];show wpAny _ _ (forIn [u,Value.ref b] _ _) _ _ _;rw [aAP];refine wpAny_bind (wpAny_bind (kd.pyHash p4 ?_))
 first | refine wpAny_pure ?_ | refine wpAny_bind (wpAny_pure (wpAny_pure ?_))
 show wpAny _ _ (forIn [Value.ref b] _ _) _ _ _;rw [aAP];refine wpAny_bind (wpAny_bind (wpAny_pyHash_tuple (knd:=kd) (ks:=[k]) (by exact hu) (by exact p5) ?_))
 first | refine wpAny_pure ?_ | refine wpAny_bind (wpAny_pure (wpAny_pure ?_))
 show wpAny _ _ (forIn ([]:List Value) _ _) _ _ _;rw [aA3];refine wpAny_pure ?_;show wpAny _ _ (retInt (Builtin.Tuple.tupleHashOf [kd.hash k0,tupleKeyHash kd [k]])) _ _ _;refine wpAny_ret_mkInt ?_;show wpAny _ _ (if (decide (-(2:Int) ^ 63<=Builtin.Tuple.tupleHashOf [kd.hash k0,tupleKeyHash kd [k]]) && decide (Builtin.Tuple.tupleHashOf [kd.hash k0,tupleKeyHash kd [k]] < 2 ^ 63))=true then _ else _) Q E _;unfold lG reduceHash at z
 split
 ·rename_i q
  rw [if_pos q] at z;exact wpAny_pure z
 ·rename_i q
  rw [if_neg q] at z;exact wpAny_bind (wpAny_rule (wpAny_pure z))
theorem uE {x y:K} {a b:Addr} {P:Fin->Shared->Prop} (hu:A.units+1 < cLine) (p:IsBoxKey kd k0 s.heap x a) (q:IsBoxKey kd k0 s.heap y b) (z:P (.done (.ret (.bool (decide (x=y))))) s) :
  wpAny (model prog w) A (Builtin.«tuple.__eq__» ⟨[.ref a,.ref b],[]⟩) P E s:=by
 have ty:=q.tuple;obtain ⟨oa,ua,ba,na,a1,_,a3,a4,a5⟩:=p;obtain ⟨ob,ub,bb,nb,b1,_,b3,b4,b5⟩:=q;show wpAny _ _ (isInstance (.ref b) (.type "tuple") >>= _) _ _ s;refine wpAny_bind (wpAny_isInstance ty isSubtype_tuple_tuple ?_);simp only [aAW,aAk,if_false];refine wpAny_bind (wpAny_tupleItemsOf a1 a3 ?_);refine wpAny_bind (wpAny_tupleItemsOf b1 b3 ?_);refine wpAny_bind ?_;show wpAny _ _ (forIn [(ua,ub),(Value.ref ba,Value.ref bb)] _ _) _ _ _;rw [aAP];refine wpAny_bind (wpAny_bind (kd.eqBool (a:=k0) (b:=k0) a4 b4 ?_));rw [decide_eq_true rfl];simp only [aAW,aAk,if_false];refine wpAny_pure ?_;show wpAny _ _ (forIn [(Value.ref ba,Value.ref bb)] _ _) _ _ _;rw [aAP];refine wpAny_bind (wpAny_bind (wpAny_eqBool_tuple (knd:=kd) (x:=[x]) (y:=[y]) (by lia) a5 b5 ?_))
 by_cases e:x=y
 ·subst e;rw [decide_eq_true rfl];rw [decide_eq_true rfl] at z;simp only [aAW,aAk,if_false];refine wpAny_pure ?_;show wpAny _ _ (forIn ([]:List (Value×Value)) _ _) _ _ _;rw [aA3];exact wpAny_pure (wpAny_pure z)
 ·have e':¬ [x]=[y]:=λc=>e (List.cons.inj c).1;rw [decide_eq_false e'];rw [decide_eq_false e] at z;simp only [Bool.not_false,if_true];exact wpAny_bind (wpAny_pure (wpAny_pure (wpAny_pure (wpAny_pure z))))
theorem Bf {x y:K} {a b:Addr} {Q:Bool->Shared->Prop} (hu:A.units+2 < cLine) (p:IsBoxKey kd k0 s.heap x a) (q:IsBoxKey kd k0 s.heap y b) (z:Q (decide (x=y)) s) :
  wpAny (model prog w) A (eqBool (.ref a) (.ref b)) Q E s:=by
 unfold eqBool
 try with_reducible refine wpAny_holding ?_
 show wpAny _ _ (if (Value.ref a == Value.ref b)=true then _ else _) Q E s
 by_cases ab:(Value.ref a == Value.ref b)=true
 ·rw [if_pos ab];have e:a=b:=by have:=eq_of_beq ab;injection this
  subst e;obtain rfl:=p.one q;exact wpAny_bind (wpAny_rule (wpAny_pure (by simpa using z)))
 ·rw [if_neg ab];exact wpAny_bind (wpAny_richCompare_same_room (op:=.Eq) p.tuple q.tuple F.slot_tuple_eq
   (wpAny_call_entry F.slot_tuple_eq p.tuple F.entry_tuple_eq (uE (by exact hu) p q ⟨_,rfl,(λe=>nomatch e),wpAny_truthy_bool z⟩) (F.args_tuple_eq_2 _ _)) (by lia))
theorem nD (m:Nat) {ks:List K} {a:Addr} {Q:Bool->Shared->Prop} (x:IsTupleKey kd s.heap ks a) (z:Q true s):wpAny (model prog w) A (eqIsQuiet (m+1) (.ref a)) Q E s:=by
 have ty:=x.typeIs;obtain ⟨o,its,n,p1,_,p3,p4⟩:=x;unfold eqIsQuiet;refine wpAny_bind (wpAny_specialOf ty F.slot_tuple_eq.lookup ?_);show wpAny _ _ (isInstance (.ref a) (.type "tuple") >>= _) _ _ s;refine wpAny_bind (wpAny_isInstance ty isSubtype_tuple_tuple ?_);simp only [aAW,aAk,if_false];refine wpAny_bind (wpAny_seqItems p1 p3 ?_);refine wpAny_bind ?_;show wpAny _ _ (forIn its _ _) _ _ s;rw [<- aBe];refine wpAny_forIn_list _ (λrest r s'=>r.1=none/\s'=s/\∀ v∈rest,carriedByValue v=true) _ ?_ ?_ _ _ ⟨rfl,rfl,p4.byValue⟩
 ·rintro v rest r s' ⟨hr,rfl,al⟩;rw [eqIsQuiet_byValue _ (al v aAh)];refine wpAny_bind (wpAny_pure ?_);simp only [aAW,aAk,if_false];exact wpAny_pure ⟨rfl,rfl,λu hu'=>al u (aAj _ hu')⟩
 ·rintro ⟨r1,r2⟩ s' ⟨hr,rfl,_⟩;simp only at hr;subst hr;exact wpAny_pure z
theorem sH {k:K} {a:Addr} {Q:Bool->Shared->Prop} (x:IsBoxKey kd k0 s.heap k a) (z:Q true s):wpAny (model prog w) A (eqIsQuiet 8 (.ref a)) Q E s:=by
 have ty:=x.tuple;obtain ⟨o,u,b,n,p1,_,p3,p4,p5⟩:=x;unfold eqIsQuiet;refine wpAny_bind (wpAny_specialOf ty F.slot_tuple_eq.lookup ?_);show wpAny _ _ (isInstance (.ref a) (.type "tuple") >>= _) _ _ s;refine wpAny_bind (wpAny_isInstance ty isSubtype_tuple_tuple ?_);simp only [aAW,aAk,if_false];refine wpAny_bind (wpAny_seqItems p1 p3 ?_);refine wpAny_bind ?_;show wpAny _ _ (forIn #[u,Value.ref b] _ _) _ _ s;rw [<- aBe];show wpAny _ _ (forIn [u,Value.ref b] _ _) _ _ s;rw [aAP,eqIsQuiet_byValue _ (kd.byValue _ _ p4)];refine wpAny_bind (wpAny_bind (wpAny_pure ?_));simp only [aAW,aAk,if_false];refine wpAny_pure ?_;show wpAny _ _ (forIn [Value.ref b] _ _) _ _ s;rw [aAP];refine wpAny_bind (wpAny_bind (nD _ p5 ?_));simp only [aAW,aAk,if_false];refine wpAny_pure ?_;show wpAny _ _ (forIn ([]:List Value) _ _) _ _ s;rw [aA3];exact wpAny_pure (wpAny_pure z)
end
def wP {prog:Program} {w:World} {K:Type} [DecidableEq K] (kd:KeyKind prog w K) (k0:K):HeapKind prog w K where
 is:=IsBoxKey kd k0
 hash:=lG kd k0
 draws:=λ_=>4
 room:=λA=>A.units+2 < cLine
 inj:=λp q=>p.one q
 keeps:=λx q qd sb=>x.stay q qd sb
 pyHash:=λhu x z=>uD (aBa (aA2 _) hu) x z
 eqBool:=λhu p q z=>Bf hu p q z
 quiet:=λx z=>sH x z
section
variable {prog:Program} {w:World} {K:Type} [DecidableEq K] {knd:HeapKind prog w K} {A:Around} {E:Value->Shared->Prop} {s:Shared}
end
end PySem
namespace L2
open PySem PySem.Spec PyProof.Rows
theorem kG {α β:Type} {F:α->β->Prop}:∀ {l:List α} {m:List β},Paired F l m->∀ {i:Nat} {p:α} {q:β},l[i]?=some p->m[i]?=some q->F p q
 | _,_,.nil,i,p,q,h,_=>by simp at h
 | _,_,.cons r t,0,p,q,h,g=>by
  obtain rfl:_=p:=by simpa using h
  obtain rfl:_=q:=by simpa using g
  exact r
 | _,_,.cons r t,i+1,p,q,h,g=>kG t (by simpa using h) (by simpa using g)
theorem uF {H:Hp} {a p:Addr} {o:Obj} {u:HO} (mu:Mut (H p)) (e:H a=some (.frz o u)):a≠p:=by
 intro c;subst c;rw [e] at mu;exact mu
mutual
theorem wQ {K:W.Frag} {H H':Hp} {p:Addr} (mu:Mut (H p)) (g:But p H H'):∀ {d:Dt} {v:V},IsP K H d v->IsP K H' d v
 | _,_,.non=>.non
 | _,_,.bl=>.bl
 | _,_,.int=>.int
 | _,_,.str=>.str
 | _,_,.tup h pl q=>.tup (g.tup (by obtain ⟨o,u,e,dn⟩:=pl;exact uF mu e) h) (by
   obtain ⟨o,u,e,dn⟩:=pl;exact ⟨o,u,g _ _ (uF mu e) e,dn⟩) (nE mu g q)
theorem nE {K:W.Frag} {H H':Hp} {p:Addr} (mu:Mut (H p)) (g:But p H H'):∀ {l:List Dt} {xs:List V},IsPs K H l xs->IsPs K H' l xs
 | _,_,.nil=>.nil
 | _,_,.cons h q=>.cons (wQ mu g h) (nE mu g q)
end
def Bg (k:Key):Dt:=.tup [.str "list",.tup [kDt k]]
abbrev qM (P:Program) (w:World):HeapKind P w Key:=wP (ag P w) (Sum.inr ("list" : Str))
def lH (P:Program) (w:World) (p:Addr) (ob:Obj) (xs:List (Key×Addr×Value)) (h:Heap):Prop :=
 h.get? p=some ob/\ob.ExactDict/\∃ es ep,ob.data=.dict es ep/\es.toList=xs.map (entryOfKey (qM P w))/\(xs.map (·.1)).Nodup
def DicO (P:Program) (w:World) (K:W.Frag) (H:Hp) (a:Addr) (ob:Obj) (kvs:List (Key×V)):Prop:=(a == sysModules)=false/\kvs.length<=sizeLine/\∃ xs,H a=some (.ext (lH P w a ob xs)) /\
 Paired (λ(p:Key×V) (q:Key×Addr×Value)=>p.1=q.1/\IsP K H (Bg p.1) (.ref q.2.1)/\RelV p.2 q.2.2) kvs xs
def DicE (P:Program) (w:World) (m:Bool) (K:W.Frag) (H:Hp) (a:Addr) (kvs:List (Key×V)):Prop:=match m with
 | false=>H a=some (.dK kvs)
 | true=>(∃ ob,DicO P w K H a ob kvs)\/(kvs=[]/\H a=some (.dK []))
section
variable {P:Program} {w:World} {K:W.Frag} {m:Bool} {H H':Hp} {a:Addr} {ob:Obj} {kvs:List (Key×V)}
theorem DicE.ne {r:Addr} {ys:List V} (h:DicE P w m K H a kvs) (hr:H r=some (.lst ys)):r≠a:=by
 intro c;subst c
 cases m with
 | false=>rw [show H r=some (.dK kvs) from h] at hr;cases hr
 | true =>
  rcases h with ⟨ob,_,_,_,e,_⟩ | ⟨_,e⟩
  ·rw [e] at hr;cases hr
  ·rw [e] at hr;cases hr
end
section
variable {X:Cx} {pins:List (Addr×Obj)} {σ:St} {H:Hp} {s:Shared}
theorem Bh (I:Inv X pins σ H s) {k:Key} {a:Addr} (h:IsP X.K H (Bg k) (.ref a)):IsBoxKey (ag X.prog X.w) (Sum.inr ("list" : Str)) s.heap k a:=by
 obtain ⟨b,ys,e,ha,_,ra⟩:=IsP.unref h
 cases e
 obtain ⟨its,r,⟨o,h1,h2,n,h3⟩,_⟩:=I.tuple ha
 cases ra with
 | cons d1 ra =>
  cases ra with
  | cons d2 ra =>
   cases ra
   cases d1
   obtain ⟨c,zs,rfl,hc,pc,rc⟩:=IsP.unref d2
   cases r with
   | cons q1 r =>
    cases r with
    | cons q2 r =>
     cases r
     cases q2
     exact ⟨o,_,c,n,h1,h2,h3,kz (k:=Sum.inr ("list" : Str)) q1,lE I (ks:=[k]) (show IsP X.K H (.tup ([k].map kDt)) (.ref c) from d2)⟩
theorem DicO.dict {a:Addr} {ob:Obj} {kvs:List (Key×V)} (I:Inv X pins σ H s) (h:DicO X.prog X.w X.K H a ob kvs):(a == sysModules)=false/\kvs.length<=sizeLine/\∃ xs,s.heap.DictOfH (qM X.prog X.w) a xs/\lH X.prog X.w a ob xs s.heap/\H a=some (.ext (lH X.prog X.w a ob xs)) /\
  Paired (λ(p:Key×V) (q:Key×Addr×Value)=>p.1=q.1/\IsP X.K H (Bg p.1) (.ref q.2.1)/\RelV p.2 q.2.2) kvs xs:=by
 obtain ⟨e0,e1,xs,e,r⟩:=h;obtain ⟨oo,_⟩:=(show ObjOk X.prog X.w H s.heap a (.ext (lH X.prog X.w a ob xs)) from I.hok a _ e);obtain ⟨h1,h2,es,ep,h3,h4,h5⟩:=id oo;refine ⟨e0,e1,xs,⟨ob,es,ep,h1,h2,h3,h4,λy hy=>?_,h5⟩,oo,e,r⟩;obtain ⟨i,hi⟩:=List.getElem?_of_mem hy;have hl:i < kvs.length:=by rw [Paired.length r];exact (aAg.mp hi).1
 have q:=kG r (aAp hl) hi;rw [<- q.1];exact Bh I q.2.1
end
section
variable {X:Cx} {P:Program} {w:World} {K:W.Frag} {o e f:Expr} {apos cpos pos:Pos} {td ty tx:TE}
end
section
variable {X:Cx} {tg:Expr} {P:Program} {w:World} {K:W.Frag}
end
section
variable {prog:Program} {w:World} {A:Around} {E:Value->Shared->Prop} {s:Shared}
end
section
variable {X:Cx} {K:W.Frag}
end
end L2
namespace PySem
open PyProof.Rows PySem.Spec
section
variable {prog:Program} {w:World} {h₀:Heap} {k:Str} {tk:Tok} {a:Addr} {α:Type} {R:α->Value->Prop} {D:List (Str×α)}
theorem nF:MeetsIn prog w (Builtin.«dict.get» ⟨[.ref a,.str k tk],[]⟩) (λ_ Rr s=>KTD.TabOf R h₀ a D/\(∀ b o,h₀.get? b=some o->s.heap.get? b=some o)/\(∀ d v,KTD.datumAt k D=some d->R d v->Rr (.ok (.ret v)) { s with toks:=s.toks+1 }) /\
  (KTD.datumAt k D=none->Rr (.ok (.ret .none)) { s with toks:=s.toks+1 })) :=
 .of_wp λA Rr s ⟨T,kp,h1,h2⟩=>by
  show wpAny _ _ (dictGet a (.str k tk) >>= _) _ _ s;refine wpAny_bind (gK T kp (λd v ha hv=>wpAny_pure ⟨v,rfl,h1 d v ha hv⟩) λhn=>wpAny_bind (m:=Builtin.Dict.missed a (.str k tk)) (wpAny_missed_other T.1 (wpAny_pure ⟨.none,rfl,h2 hn⟩)))
end
end PySem
namespace L2
open PySem PySem.Spec PyProof.Rows
section
variable {X:Cx}
def Bi (D:List (Str×Addr)) (t:TA):TE:=λσ H Q=>t σ H λvs H1=>∃ k,vs=[.str k]/\Q (match fB k D with | some b=>.ref b | none=>.non) H1
theorem pe_kget1 {x:Str} {ad:Addr} {D:List (Str×Addr)} {e:Expr} {t:TA} {p apos cpos:Pos} (hD:iM X.K ad D) (hg:Gl X x) (hm:X.mg x=some (.ref ad)) (ha:PA X [e] t) (hdb:(x == ("__debug__" : Str))=false:=by decide)
  (hbase:attributeBase (.Name x p) "get" X.env (eval (.Name x p) X.env)=eval (.Name x p) X.env:=by rfl)
  (hfew:((backTo cpos (starEach [e] X.env)).all (λx=>!x.1) && (backToKw cpos (keywordEach [] X.env)).all (λx=>x.1.isSome)
   && decide (([e]:List Expr).length+([]:List Keyword).length+(if ([]:List Keyword).isEmpty then 0 else 1) < 30))=true:=by rfl)
  (hline:(apos.endLine == cpos.line)=true:=by rfl) (hs:starEach [e] X.env=(false,eval e X.env) :: starEach [] X.env:=by rfl) :
  PE X (.Call (.Attribute (.Name x p) "get" apos) [e] [] cpos) (Bi D t):=by
 intro pins s σ H Q I h;have T:∀ {s':Shared} {σ':St} {H':Hp} {pins':List (Addr×Obj)},Inv X pins' σ' H' s'->KTD.TabOf (λb v=>v=Value.ref b) X.base ad D:=λJ=>hD _ J.ok.mod.kin;have ty0:∀ {s':Shared} {σ':St} {H':Hp} {pins':List (Addr×Obj)},Inv X pins' σ' H' s'->s'.TypeIs (.ref ad) "dict" /\(∀ b,Value.ref ad=.ref b->∃ ob,s'.heap.get? b=some ob/\ob.dict=none):=λ{s' σ' H' pins'} J=>by
  obtain ⟨_,o,_,_,ho,hc,_⟩:=T J;refine ⟨⟨o,J.bk _ _ ho,hc.1⟩,λb q=>?_⟩;injection q with q
  subst q;exact ⟨o,J.bk _ _ ho,hc.2.1⟩
 refine wpAny_Call_method_late hbase hfew hline rfl (aU I hg hm ?_ hdb);refine ⟨"dict","dict.get",PySem.F.plainAttrs_dict,PySem.F.slot_dict_get,PySem.F.type_dict_get,(ty0 I).1,(ty0 I).2,?_⟩;have hA:=ha cpos pins s σ H _ I h;rw [hs] at hA ⊢;refine Calls.callWith_builtin (0) (Calls.evalArgs_plain ?_);refine thn hA λus s2 ⟨vs,H2,I2,r2,k,e2,q2⟩=>?_;subst e2;obtain ⟨u,rfl,ru⟩:=cc r2;obtain ⟨tk,rfl⟩:=ru;refine call_meetsIn PySem.F.slot_dict_get (ty0 I2).1 PySem.F.entry_dict_get (PySem.F.args_dict_get_2 _ _) (nF (h₀:=X.base) (D:=D) (R:=λb v=>v=Value.ref b)) ⟨T I2,λb o z=>I2.bk b o z,λb v hb hv=>?_,λhn=>?_⟩
 ·subst hv;rw [<- dI,hb] at q2;exact ⟨.ref b,H2,I2.tok _,rfl,q2⟩
 ·rw [<- dI,hn] at q2;exact ⟨.non,H2,I2.tok _,rfl,q2⟩
end
section
variable {X:Cx} {K:W.Frag}
end
end L2
namespace PySem
namespace StrLaws
open Builtin Builtin.Str
end StrLaws
end PySem
namespace L2
open PySem PySem.Spec PyProof.Rows
section
variable {X:Cx}
inductive HS (X:Cx):List ExceptHandler->(Addr->TS)->Prop
 | nil:HS X [] (λ_ _ _ _=>False)
 | cons {x:Str} {np hpos:Pos} {HC:Addr} {b₀:Stmt} {suite:List Stmt} {ts:TS} {rest:List ExceptHandler} {tr:Addr->TS} (hm:X.mg x=some (.ref HC)) (hg:Gl X x) (hb:∀ ea,PSs (hcx X ea) (b₀ :: suite) ts) (hr:HS X rest tr) (hdb:(x == ("__debug__" : Str))=false:=by decide) :
   HS X (.ExceptHandler (some (.Name x np)) none (b₀ :: suite) hpos :: rest) (λC D σ H=>∃ b,W.exmOne X.K (.ref C) (.ref HC)=some b/\(b=true->ts D σ H)/\(b=false->tr C D σ H))
theorem Bj {pins:List (Addr×Obj)} {σ:St} {H':Hp} {s1:Shared} {h5:Heap} {ea C:Addr} {D:Ends} (ok:X.Ok) (I5:Inv X pins σ H' { s1 with heap:=h5 }) (LT:W.Looks (model X.prog X.w) h5 (typeOf (.ref ea)) (.ref C))
  (go:∀ {Q:Unit->Shared->Prop} {A:Around} {E:Value->Shared->Prop},(∀ h6,Inv X pins σ H' { s1 with heap:=h6 }->Q () { s1 with heap:=h6 })->wpAny (model X.prog X.w) A (setFlight (.ref ea) none) Q E { s1 with heap:=h5 }) :
  ∀ {hs:List ExceptHandler} {th:Addr->TS},HS X hs th->th C D σ H'->wpAny (model X.prog X.w) X.A (handleBy (.ref ea) X.env hs) (SP X pins D) X.xe { s1 with heap:=h5 }:=by
 intro hs th h
 induction h with
 | nil=>exact λq=>q.elim
 | @cons x np hpos HC b₀ suite ts rest tr hm hg hb hr hdb ih =>
  rintro ⟨b,hx,q1,q2⟩;refine wpAny_handleBy_cons (codeAny_handlers_test (aU (X:=hcx X ea) (I5.hcx ea) hg hm ?_ hdb)) (by intro z;cases z);refine (W.exm_one (h:=h5) I5.kIn LT hx).here ?_
  cases b with
  | false=>exact ih (q2 rfl)
  | true =>
   refine codeAny_handlers_suite ?_;refine go λh6 I6=>?_;refine wpAny_mono (hb ea pins _ _ _ _ (I6.hcx ea) (q1 rfl)) (λf s8 h8=>?_) λ_ _ z=>z.elim
   cases f with
   | next =>
    obtain ⟨σ8,H8,I8,q8⟩:=h8;exact ⟨_,H8,I8.unhcx ok,q8⟩
   | ret v =>
    obtain ⟨v8,σ8,H8,I8,r8,q8⟩:=h8;exact ⟨v8,_,H8,I8.unhcx ok,r8,q8⟩
   | brk =>
    obtain ⟨σ8,H8,I8,q8⟩:=h8;exact ⟨_,H8,I8.unhcx ok,q8⟩
   | cont =>
    obtain ⟨σ8,H8,I8,q8⟩:=h8;exact ⟨_,H8,I8.unhcx ok,q8⟩
theorem Bk {pins:List (Addr×Obj)} {σ:St} {H1:Hp} {s0 s1:Shared} {D:Ends} {ex:Value} {h0:ExceptHandler} {hs:List ExceptHandler} {th:Addr->TS} (hstk:X.stack=X.env :: X.outer) (hfr:X.env.frame=some X.env.locals) (ok:X.Ok) (I0:Inv X pins σ H1 s0)
  (hh:HS X (h0 :: hs) th) (fl0:CXE X.prog X.w X.stack H1 s0 (λcls _ H'=>∃ C,cls=.ref C/\th C D σ H') ex s1) :
  wpAny (model X.prog X.w) X.A (noteFrame ex X.env) (λ_ s₂=>wpAny (model X.prog X.w) X.A (setFlight ex none) (λ_ s₃=>wpAny (model X.prog X.w) X.A (handleBy ex X.env (h0 :: hs)) (SP X pins D) X.xe s₃) X.xe s₂) X.xe s1:=by
 have fr0:X.A.frames=some (X.env :: X.outer):=by rw [<- hstk];exact I0.ok.frames
 obtain ⟨ea,C,a0,B,H',rfl,fl,os,bare,un,hok,c1,c2,C',e',q⟩:=fl0
 cases e'
 have flS:=fl;rw [hstk] at fl;refine wpAny_looks_onW fr0 hfr fl λh4 held4 up4=>?_;refine wpAny_landsW held4 λh5 held5 up5=>?_;have frames:∀ {h2:Heap},s1.heap.UpToSlots h2->∀ b o,s0.heap.get? b=some o->b∈frs X.stack->∃ sl,h2.get? b=some { o with slots:=sl }:=λ{h2} up b o e hb=>by
  obtain ⟨sl,e1⟩:=un.slot b o e (I0.stkFree b hb) hb (by simp);obtain ⟨o2,e2,nf⟩:=bP flS.2.2.1 hb;rw [e1] at e2;obtain rfl:=Option.some.inj e2;obtain ⟨sl2,e3⟩:=up b _ e1 nf;exact ⟨sl2,e3⟩
 have I5:Inv X pins σ H' { s1 with heap:=h5 }:=I0.call' (s':={ s1 with heap:=h5 }) os (cF un c1 c2 held5.1 (frames (up4.trans up5))) (hok.kept held5.1) bare (ch:=[]) (λ_ z=>nomatch z);obtain ⟨ob,hob,hobc⟩:=held5.there;have LT:W.Looks (model X.prog X.w) h5 (typeOf (.ref ea)) (.ref C):=by
  have L:W.Looks (model X.prog X.w) h5 (typeOf (.ref ea)) ob.cls:=(W.Looks.ld hob).andThen .now;rw [hobc] at L;exact L
 refine Bj ok I5 LT (λ{Q A E} k=>?_) hh q;refine lands_againW held5 λh6 fl6 up6=>?_;exact k h6 (I0.call' (s':={ s1 with heap:=h6 }) os (cF un c1 c2 fl6.1 (frames ((up4.trans up5).trans up6))) (hok.kept fl6.1) bare (ch:=[]) (λ_ z=>nomatch z))
def HB (te:TX) (th:Addr->TS):TS:=λD σ H=>te σ H (λ_ H1=>D.nx σ H1) λcls _ H'=>∃ C,cls=.ref C/\th C D σ H'
theorem wR {e:Expr} {p1 pos:Pos} {h0:ExceptHandler} {hs:List ExceptHandler} {te:TX} {th:Addr->TS} (hstk:X.stack=X.env :: X.outer) (hfr:X.env.frame=some X.env.locals) (he:PX X e te) (hh:HS X (h0 :: hs) th)
  (hs':swapsWith e none p1.line X.env=pure false:=by rfl) :
  PS X (.Try [.Expr e p1] (h0 :: hs) [] [] pos) (HB te th):=by
 intro pins s σ H D I h;refine wpAny_Try_except (wpAny_execs_cons (wpAny_Expr_any (wpAny_mono (he pins s σ H _ _ I h) (λv s1 ⟨y,H1,I1,r1,q1⟩=>?_) (λex s1 ⟨H1,s0,I0,fl0⟩=>?_)) I.quiet hs'))
 ·exact wpAny_execs_nil (wpAny_execs_nil ⟨σ,H1,I1,q1⟩)
 exact Bk hstk hfr I.ok I0 hh fl0
end
section
variable {X:Cx}
end
section
variable {X:Cx}
theorem PS.nox {st:Stmt} {t:TS} (h:PS X.nox st t):PS X st t:=λp0 s0 v0 h0 d0 i0 w0=>wpAny_mono (h p0 s0 v0 h0 d0 (i0.wish _) w0) (λ_ _ q=>q.unwish) λ_ _ q=>q.elim
end
section
variable {X:Cx}
abbrev TBx:=St->Hp->(Hp->Prop)->XK->Prop
def PBx (X:Cx) (body:List Stmt) (t:TBx):Prop :=
 ∀ (pins:List (Addr×Obj)) (s:Shared) (σ:St) (H:Hp) (N:Hp->Prop) (E:XK),Inv X pins σ H s->t σ H N E ->
  wpAny (model X.prog X.w) X.A (execs body X.env) (λf s'=>f=.next/\∃ H1,Inv X pins σ H1 s'/\N H1) (λex s'=>∃ H1 s1,Inv X pins σ H1 s1/\CXE X.prog X.w X.stack H1 s1 E ex s') s
theorem qN {e:Expr} {p1:Pos} {te:TX} (he:PX X e te) (hs:swapsWith e none p1.line X.env=pure false:=by rfl):PBx X [.Expr e p1] (λσ H N E=>te σ H (λ_ H1=>N H1) E):=by
 intro pins s σ H N E I h;exact wpAny_execs_cons (wpAny_Expr_any (wpAny_mono (he pins s σ H _ _ I h) (λv s1 ⟨y,H1,I1,r1,q1⟩=>wpAny_execs_nil ⟨rfl,H1,I1,q1⟩) λ_ _ q=>q) I.quiet hs)
theorem Bl {c:Expr} {a b:List Stmt} {pos:Pos} {tc:TT} {ta tb:TBx} (hc:PT X.nox c tc) (ha:PBx X a ta) (hb:PBx X b tb):PBx X [.If c a b pos] (λσ H N E=>tc σ H λd H1=>if d=true then ta σ H1 N E else tb σ H1 N E):=by
 intro pins s σ H N E I h;refine wpAny_execs_cons (wpAny_If (wpAny_mono (hc pins s σ H _ (I.wish _) h) (λd s1 ⟨H1,I1,q1⟩=>?_) λ_ _ z=>z.elim));have end1:∀ {f:Flow} {s':Shared},(f=.next/\∃ H1,Inv X pins σ H1 s'/\N H1)->(match f with | .next=>wpAny (model X.prog X.w) X.A (execs [] X.env) (λf s'=>f=.next/\∃ H1,Inv X pins σ H1 s'/\N H1) (λex s'=>∃ H1 s1,Inv X pins σ H1 s1/\CXE X.prog X.w X.stack H1 s1 E ex s') s' | f=>(f=.next/\∃ H1,Inv X pins σ H1 s'/\N H1)):=by
  rintro f s' ⟨rfl,q⟩;exact wpAny_execs_nil ⟨rfl,q⟩
 cases d with
 | true=>exact wpAny_mono (ha pins s1 σ H1 N E I1.unwish q1) (λf s' q=>by have:=end1 q;revert this;cases f <;> exact id) λ_ _ q=>q
 | false=>exact wpAny_mono (hb pins s1 σ H1 N E I1.unwish q1) (λf s' q=>by have:=end1 q;revert this;cases f <;> exact id) λ_ _ q=>q
def Bm (K:W.Frag) (HC:Addr) (i:Nat) (te:TBx) (ts:TS):TS:=λD σ H=>te σ H (λH1=>D.nx σ H1) λcls _ H'=>∃ C,cls=.ref C/\W.exmOne K (.ref C) (.ref HC)=some true /\
 ∀ ea,H' ea=none->ts { nx:=λσ' H''=>D.nx (σ'.set i none) H'',rt:=D.rt,bk:=λσ' H''=>D.bk (σ'.set i none) H'',ct:=λσ' H''=>D.ct (σ'.set i none) H'' } (σ.set i (some (.ref ea))) (upd H' ea (xO ea C))
theorem uG {body:List Stmt} {x n:Str} {i:Nat} {b₀:Stmt} {suite:List Stmt} {np hpos pos:Pos} {te:TBx} {HC:Addr} {ts:TS} (hstk:X.stack=X.env :: X.outer) (hfr:X.env.frame=some X.env.locals) (he:PBx X body te) (hm:X.mg x=some (.ref HC)) (hg:Gl X x)
  (hN:X.N.Nodup) (hi:X.N[i]?=some n) (hlo:X.env.scope.names.lookup n=some .local) (hb:∀ ea,PSs (hcx X ea) (b₀ :: suite) ts) (hdb:(x == ("__debug__" : Str))=false:=by decide) :
  PS X (.Try body [.ExceptHandler (some (.Name x np)) (some n) (b₀ :: suite) hpos] [] [] pos) (Bm X.K HC i te ts):=by
 intro pins s σ H D I h;have fr0:X.A.frames=some (X.env :: X.outer):=by rw [<- hstk];exact I.ok.frames
 refine wpAny_Try_except (wpAny_mono (he pins s σ H (λH1=>D.nx σ H1) _ I h) (λv s1 hv=>?_) (λex s1 ⟨H1,s0,I0,fl0⟩=>?_))
 ·obtain ⟨rfl,H1,I1,q1⟩:=hv;exact wpAny_execs_nil ⟨σ,H1,I1,q1⟩
 obtain ⟨ea,C,a0,B,H',rfl,fl,os,bare,un,hok,c1,c2,C',e',hx,q⟩:=fl0
 cases e'
 have flS:=fl;rw [hstk] at fl;refine wpAny_looks_onW fr0 hfr fl λh4 held4 up4=>?_;refine wpAny_landsW held4 λh5 held5 up5=>?_;have frames:∀ {h2:Heap},s1.heap.UpToSlots h2->∀ b o,s0.heap.get? b=some o->b∈frs X.stack->∃ sl,h2.get? b=some { o with slots:=sl }:=λ{h2} up b o e hb=>by
  obtain ⟨sl,e1⟩:=un.slot b o e (I0.stkFree b hb) hb (by simp);obtain ⟨o2,e2,nf⟩:=bP flS.2.2.1 hb;rw [e1] at e2;obtain rfl:=Option.some.inj e2;obtain ⟨sl2,e3⟩:=up b _ e1 nf;exact ⟨sl2,e3⟩
 have I5:Inv X pins σ H' { s1 with heap:=h5 }:=I0.call' (s':={ s1 with heap:=h5 }) os (cF un c1 c2 held5.1 (frames (up4.trans up5))) (hok.kept held5.1) bare (ch:=[]) (λ_ z=>nomatch z);have ea0:H' ea=none:=nh hok fl.2.1;obtain ⟨ob,hob,hobc⟩:=held5.there;have LT:W.Looks (model X.prog X.w) h5 (typeOf (.ref ea)) (.ref C):=by
  have L:W.Looks (model X.prog X.w) h5 (typeOf (.ref ea)) ob.cls:=(W.Looks.ld hob).andThen .now;rw [hobc] at L;exact L
 refine wpAny_handleBy_cons (codeAny_handlers_test (aU (X:=hcx X ea) (I5.hcx ea) hg hm ?_ hdb)) (by intro z;cases z);refine (W.exm_one (h:=h5) I5.kIn LT hx).here ?_;refine codeAny_handlers_suite_as ?_;refine lands_againW held5 λh6 fl6 up6=>?_;have up16:s1.heap.UpToSlots h6:=(up4.trans up5).trans up6;obtain ⟨oe,ws,hoe,hoec,hoed,_⟩:=fl6.first
 have neF:ea∉frs X.stack:=λhb=>by
  have f6:=fl6.2.2.1;rw [<- hstk] at f6;obtain ⟨o2,e2,nf⟩:=bP f6 hb;rw [hoe] at e2;obtain rfl:=Option.some.inj e2;exact nf _ hoed
 have un6:Un (frs X.stack) [] H1 H' s0.heap h6:=cF un c1 c2 fl6.1 (frames up16);have un7:Un (frs X.stack) [] H1 (upd H' ea (xO ea C)) s0.heap h6:=by
  refine ⟨un6.keep,un6.slot,λb o e n z=>?_,un6.there,λb xs e=>?_,λb o u e=>?_,λb ps e=>?_⟩
  ·have hne:b≠ea:=by
    rintro rfl
    by_cases hb:b∈frs X.stack
    ·exact neF hb
    ·have z:=c1 b o e n hb;rw [fl.2.1] at z
     cases z
   rw [ah hne];exact un6.free b o e n z
  ·rw [ah (aw (un6.tups b xs e) ea0)];exact un6.tups b xs e
  ·rw [ah (aw (un6.frzs b o u e) ea0)];exact un6.frzs b o u e
  ·obtain ⟨m1,e1⟩:=un6.tbls b ps e;exact ⟨m1,by rw [ah (aw e1 ea0)];exact e1⟩
 have hok6:HOk X.prog X.w (upd H' ea (xO ea C)) h6:=λb u e=>by
  by_cases hb:b=ea
  ·subst hb;rw [ac] at e
   cases e
   exact Hi ⟨oe,hoe,hoec⟩
  ·rw [ah hb] at e;exact (hok b u e).stay (λc v _ z=>fl6.1 c v z) (λc z=>by rw [ah (aw z ea0)];exact z) λc xs z=>by rw [ah (aw z ea0)];exact z
 have I6:Inv X pins σ (upd H' ea (xO ea C)) { s1 with heap:=h6 }:=I0.call' (s':={ s1 with heap:=h6 }) os un7 hok6 bare (ch:=[]) (λ_ z=>nomatch z);refine iz (X:=hcx X ea) (v:=.ref ea) (I6.hcx ea) hN hi (.inl hlo) rfl (λs7 I7=>?_) (.inr hlo);refine wpAny_mono (hb ea pins s7 _ _ _ I7 (q ea ea0)) (λf s8 h8=>?_) λ_ _ z=>z.elim
 cases f with
 | next =>
  obtain ⟨σ8,H8,I8,q8⟩:=h8;exact (I8.unhcx I.ok).goes hN hi hlo λs9 I9=>⟨_,H8,I9,q8⟩
 | ret v =>
  obtain ⟨v8,σ8,H8,I8,r8,q8⟩:=h8;exact (I8.unhcx I.ok).goes hN hi hlo λs9 I9=>⟨v8,_,H8,I9,r8,q8⟩
 | brk =>
  obtain ⟨σ8,H8,I8,q8⟩:=h8;exact (I8.unhcx I.ok).goes hN hi hlo λs9 I9=>⟨_,H8,I9,q8⟩
 | cont =>
  obtain ⟨σ8,H8,I8,q8⟩:=h8;exact (I8.unhcx I.ok).goes hN hi hlo λs9 I9=>⟨_,H8,I9,q8⟩
end
section
variable {X:Cx}
end
theorem passF2 {P:Program} {w:World} {X:Cx}:f9 (jC P w) X (λ_ _ _=>False):=by
 intro pins σ H s e s' I h;obtain ⟨_,_,_,_,_,_,_,_,_,_,_,_,_,_,_,_,q⟩:=h;exact q.elim
section
variable {X:Cx} {K:W.Frag}
end
end L2
namespace PySem
open Sem (wp)
section
variable {prog:Program} {w:World} {A:Around} {E:Value->Shared->Prop} {s:Shared}
end
end PySem
namespace L2
open PySem PySem.Spec PyProof.Rows
section
variable {X:Cx} {pins:List (Addr×Obj)} {σ:St} {H:Hp} {s:Shared} {ea C:Addr} {K:W.Frag}
end
section
variable {X:Cx}
end
structure FnOkC (P:Program) (w:World) (K:W.Frag) (mg:Str->Option Value) (base:Heap) (k:Nat) (f:Addr) (fd:FuncData) (ps:List Str) (sp:Addr->Sp):Prop where
 len:∀ ea vs H Q E,sp ea vs H Q E->vs.length=ps.length
 run:∀ (A:Around) (ea:Addr) (outer:List Env) (s:Shared) (H:Hp) (args:Args) (us:List Value) (vs:List V) (Q:VK) (E:XK),RoomH k A->A.handled=some (.ref ea)->Env0 P w K mg base A outer s H->BindsTo s fd args (ps.zip us)->Vals vs us->sp ea vs H Q E ->
  codeAny (model P w) A (.call (.ref f) args) (CR CX0 outer P w H s Q E) s
section
variable {X:Cx}
end
section
variable {X:Cx} {E:XK}
variable {pins:List (Addr×Obj)} {σ:St} {H:Hp} {s:Shared}
end
section
variable {X:Cx} {pins:List (Addr×Obj)} {σ:St} {H:Hp} {s:Shared}
end
abbrev smT (pl:Array Nat) (fg mv:Nat) (l p:Bool):SetTable:={ mask:=7,place:=pl,dummies:=#[],finger:=fg,led:=l,moves:=mv,plain:=p }
abbrev pbA (j pt:Nat):SetTable.Probe:=⟨j,0,j,pt,none⟩
theorem HD {j fg mv:Nat} {l p:Bool}:(smT #[] fg mv l p).slot j=.empty:=by
 simp [SetTable.slot,SetTable.below,SetTable.below.go,SetTable.has]
theorem nI {q j fg mv:Nat} {l p:Bool}:(smT #[q] fg mv l p).slot j=if q=j then .live 0 else .empty:=by
 by_cases c:q < j
 ·have n:¬ q=j:=by lia
  simp [SetTable.slot,SetTable.below,SetTable.below.go,SetTable.has,c,n]
 ·by_cases e:q=j
  ·subst e;simp [SetTable.slot,SetTable.below,SetTable.below.go,SetTable.has]
  ·simp [SetTable.slot,SetTable.below,SetTable.below.go,SetTable.has,c,e]
theorem HE {pl:Array Nat} {fg mv:Nat} {l p:Bool} {j pt:Nat}:(smT pl fg mv l p).advance (pbA j pt)=pbA ((j*5+1+pt / 32) % 8) (pt / 32):=by
 have e:¬ (j*5+1+pt / 32) % 8+9<=7:=by lia
 simp [SetTable.advance,SetTable.leap,SetTable.runEnd,e]
theorem pS {pl:Array Nat} {fg mv:Nat} {l p:Bool} {h:Int}:(smT pl fg mv l p).probeStart h=pbA (SetTable.bits h % 8) (SetTable.bits h):=by
 have e:¬ SetTable.bits h % 8+9<=7:=by lia
 simp [SetTable.probeStart,SetTable.runEnd,e]
theorem uH (h:Int):SetTable.bits h < 32 ^ 13:=by
 unfold SetTable.bits;have:=aAY h (show (0:Int) < 2 ^ 64 by decide);have:=aA7 h (show (2 ^ 64:Int)≠0 by decide);lia
theorem nJ {q fg mv:Nat} {l p:Bool} {hs:Nat->Int} {h:Int} (ne:(hs 0 == h)=false):∀ (n f j pt:Nat),pt < 32 ^ n->n+2<=f->∃ j',SetTable.probe.go (smT #[q] fg mv l p) hs h f (pbA j pt)=some (.empty j' none)
 | n,0,_,_,_,z=>by lia
 | n,f+1,j,pt,hp,hf=>by
  unfold SetTable.probe.go;rw [nI]
  by_cases e:q=j
  ·subst e;rw [if_pos rfl];dsimp only;rw [ne,HE]
   cases n with
   | zero =>
    have e0:pt=0:=by lia
    subst e0;obtain ⟨f,rfl⟩:∃ g,f=g+1:=⟨f - 1,by lia⟩;have e2:¬ q=(q*5+1+0 / 32) % 8:=by lia
    exact ⟨_,by unfold SetTable.probe.go;rw [nI,if_neg e2];rfl⟩
   | succ n =>
    exact nJ ne n f _ _ (by rw [aBV] at hp;lia) (by lia)
  ·rw [if_neg e];exact ⟨j,rfl⟩
section
variable {P:Program} {w:World} {K:Type} [DecidableEq K] {kd:KeyKind P w K} {A:Around} {E:Value->Shared->Prop} {s:Shared}
theorem wS (n:Nat) {v:Value} (h:carriedByValue v=true):∃ b,hashByValue n v=pure b:=by
 cases v with
 | ref a=>simp [carriedByValue] at h
 | _=>first | exact ⟨_,rfl⟩ | (cases n <;> exact ⟨_,rfl⟩) | exact ⟨_,by unfold hashByValue;rfl⟩
theorem sI {ks:List K} {a:Addr} {Q:Bool->Shared->Prop} (hk:IsTupleKey kd s.heap ks a) (h:∀ b,Q b s):wpAny (model P w) A (hashByValue 8 (.ref a)) Q E s:=by
 have hT:=hk.typeIs;obtain ⟨o,items,n,ho,_,hd,hi⟩:=hk;unfold hashByValue;refine wpAny_bind (wpAny_specialOf hT F.slot_tuple_hash.lookup ?_);dsimp only;refine wpAny_bind (wpAny_seqItems ho hd ?_);refine wpAny_bind ?_;show wpAny _ _ (forIn items _ _) _ _ s;rw [<- aBe];refine wpAny_forIn_list _ (λrest r s'=>r.1=none/\s'=s/\∀ v∈rest,carriedByValue v=true) _ ?_ ?_ _ _ ⟨rfl,rfl,hi.byValue⟩
 ·rintro v rest r s' ⟨hr,rfl,hall⟩;obtain ⟨b,e⟩:=wS 7 (hall v aAh);rw [e];refine wpAny_bind (wpAny_pure ?_)
  cases b
  ·simp only [Bool.not_false,if_true];refine wpAny_pure ?_;exact wpAny_pure (h false)
  ·simp only [aAW,aAk,if_false];exact wpAny_pure ⟨rfl,rfl,λu hu'=>hall u (aAj _ hu')⟩
 ·rintro ⟨r1,r2⟩ s' ⟨hr,rfl,_⟩;simp only at hr;subst hr;exact wpAny_pure (h true)
theorem wT (n:Nat) {v:Value} (h:carriedByValue v=true):ofAClassStatement n v=pure false:=by
 cases v with
 | ref a=>simp [carriedByValue] at h
 | _=>first | rfl | (unfold ofAClassStatement;rfl)
theorem kH {ks:List K} {a:Addr} {Q:Bool->Shared->Prop} (hk:IsTupleKey kd s.heap ks a) (h:Q false s):wpAny (model P w) A (ofAClassStatement 8 (.ref a)) Q E s:=by
 have hT:=hk.typeIs;obtain ⟨o,items,n,ho,_,hd,hi⟩:=hk;unfold ofAClassStatement;refine wpAny_bind (wpAny_typeOf hT ?_);dsimp only;rw [if_pos (by decide)];refine wpAny_bind (wpAny_pure ?_);simp only [aAW,aAk,if_false];refine wpAny_bind (wpAny_seqItems ho hd ?_);dsimp only;refine wpAny_bind ?_;show wpAny _ _ (forIn items _ _) _ _ s;rw [<- aBe];refine wpAny_forIn_list _ (λrest r s'=>r.1=none/\s'=s/\∀ v∈rest,carriedByValue v=true) _ ?_ ?_ _ _ ⟨rfl,rfl,hi.byValue⟩
 ·rintro v rest r s' ⟨hr,rfl,hall⟩;rw [wT 7 (hall v aAh)];refine wpAny_bind (wpAny_pure ?_);simp only [aAk,if_false];exact wpAny_pure ⟨rfl,rfl,λu hu'=>hall u (aAj _ hu')⟩
 ·rintro ⟨r1,r2⟩ s' ⟨hr,rfl,_⟩;simp only at hr;subst hr;exact wpAny_pure h
theorem fC {kx ky:List K} {x y:Addr} {Q:Bool->Shared->Prop} (hx:IsTupleKey kd s.heap kx x) (hy:IsTupleKey kd s.heap ky y) (h:Q false s):wpAny (model P w) A (searchCouldBeSeen (.ref x) [.ref y]) Q E s:=by
 unfold searchCouldBeSeen;simp only [aAP,aA3,carriedByValue,aBj,aBU]
 by_cases e:(x == y)=true
 ·simp only [e,if_true];exact wpAny_bind (wpAny_bind (wpAny_pure (wpAny_pure (wpAny_pure h))))
 ·simp only [e,if_false];refine wpAny_bind (wpAny_bind (wpAny_bind (wpAny_eqIsQuiet_tuple hx ?_)));simp only [aAW,aAk,if_false];refine wpAny_bind (wpAny_eqIsQuiet_tuple hy ?_);simp only [aAW,aAk,if_false];refine wpAny_bind (kH hx ?_);simp only [aAk,if_false];refine wpAny_bind (kH hy ?_);simp only [aAk,if_false];exact wpAny_pure (wpAny_pure (wpAny_pure h))
theorem uI {fg mv:Nat} {l p:Bool} {hs:Nat->Int} {h:Int} {f:Nat} {j pt:Nat}:SetTable.probe.go (smT #[] fg mv l p) hs h (f+1) (pbA j pt)=some (.empty j none):=by
 unfold SetTable.probe.go;rw [HD]
theorem uJ {q fg mv:Nat} {l p:Bool} {h0 h:Int} (e0:(h0 == h)=false) {n j pt:Nat} (hp:pt < 32 ^ n) (h13:n<=13) {hs:Nat->Int} {M:Option SetTable.Met} (hg:(smT #[q] fg mv l p).probe hs h (pbA j pt)=M) (e1:hs 0=h0):∃ j',M=some (.empty j' none):=by
 obtain ⟨j',e⟩:=nJ (q:=q) (fg:=fg) (mv:=mv) (l:=l) (p:=p) (hs:=hs) (h:=h) (by rw [e1];exact e0) n (10*SetTable.turns 7) j pt hp (by show n+2<=220;lia);exact ⟨j',hg.symm.trans e⟩
theorem nK {q fg mv:Nat} {l p:Bool} {h0 h:Int} (e0:(h0 == h)=true) {j pt:Nat} {hs:Nat->Int} (e1:hs 0=h0):(smT #[q] fg mv l p).probe hs h (pbA j pt)=if q=j then some (.candidate j 0 (pbA ((j*5+1+pt / 32) % 8) (pt / 32))) else some (.empty j none):=by
 show SetTable.probe.go (smT #[q] fg mv l p) _ h (219+1) (pbA j pt)=_;unfold SetTable.probe.go;rw [nI]
 by_cases e:q=j
 ·subst e;rw [if_pos rfl,if_pos rfl,HE];dsimp only;rw [e1,if_pos e0]
 ·rw [if_neg e,if_neg e]
theorem sJ {q fg mv:Nat} {l p:Bool} {h:Int} {j pt:Nat} {hs:Nat->Int} (ne:¬ q=j):(smT #[q] fg mv l p).probe hs h (pbA j pt)=some (.empty j none):=by
 show SetTable.probe.go (smT #[q] fg mv l p) _ h (219+1) (pbA j pt)=_;unfold SetTable.probe.go;rw [nI,if_neg ne]
theorem pT {a:Addr} {x y:Value} {o:Obj} {q ep fg mv f j pt:Nat} {l p:Bool} {h0 h:Int} {Q:SetFound->Shared->Prop} (ho:s.heap.get? a=some o) (hd:o.data=.set #[(h0,y)] ep (smT #[q] fg mv l p)) (ne:¬ q=j) (hQ:Q (.free j false) s):wpAny (model P w) A (setSearchFrom a x h true (f+1) (some (pbA j pt))) Q E s:=by
 unfold setSearchFrom;refine wpAny_bind (wpAny_setState_of ho hd (0) ?_);dsimp only;rw [show SetTable.gaveWay (smT #[q] fg mv l p)=false by simp [SetTable.gaveWay]];simp only [aAk,if_false];rw [aBH,sJ ne];exact wpAny_pure hQ
theorem qO {a x y:Addr} {o:Obj} {q ep fg mv:Nat} {l p:Bool} {h0 h:Int} {kx ky:List K} {Q:SetFound->Shared->Prop} (ho:s.heap.get? a=some o) (hd:o.data=.set #[(h0,.ref y)] ep (smT #[q] fg mv l p)) (hx:IsTupleKey kd s.heap kx x) (hy:IsTupleKey kd s.heap ky y) (ne:kx≠ky) (hu:A.units < cLine)
  (hQ:∀ j,Q (.free j false) s):∀ (n f j pt:Nat) (st:Option SetTable.Probe),st.getD ((smT #[q] fg mv l p).probeStart h)=pbA j pt->pt < 32 ^ n->n<=13->n+2<=f->wpAny (model P w) A (setSearchFrom a (.ref x) h true f st) Q E s
 | n,0,_,_,_,_,_,_,z=>by lia
 | n,f+1,j,pt,st,es,hp,h13,hf=>by
  unfold setSearchFrom;refine wpAny_bind (wpAny_setState_of ho hd (0) ?_);dsimp only;rw [show SetTable.gaveWay (smT #[q] fg mv l p)=false by simp [SetTable.gaveWay],es];simp only [aAk,if_false]
  by_cases e0:(h0 == h)=true
  rotate_left
  ·generalize hg:SetTable.probe _ _ _ _=M
   obtain ⟨j',rfl⟩:=uJ (h0:=h0) (aBc.mpr e0) hp h13 hg rfl;exact wpAny_pure (hQ j')
  rw [nK e0 rfl]
  by_cases e:q=j
  rotate_left
  ·rw [if_neg e];exact wpAny_pure (hQ j)
  subst e;rw [if_pos rfl];dsimp only;have ef:(List.map (λx=>x.2) ((#[(h0,Value.ref y)]:Array (Int×Value)).filter λx=>x.1 == h).toList)=[Value.ref y]:=by
   simp [e0]
  rw [ef];have rest:∀ Q':Bool->Shared->Prop,Q' false s->wpAny (model P w) A (holding [Value.ref y] (eqBool (.ref y) (.ref x))) Q' E s:=by
   intro Q' hq;refine wpAny_holding (wpAny_eqBool_tuple hu hy hx ?_);rw [decide_eq_false λz=>ne z.symm];exact hq
  have f2:∀ (R:Sem SetFound),wpAny (model P w) A R Q E s->wpAny (model P w) A (if (!l)=true then do
    let d <- searchCouldBeSeen (Value.ref x) [Value.ref y]
    if d=true then do
     unsupported "set:the-search-would-show-the-table"
     R
    else R
    else R) Q E s:=by
   intro R hR
   split
   ·refine wpAny_bind (fC hx hy ?_);simp only [aAk,if_false];exact hR
   ·exact hR
  refine f2 _ ?_;simp only [aBs,aBk];refine wpAny_bind (rest _ ?_);refine wpAny_bind (wpAny_setState_of ho hd (0) ?_);simp only [aBj,aAk,if_false];rw [show (smT #[q] fg mv l p).sameMemory mv 7=some true by simp [SetTable.sameMemory]];dsimp only;rw [if_pos rfl,nI,if_pos rfl];simp only [aBs,aBk];refine wpAny_bind (wpAny_isSame_ref_self ?_);refine wpAny_bind (wpAny_pure ?_);simp only [if_true]
  cases n with
  | zero =>
   have e0:pt=0:=by lia
   subst e0;obtain ⟨f,rfl⟩:∃ g,f=g+1:=⟨f - 1,by lia⟩;exact pT ho hd (by lia) (hQ _)
  | succ n=>exact qO ho hd hx hy ne hu hQ n f _ _ (some _) rfl (by rw [aBV] at hp;lia) (by lia) (by lia)
def nL (h:Heap) (S:Addr) (n:Nat):Prop:=∃ o es ep t,h.get? S=some o/\o.ExactSet/\o.data=.set es ep t/\t.fits es.size=true/\es.size=n
theorem nM {S x:Addr} {o:Obj} {es es':Array (Int×Value)} {t0:SetTable} {pl:Array Nat} {fg mv ep:Nat} {l p:Bool} {kx:List K} {Q:Bool->Shared->Prop} {G:Sem Bool} (ho:s.heap.get? S=some o) (hd:o.data=.set es ep t0) (hx:IsTupleKey kd s.heap kx x) (hz:es'.size<=2) (hp:pl.size<=2)
  (hQ:∀ h' p',Heap.SameBut S s.heap h'->h'.get? S=some { o with data:=.set es' (ep+1) (smT pl fg mv l p') }->Q true { s with heap:=h' }) :
  wpAny (model P w) A (if p=true then do
    let byValue <- hashByValue 8 (Value.ref x)
    storeSet S es' (if byValue=true then smT pl fg mv l p else smT pl fg mv l false)
    if (!false && (if byValue=true then smT pl fg mv l p else smT pl fg mv l false).tooFull)=true then G else pure true
   else do
    let byValue <- pure true
    storeSet S es' (if byValue=true then smT pl fg mv l p else smT pl fg mv l false)
    if (!false && (if byValue=true then smT pl fg mv l p else smT pl fg mv l false).tooFull)=true then G else pure true) Q E s:=by
 have sz:es'.size<=sizeLine:=aAx hz (by decide);have tf:∀ b:Bool,wpAny (model P w) A (do
   storeSet S es' (if b=true then smT pl fg mv l p else smT pl fg mv l false)
   if (!false && (if b=true then smT pl fg mv l p else smT pl fg mv l false).tooFull)=true then G else pure true) Q E s:=by
  intro b;obtain ⟨p',e⟩:∃ p',(if b=true then smT pl fg mv l p else smT pl fg mv l false)=smT pl fg mv l p':=by
   cases b
   ·exact ⟨false,rfl⟩
   ·exact ⟨p,rfl⟩
  rw [e];refine wpAny_bind (wpAny_storeSet_of ho hd ?_ sz);have e2:(smT pl fg mv l p').tooFull=false:=by
   simp only [SetTable.tooFull,SetTable.fill];refine decide_eq_false ?_;show ¬ (pl.size+0)*5≥7*3;lia
  rw [e2];refine wpAny_pure (hQ _ p' (Heap.SameBut.update _ _ _) ?_);have:=aAJ (Obj.putSet es' (smT pl fg mv l p')) ho (by rw [putSet_of es' _ hd];rfl);rw [putSet_of es' _ hd] at this;exact this
 split
 ·exact wpAny_bind (sI hx λb=>tf b)
 ·exact wpAny_bind (wpAny_pure (tf true))
theorem IF {S x y:Addr} {o:Obj} {q fg mv ep:Nat} {l p:Bool} {h0 h:Int} {kx ky:List K} {Q:Bool->Shared->Prop} (ho:s.heap.get? S=some o) (he:o.ExactSet) (hd:o.data=.set #[(h0,.ref y)] ep (smT #[q] fg mv l p)) (hx:IsTupleKey kd s.heap kx x) (hy:IsTupleKey kd s.heap ky y) (ne:kx≠ky) (hu:A.units < cLine)
  (hQ:∀ h',Heap.SameBut S s.heap h'->nL h' S 2->Q true { s with heap:=h' }):wpAny (model P w) A (setAddHashed S (.ref x) h) Q E s:=by
 unfold setAddHashed;refine wpAny_holding ?_;show wpAny _ _ (setAddHashedIn S (.ref x) h (99999+1)) Q E s;unfold setAddHashedIn;refine wpAny_bind (wpAny_setState_of ho hd (0) ?_);dsimp only;rw [show byScan (.ref x) #[(h0,.ref y)]=false by simp [byScan,Value.scannable]];simp only [aAk,if_false];unfold setSearch;refine wpAny_bind (qO ho hd hx hy ne hu (λj=>?_) 13 100000 _ _ none pS (uH h) (by lia) (by lia));dsimp only;refine wpAny_bind (wpAny_setState_of ho hd (0) ?_);dsimp only;obtain ⟨r,pl,e1,hr,hpl⟩:∃ r pl,SetTable.put (smT #[q] fg mv l p) j=(smT pl fg mv l p,r)/\r<=1/\pl.size=2:=by
  by_cases c:q < j
  ·exact ⟨1,#[q,j],by simp [SetTable.put,SetTable.below,SetTable.below.go,SetTable.insertAt,SetTable.has,c],by lia,rfl⟩
  ·exact ⟨0,#[j,q],by simp [SetTable.put,SetTable.below,SetTable.below.go,SetTable.insertAt,SetTable.has,c],by lia,rfl⟩
 rw [e1];dsimp only;have e2:(SetTable.insertAt (#[(h0,.ref y)]:Array (Int×Value)) r (h,Value.ref x)).size=2:=by
  obtain rfl | rfl:r=0\/r=1:=by lia
  ·simp [SetTable.insertAt]
  ·simp [SetTable.insertAt]
 refine nM ho hd hx (by rw [e2];decide) (by rw [hpl];decide) λh' p' sb e=>hQ h' sb ⟨_,_,_,_,e,he,rfl,?_,e2⟩;rw [e2];simp [SetTable.fits,SetTable.fill,hpl]
end
section
variable {P:Program} {w:World} {A:Around} {R:Result->Shared->Prop} {it:Addr} {fp wr:List Addr} {G:Array GenState->Array GenState->Prop} {n:Nat} {Pt:Nat->Value->Prop} {St:Nat->Shared->Prop}
end
section
variable {P:Program} {w:World} {A:Around} {E:Value->Shared->Prop} {s:Shared}
end
section
variable {X:Cx}
end
def Bn (t:Bool):String:=if t then "tuple_iterator" else "list_iterator"
def IG (t:Bool):String:=if t then "tuple" else "list"
def ItXe (t:Bool) (h:Heap) (a l:Addr) (i:Nat):Prop:=∃ o,h.get? a=some o/\o.cls=.type (Bn t)/\o.data=.fields #[.ref l,.int i 0]
def TsXe (t:Bool) (h:Heap) (a:Addr) (items:Array Value):Prop:=∃ o,h.get? a=some o/\o.cls=.type (IG t)/\∃ n,o.data=.seq items n
theorem ItXe.extBut {t:Bool} {h h':Heap} {a b l:Addr} {i:Nat} (x:ItXe t h a l i) (hs:Heap.ExtBut b h h') (hab:a≠b):ItXe t h' a l i:=let ⟨o,ho,r⟩:=x;⟨o,hs a o hab ho,r⟩
theorem TsXe.extBut {t:Bool} {h h':Heap} {a b:Addr} {items:Array Value} (x:TsXe t h a items) (hs:Heap.ExtBut b h h') (hab:a≠b):TsXe t h' a items:=let ⟨o,ho,r⟩:=x;⟨o,hs a o hab ho,r⟩
section
variable {prog:Program} {w:World} {A:Around} {E:Value->Shared->Prop} {s:Shared}
theorem dJ {t':Bool} {b t:Addr} {k:Nat} {its:Array Value} {v:Value} {Q:Value->Shared->Prop} (hb:ItXe t' s.heap b t k) (ht:TsXe t' s.heap t its) (hv:its[k]?=some v)
  (q:∀ h',ItXe t' h' b t (k+1)->Heap.SameBut b s.heap h'->Q v { s with heap:=h' }):wpAny (model prog w) A (Builtin.SmallTypes.nextOf (.ref b)) Q E s:=by
 cases t'
 ·exact wpAny_nextOf_list_item hb ht hv q
 ·exact c5 hb ht hv q
theorem iO {t':Bool} {b t:Addr} {k:Nat} {its:Array Value} {Q:Value->Shared->Prop} (hh:A.handled=none) (hb:ItXe t' s.heap b t k) (ht:TsXe t' s.heap t its) (hv:its[k]?=none)
  (q:∀ h' e,Heap.ExtBut b s.heap h'->(∃ o,h'.get? e=some o/\o.cls=.type "StopIteration")->E (.ref e) { s with heap:=h' }):wpAny (model prog w) A (Builtin.SmallTypes.nextOf (.ref b)) Q E s:=by
 cases t'
 ·exact wpAny_nextOf_list_end hh hb ht hv q
 ·exact gj hh hb ht hv q
end
section
variable {X:Cx} {pins:List (Addr×Obj)} {σ:St} {H:Hp} {s:Shared}
theorem Inv.seqE {t:Bool} {a:Addr} {xs:List V} (I:Inv X pins σ H s) (h:SqE t X.K H a xs):∃ its:List Value,Vals xs its/\TsXe t s.heap a its.toArray/\xs.length<=sizeLine:=by
 cases t
 ·obtain ⟨its,r,p,z⟩:=I.list h;exact ⟨its,r,p.isList,z⟩
 ·exact I.tuple h
theorem Inv.seqE_inj {t:Bool} {a:Addr} {xs ys:List V} (I:Inv X pins σ H s) (h:SqE t X.K H a xs) (h':SqE t X.K H a ys):xs=ys:=by
 cases t
 ·exact I.list_inj h h'
 ·exact I.tuple_inj h h'
end
section
variable {prog:Program} {w:World} {A:Around} {E:Value->Shared->Prop} {s:Shared}
theorem pU {ta tb:Bool} {z P0 P1 u v l m:Addr} {k:Nat} {xs ys:Array Value} {x y a b:Value} {Q:Option Value->Shared->Prop} (D:ZipApart z P0 P1 u v l m) (Z:IsZip s.heap z P0 P1 .none) (I0:IsPair s.heap P0 (.ref u) (.ref v)) (I1:IsPair s.heap P1 a b)
  (wu:ItXe ta s.heap u l k) (wv:ItXe tb s.heap v m k) (tl:TsXe ta s.heap l xs) (tm:TsXe tb s.heap m ys) (ex:xs[k]?=some x) (ey:ys[k]?=some y)
  (q:∀ h',IsZip h' z P0 P1 (rawInt s.heap.objs.size)->IsPair h' P1 x y->ItXe ta h' u l (k+1)->ItXe tb h' v m (k+1)->IsPair h' s.heap.objs.size x y->h'.objs.size=s.heap.objs.size+1 ->
   (∀ c o,c≠z->c≠P1->c≠u->c≠v->s.heap.get? c=some o->h'.get? c=some o)->Q (some (.ref s.heap.objs.size)) { s with heap:=h' }):wpAny (model prog w) A (pyNext (.ref z)) Q E s:=by
 have hT:s.TypeIs (.ref z) "zip" :=⟨_,Z,rfl⟩;unfold pyNext;refine wpAny_bind (wpAny_attempt (wpAny_callSpecial?_slot (name:=Str.ofString "__next__") hT F.slot_zip_next (wpAny_call_entry F.slot_zip_next hT F.entry_zip_next ?_ (F.args_zip_next_1 _))));refine show wpAny _ _ (field (.ref z) 2 >>= _) _ _ _ from wpAny_bind (wpAny_field Z rfl (x:=.bool false) rfl ?_);refine show wpAny _ _ (field (.ref z) 3 >>= _) _ _ _ from wpAny_bind (wpAny_field Z rfl (x:=.ref P0) rfl (wpAny_bind (wpAny_seqItems I0 rfl ?_)));refine show wpAny _ _ (Builtin.SmallTypes.ownedTupleIsFree (.ref z) >>= _) _ _ _ from wpAny_bind ?_;unfold Builtin.SmallTypes.ownedTupleIsFree;refine wpAny_bind (wpAny_field Z rfl (x:=.none) rfl (wpAny_pure ?_));rw [if_pos rfl];refine wpAny_bind (wpAny_rule (wpAny_bind (wpAny_field Z rfl (x:=.ref P1) rfl (wpAny_bind (wpAny_setField_rec Z (by simp) λha Za sa=>?_)))));replace Za:IsZip ha z P0 P1 .ellipsis:=Za;refine wpAny_bind ?_;simp only [aBp,aAP,aBw,aA3];refine wpAny_bind (wpAny_bind (wpAny_onRaise ?_));refine show wpAny _ _ (Builtin.SmallTypes.nextOf (.ref u) >>= _) _ _ _ from wpAny_bind (dJ (wu.extBut sa.extBut D.i1z) (tl.extBut sa.extBut D.l1z) ex λhb wb sb=>wpAny_pure ?_);have Ib:IsPair hb P1 a b:=sb.extBut _ _ D.TOi1 (sa.extBut _ _ D.TOz I1);refine wpAny_bind (wpAny_seqItems Ib rfl (wpAny_bind (wpAny_updateSeq_pair Ib λhc Ic sc=>wpAny_bind (wpAny_letGo (wpAny_pure ?_)))));replace Ic:IsPair hc P1 x b:=Ic;refine wpAny_bind (wpAny_bind (wpAny_onRaise ?_));refine show wpAny _ _ (Builtin.SmallTypes.nextOf (.ref v) >>= _) _ _ _ from wpAny_bind (dJ (((wv.extBut sa.extBut D.i2z).extBut sb.extBut D.i12.symm).extBut sc.extBut D.TOi2.symm) (((tm.extBut sa.extBut D.l2z).extBut sb.extBut D.l2i1).extBut sc.extBut D.l2TO) ey λhd wd sd=>wpAny_pure ?_);have Id:IsPair hd P1 x b:=sd.extBut _ _ D.TOi2 Ic;refine wpAny_bind (wpAny_seqItems Id rfl (wpAny_bind (wpAny_updateSeq_pair Id λhe Ie se=>wpAny_bind (wpAny_letGo (wpAny_pure (wpAny_pure ?_))))));replace Ie:IsPair he P1 x y:=Ie;refine wpAny_bind (wpAny_seqItems Ie rfl (wpAny_bind (wpAny_newTuple ?_)));have size:he.objs.size=s.heap.objs.size:=by rw [se.1,sd.1,sc.1,sb.1,sa.1]
 have Ze:IsZip he z P0 P1 .ellipsis:=se.extBut _ _ D.TOz.symm (sd.extBut _ _ D.i2z.symm (sc.extBut _ _ D.TOz.symm (sb.extBut _ _ D.i1z.symm Za)));have keep:∀ c o,c≠z->c≠P1->c≠u->c≠v->s.heap.get? c=some o->he.get? c=some o:=λc o n1 n2 n3 n4 e=>se.extBut _ _ n2 (sd.extBut _ _ n4 (sc.extBut _ _ n2 (sb.extBut _ _ n3 (sa.extBut _ _ n1 e))));have we:ItXe ta he u l (k+1):=((wb.extBut sc.extBut D.TOi1.symm).extBut sd.extBut D.i12).extBut se.extBut D.TOi1.symm;have we':ItXe tb he v m (k+1):=wd.extBut se.extBut D.TOi2.symm;have ltz:z < he.objs.size:=aAd Ze;refine show wpAny _ _ (Builtin.SmallTypes.ownedTupleHandOut (.ref z) (.ref he.objs.size) >>= _) _ _ _ from wpAny_bind ?_;unfold Builtin.SmallTypes.ownedTupleHandOut;have Zf:IsZip (he.push { cls:=.type "tuple",data:=.seq #[x,y] }) z P0 P1 .ellipsis:=aAa _ Ze;refine wpAny_bind (wpAny_setField_rec Zf (by simp) λhg Zg sg=>?_);replace Zg:IsZip hg z P0 P1 (rawInt he.objs.size):=Zg;refine wpAny_setField_rec Zg (by simp) λhi Zi si=>?_;replace Zi:IsZip hi z P0 P1 (rawInt he.objs.size):=Zi;have up:∀ c o,c≠z->he.get? c=some o->hi.get? c=some o:=λc o n e=>si.extBut _ _ n (sg.extBut _ _ n (aAa _ e));have Ti:IsPair hi he.objs.size x y:=si.extBut _ _ (aAT ltz) (sg.extBut _ _ (aAT ltz) (aAf _ rfl));have size':hi.objs.size=he.objs.size+1:=by rw [si.1,sg.1,aAC]
 refine wpAny_pure ⟨_,rfl,wpAny_pure ?_⟩;rw [size] at Zi Ti size';have go:=q hi Zi (up _ _ D.TOz Ie) (by obtain ⟨o,e,r⟩:=we;exact ⟨o,up _ o D.i1z e,r⟩) (by obtain ⟨o,e,r⟩:=we';exact ⟨o,up _ o D.i2z e,r⟩) Ti size' λc o n1 n2 n3 n4 e=>up c o n1 (keep c o n1 n2 n3 n4 e);rw [<- size] at go;exact go
theorem sK {ta tb:Bool} {z P0 P1 u v l m:Addr} {k:Nat} {xs ys:Array Value} {a b:Value} {Q:Option Value->Shared->Prop} (hh:A.handled=none) (D:ZipApart z P0 P1 u v l m) (Z:IsZip s.heap z P0 P1 .none) (I0:IsPair s.heap P0 (.ref u) (.ref v)) (I1:IsPair s.heap P1 a b)
  (wu:ItXe ta s.heap u l k) (wv:ItXe tb s.heap v m k) (tl:TsXe ta s.heap l xs) (tm:TsXe tb s.heap m ys) (no:xs[k]?=none\/ys[k]?=none)
  (q:∀ h',(∀ c o,c≠z->c≠P1->c≠u->c≠v->s.heap.get? c=some o->h'.get? c=some o)->Q none { s with heap:=h' }):wpAny (model prog w) A (pyNext (.ref z)) Q E s:=by
 have hT:s.TypeIs (.ref z) "zip" :=⟨_,Z,rfl⟩;unfold pyNext;refine wpAny_bind (wpAny_attempt (wpAny_callSpecial?_slot (name:=Str.ofString "__next__") hT F.slot_zip_next (wpAny_call_entry F.slot_zip_next hT F.entry_zip_next ?_ (F.args_zip_next_1 _))));refine show wpAny _ _ (field (.ref z) 2 >>= _) _ _ _ from wpAny_bind (wpAny_field Z rfl (x:=.bool false) rfl ?_);refine show wpAny _ _ (field (.ref z) 3 >>= _) _ _ _ from wpAny_bind (wpAny_field Z rfl (x:=.ref P0) rfl (wpAny_bind (wpAny_seqItems I0 rfl ?_)));refine show wpAny _ _ (Builtin.SmallTypes.ownedTupleIsFree (.ref z) >>= _) _ _ _ from wpAny_bind ?_;unfold Builtin.SmallTypes.ownedTupleIsFree;refine wpAny_bind (wpAny_field Z rfl (x:=.none) rfl (wpAny_pure ?_));rw [if_pos rfl];refine wpAny_bind (wpAny_rule (wpAny_bind (wpAny_field Z rfl (x:=.ref P1) rfl (wpAny_bind (wpAny_setField_rec Z (by simp) λha Za sa=>?_)))));replace Za:IsZip ha z P0 P1 .ellipsis:=Za;refine wpAny_bind ?_;simp only [aBp,aAP,aBw,aA3];refine wpAny_bind (wpAny_bind (wpAny_onRaise ?_));have stop:∀ {h':Heap} {e:Addr},(∃ o,h'.get? e=some o/\o.cls=.type "StopIteration")->IsZip h' z P0 P1 .ellipsis->e≠z:=λhe hz c=>by
  obtain ⟨o,ho,hc⟩:=he;subst c;rw [hz] at ho
  cases ho
  simp at hc
 have fin:∀ {h':Heap} {e:Addr},(∃ o,h'.get? e=some o/\o.cls=.type "StopIteration")->(∀ c o,c≠z->c≠P1->c≠u->c≠v->s.heap.get? c=some o->h'.get? c=some o) ->
   wpAny (model prog w) A (do if (<- isInstance (.ref e) (.type "StopIteration")) then pure none else throw (.ref e)) Q E { s with heap:=h' }:=λ{h' e} he hk=>by
  obtain ⟨o,ho,hc⟩:=he;exact wpAny_bind (wpAny_isInstance (T:= "StopIteration") (b:=true) ⟨o,ho,hc⟩ isSubtype_stop (wpAny_pure (q _ hk)))
 cases ex:xs[k]? with
 | none =>
  refine show wpAny _ _ (Builtin.SmallTypes.nextOf (.ref u) >>= _) _ _ _ from wpAny_bind (iO hh (wu.extBut sa.extBut D.i1z) (tl.extBut sa.extBut D.l1z) ex λhb e sb he=>?_);have Zb:IsZip hb z P0 P1 .ellipsis:=sb _ _ D.i1z.symm Za;have ne:=stop he Zb;obtain ⟨o,ho,hc⟩:=he;exact wpAny_setField_rec Zb (by simp) λhd _ sd=>fin ⟨o,sd.extBut _ _ ne ho,hc⟩ λc o n1 _ n3 _ e=>sd.extBut _ _ n1 (sb _ _ n3 (sa.extBut _ _ n1 e))
 | some x =>
  have ey:ys[k]?=none:=no.resolve_left (by rw [ex];simp);refine show wpAny _ _ (Builtin.SmallTypes.nextOf (.ref u) >>= _) _ _ _ from wpAny_bind (dJ (wu.extBut sa.extBut D.i1z) (tl.extBut sa.extBut D.l1z) ex λhb wb sb=>wpAny_pure ?_);have Ib:IsPair hb P1 a b:=sb.extBut _ _ D.TOi1 (sa.extBut _ _ D.TOz I1);refine wpAny_bind (wpAny_seqItems Ib rfl (wpAny_bind (wpAny_updateSeq_pair Ib λhc Ic sc=>wpAny_bind (wpAny_letGo (wpAny_pure (wpAny_bind (wpAny_bind (wpAny_onRaise ?_))))))));refine show wpAny _ _ (Builtin.SmallTypes.nextOf (.ref v) >>= _) _ _ _ from wpAny_bind (iO hh (((wv.extBut sa.extBut D.i2z).extBut sb.extBut D.i12.symm).extBut sc.extBut D.TOi2.symm) (((tm.extBut sa.extBut D.l2z).extBut sb.extBut D.l2i1).extBut sc.extBut D.l2TO) ey λhd e sd he=>?_);have Zd:IsZip hd z P0 P1 .ellipsis:=sd _ _ D.i2z.symm (sc.extBut _ _ D.TOz.symm (sb.extBut _ _ D.i1z.symm Za));have ne:=stop he Zd;obtain ⟨o,ho,hcl⟩:=he;exact wpAny_setField_rec Zd (by simp) λhf _ sf=>fin ⟨o,sf.extBut _ _ ne ho,hcl⟩ λc o n1 n2 n3 n4 e=>sf.extBut _ _ n1 (sd _ _ n4 (sc.extBut _ _ n2 (sb.extBut _ _ n3 (sa.extBut _ _ n1 e))))
theorem uK {ta tb:Bool} (hh:A.handled=none) (z P0 P1 u v l m:Addr) (D:ZipApart z P0 P1 u v l m) (xs ys:Array Value) :
  WalksT prog w A z [z,P0,P1,u,v,l,m] [z,P1,u,v] (min xs.size ys.size) (λi vals=>∃ x y,xs[i]?=some x/\ys[i]?=some y/\vals=#[x,y])
   (λi h=>IsZip h z P0 P1 .none/\IsPair h P0 (.ref u) (.ref v)/\(∃ a b,IsPair h P1 a b)/\ItXe ta h u l i/\ItXe tb h v m i/\TsXe ta h l xs/\TsXe tb h m ys)
   (λi T h=>IsZip h z P0 P1 (rawInt T)/\IsPair h P0 (.ref u) (.ref v)/\(∃ a b,IsPair h P1 a b)/\ItXe ta h u l (i+1)/\ItXe tb h v m (i+1)/\TsXe ta h l xs/\TsXe tb h m ys/\T≠z/\T≠P1/\T≠u/\T≠v) where
 sub:=λc hc=>by
  simp only [aAb,aAc,or_false] at hc ⊢;rcases hc with h | h | h | h <;> simp [h]
 frame:=λi h h' st kk=>by
  obtain ⟨Z,I0,⟨a,b,I1⟩,⟨o1,e1,r1⟩,⟨o2,e2,r2⟩,⟨o3,e3,r3⟩,⟨o4,e4,r4⟩⟩:=st;exact ⟨kk z (by simp) _ Z,kk P0 (by simp) _ I0,⟨a,b,kk P1 (by simp) _ I1⟩,⟨o1,kk u (by simp) _ e1,r1⟩,⟨o2,kk v (by simp) _ e2,r2⟩,⟨o3,kk l (by simp) _ e3,r3⟩,⟨o4,kk m (by simp) _ e4,r4⟩⟩
 item:=λi s Q E hi st q=>by
  obtain ⟨Z,I0,⟨a,b,I1⟩,wu,wv,tl,tm⟩:=st;have h1:i < xs.size:=by lia
  have h2:i < ys.size:=by lia
  refine pU D Z I0 I1 wu wv tl tm (aAO h1) (aAO h2) λh' a1 a2 a3 a4 a5 a6 kk=>?_;have far:∀ {c o},s.heap.get? c=some o->s.heap.objs.size≠c:=λe=>aAT (aAd e);obtain ⟨o1,e1,_⟩:=wu;obtain ⟨o2,e2,_⟩:=wv;obtain ⟨o3,e3,r3⟩:=tl;obtain ⟨o4,e4,r4⟩:=tm;refine q s.heap.objs.size #[xs[i],ys[i]] h' s.toks ⟨_,_,aAO h1,aAO h2,rfl⟩ (aAo _) ⟨_,a5,rfl,_,rfl⟩ ⟨a1,kk _ _ D.TIz D.TITO D.TIi1 D.TIi2 I0,⟨_,_,a2⟩,a3,a4,⟨o3,kk _ _ D.l1z D.l1TO D.l1i1 D.l1i2 e3,r3⟩,⟨o4,kk _ _ D.l2z D.l2TO D.l2i1 D.l2i2 e4,r4⟩,far Z,far I1,far e1,far e2⟩ λc o hc e=>?_;simp only [aAb,aAc,or_false,not_or] at hc;exact kk c o hc.1 hc.2.1 hc.2.2.1 hc.2.2.2 e
 go:=λelts k pos i T s Q E st q=>by
  obtain ⟨Z,I0,⟨a,b,I1⟩,wu,wv,tl,tm,_⟩:=st;refine wpAny_letOwnedTupleGo_zip Z λh' Z' s'=>q h' ⟨Z',s'.extBut _ _ D.TIz I0,⟨a,b,s'.extBut _ _ D.TOz I1⟩,wu.extBut s'.extBut D.i1z,wv.extBut s'.extBut D.i2z,tl.extBut s'.extBut D.l1z,tm.extBut s'.extBut D.l2z⟩ λc o hc e=>?_;simp only [aAb,aAc,or_false,not_or] at hc;exact s'.extBut _ _ hc.1 e
 apart:=λi T h st hT=>by
  obtain ⟨_,_,_,_,_,_,_,n1,n2,n3,n4⟩:=st;simp only [aAb,aAc,or_false] at hT;rcases hT with h | h | h | h
  ·exact n1 h
  ·exact n2 h
  ·exact n3 h
  ·exact n4 h
 done:=λs Q E st q=>by
  obtain ⟨Z,I0,⟨a,b,I1⟩,wu,wv,tl,tm⟩:=st;have no:xs[min xs.size ys.size]?=none\/ys[min xs.size ys.size]?=none:=by
   rcases Nat.le_total xs.size ys.size with h | h
   ·exact .inl (aBg (by lia))
   ·exact .inr (aBg (by lia))
  refine sK hh D Z I0 I1 wu wv tl tm no λh' kk=>q h' s.toks λc o hc e=>?_;simp only [aAb,aAc,or_false,not_or] at hc;exact kk c o hc.1 hc.2.1 hc.2.2.1 hc.2.2.2 e
 self:=λi s Q E st q=>wpAny_pyIter_zip st.1 q
abbrev wU (ta:Bool) (h:Heap) (l:Addr):Heap:=h.push { cls:=.type (Bn ta),data:=.fields #[.ref l,.int 0 0] }
abbrev wV (ta tb:Bool) (h:Heap) (l m:Addr):Heap:=(wU ta h l).push { cls:=.type (Bn tb),data:=.fields #[.ref m,.int 0 0] }
abbrev wW (ta tb:Bool) (h:Heap) (l m:Addr):Heap:=(wV ta tb h l m).push { cls:=.type "tuple",data:=.seq #[.ref h.objs.size,.ref (wU ta h l).objs.size] }
abbrev nN (ta tb:Bool) (h:Heap) (l m:Addr):Heap:=(wW ta tb h l m).push { cls:=.type "tuple",data:=.seq #[.none,.none] }
abbrev iP (ta tb:Bool) (h:Heap) (l m:Addr):Heap:=(nN ta tb h l m).push { cls:=.type "zip",data:=.fields #[.none,.bool false,.bool false,.ref (wV ta tb h l m).objs.size,.ref (wW ta tb h l m).objs.size] }
set_option maxHeartbeats 2000000 in
theorem HF (l m:Addr) (xs ys:Array Value) :
  Meets (Builtin.«zip.__new__» ⟨[.type "zip",.ref l,.ref m],[]⟩) (λ_ R s=>TsXe false s.heap l xs/\TsXe false s.heap m ys/\R (.ok (.ret (.ref (nN false false s.heap l m).objs.size))) { s with heap:=iP false false s.heap l m }) :=
 .of_wp λprog w A R s h=>by
  obtain ⟨hp,g,d,tk,os⟩:=s;obtain ⟨tl,tm,h⟩:=h;have sub:=sub_zip;have T1:Heap.IsList (Shared.heap ⟨hp,g,d,tk,os⟩) l xs:=tl;have T2:Heap.IsList (Shared.heap ⟨hp.push { cls:=.type "list_iterator",data:=.fields #[.ref l,.int 0 0] },g,d,tk,os⟩) m ys:=Heap.IsList.push tm _
  wp_walk using wpAny_pyIter_list T1,wpAny_pyIter_list T2
  exact ⟨_,rfl,h⟩
set_option maxHeartbeats 2000000 in
theorem HG (l m:Addr) (xs ys:Array Value) :
  Meets (Builtin.«zip.__new__» ⟨[.type "zip",.ref l,.ref m],[]⟩) (λ_ R s=>TsXe false s.heap l xs/\TsXe true s.heap m ys/\R (.ok (.ret (.ref (nN false true s.heap l m).objs.size))) { s with heap:=iP false true s.heap l m }) :=
 .of_wp λprog w A R s h=>by
  obtain ⟨hp,g,d,tk,os⟩:=s;obtain ⟨tl,tm,h⟩:=h;have sub:=sub_zip;have T1:Heap.IsList (Shared.heap ⟨hp,g,d,tk,os⟩) l xs:=tl;have T2:IsTup (Shared.heap ⟨hp.push { cls:=.type "list_iterator",data:=.fields #[.ref l,.int 0 0] },g,d,tk,os⟩) m ys:=IsTup.push tm _
  wp_walk using wpAny_pyIter_list T1,iter_tuple T2
  exact ⟨_,rfl,h⟩
set_option maxHeartbeats 2000000 in
theorem HH (l m:Addr) (xs ys:Array Value) :
  Meets (Builtin.«zip.__new__» ⟨[.type "zip",.ref l,.ref m],[]⟩) (λ_ R s=>TsXe true s.heap l xs/\TsXe false s.heap m ys/\R (.ok (.ret (.ref (nN true false s.heap l m).objs.size))) { s with heap:=iP true false s.heap l m }) :=
 .of_wp λprog w A R s h=>by
  obtain ⟨hp,g,d,tk,os⟩:=s;obtain ⟨tl,tm,h⟩:=h;have sub:=sub_zip;have T1:IsTup (Shared.heap ⟨hp,g,d,tk,os⟩) l xs:=tl;have T2:Heap.IsList (Shared.heap ⟨hp.push { cls:=.type "tuple_iterator",data:=.fields #[.ref l,.int 0 0] },g,d,tk,os⟩) m ys:=Heap.IsList.push tm _
  wp_walk using iter_tuple T1,wpAny_pyIter_list T2
  exact ⟨_,rfl,h⟩
set_option maxHeartbeats 2000000 in
theorem HI (l m:Addr) (xs ys:Array Value) :
  Meets (Builtin.«zip.__new__» ⟨[.type "zip",.ref l,.ref m],[]⟩) (λ_ R s=>TsXe true s.heap l xs/\TsXe true s.heap m ys/\R (.ok (.ret (.ref (nN true true s.heap l m).objs.size))) { s with heap:=iP true true s.heap l m }) :=
 .of_wp λprog w A R s h=>by
  obtain ⟨hp,g,d,tk,os⟩:=s;obtain ⟨tl,tm,h⟩:=h;have sub:=sub_zip;have T1:IsTup (Shared.heap ⟨hp,g,d,tk,os⟩) l xs:=tl;have T2:IsTup (Shared.heap ⟨hp.push { cls:=.type "tuple_iterator",data:=.fields #[.ref l,.int 0 0] },g,d,tk,os⟩) m ys:=IsTup.push tm _
  wp_walk using iter_tuple T1,iter_tuple T2
  exact ⟨_,rfl,h⟩
theorem nO (ta tb:Bool) (l m:Addr) (xs ys:Array Value) :
  Meets (Builtin.«zip.__new__» ⟨[.type "zip",.ref l,.ref m],[]⟩) (λ_ R s=>TsXe ta s.heap l xs/\TsXe tb s.heap m ys/\R (.ok (.ret (.ref (nN ta tb s.heap l m).objs.size))) { s with heap:=iP ta tb s.heap l m }):=by
 cases ta <;> cases tb
 ·exact HF l m xs ys
 ·exact HG l m xs ys
 ·exact HH l m xs ys
 ·exact HI l m xs ys
theorem pV {ta tb:Bool} {l m:Addr} {xs ys:Array Value} {Q:Value->Shared->Prop} (tl:TsXe ta s.heap l xs) (tm:TsXe tb s.heap m ys)
  (q:∀ h',IsZip h' (s.heap.objs.size+4) (s.heap.objs.size+2) (s.heap.objs.size+3) .none->IsPair h' (s.heap.objs.size+2) (.ref s.heap.objs.size) (.ref (s.heap.objs.size+1))->IsPair h' (s.heap.objs.size+3) .none .none ->
   ItXe ta h' s.heap.objs.size l 0->ItXe tb h' (s.heap.objs.size+1) m 0->h'.objs.size=s.heap.objs.size+5->(∀ c o,s.heap.get? c=some o->h'.get? c=some o)->Q (.ref (s.heap.objs.size+4)) { s with heap:=h' }) :
  wpAny (model prog w) A (call (.type "zip") [.ref l,.ref m]) Q E s:=by
 refine callType_new F.called_zip (by decide) (F.typeCall_zip_2 _ _) (F.newCall_zip_2 _ _) (λobj=>F.args_object_init_3 obj _ _) F.entry_zip_new (nO ta tb l m xs ys) ⟨tl,tm,?_⟩;have n1:(wU ta s.heap l).objs.size=s.heap.objs.size+1:=aAC ..;have n2:(wV ta tb s.heap l m).objs.size=s.heap.objs.size+2:=by rw [aAC,n1]
 have n3:(wW ta tb s.heap l m).objs.size=s.heap.objs.size+3:=by rw [aAC,n2]
 have n4:(nN ta tb s.heap l m).objs.size=s.heap.objs.size+4:=by rw [aAC,n3]
 have n5:(iP ta tb s.heap l m).objs.size=s.heap.objs.size+5:=by rw [aAC,n4]
 have e5:(iP ta tb s.heap l m).get? (nN ta tb s.heap l m).objs.size=some _:=aAf _ rfl;have e4:(iP ta tb s.heap l m).get? (wW ta tb s.heap l m).objs.size=some _:=aAa _ (aAf _ rfl);have e3:(iP ta tb s.heap l m).get? (wV ta tb s.heap l m).objs.size=some _:=aAa _ (aAa _ (aAf _ rfl));have e2:(iP ta tb s.heap l m).get? (wU ta s.heap l).objs.size=some _:=aAa _ (aAa _ (aAa _ (aAf _ rfl)));have e1:(iP ta tb s.heap l m).get? s.heap.objs.size=some _:=aAa _ (aAa _ (aAa _ (aAa _ (aAf _ rfl))));refine show _/\_ from ?_;rw [n2,n3,n4] at e5;rw [n1,n2] at e3;rw [n3] at e4;rw [n1] at e2;rw [n4];exact ⟨⟨_,e5,rfl⟩,q _ e5 e3 e4 ⟨_,e1,rfl,rfl⟩ ⟨_,e2,rfl,rfl⟩ n5 λc o x=>aAa _ (aAa _ (aAa _ (aAa _ (aAa _ x))))⟩
end
def nP (ta tb:Bool) (K:W.Frag) (a b:Addr):It :=
 ⟨λi H=>∃ xs ys x y,SqE ta K H a xs/\SqE tb K H b ys/\xs[i]?=some x/\ys[i]?=some y,
  λi H v H'=>∃ T x y,v=.ref T/\H T=none/\H'=upd H T (.tup [x,y])/\(∀ xs,SqE ta K H a xs->xs[i]?=some x)/\(∀ ys,SqE tb K H b ys->ys[i]?=some y),
  λi H=>∃ xs ys,SqE ta K H a xs/\SqE tb K H b ys/\min xs.length ys.length=i⟩
def wX (ta tb:Bool) (z TI TO i1 i2 l1 l2:Addr) (i:Nat) (h:Heap):Prop:=IsZip h z TI TO .none/\IsPair h TI (.ref i1) (.ref i2)/\(∃ a b,IsPair h TO a b)/\ItXe ta h i1 l1 i/\ItXe tb h i2 l2 i
theorem pW {ta tb:Bool} {P:Program} {w:World} {K:W.Frag} {elts:List Expr} {k:Nat} {pos:Pos} (z TI TO i1 i2 l1 l2:Addr) (D:ZipApart z TI TO i1 i2 l1 l2) :
  Turn P w K (.Tuple elts k pos) (nP ta tb K l1 l2) [z,TI,TO,i1,i2] z (wX ta tb z TI TO i1 i2 l1 l2) where
 mem:=by simp
 obj:=λi h st b hb=>by
  obtain ⟨hz,hTI,⟨a,c,hTO⟩,⟨o1,e1,c1,d1⟩,⟨o2,e2,c2,d2⟩⟩:=st;simp only [aAb,aAc,or_false] at hb;rcases hb with rfl | rfl | rfl | rfl | rfl
  ·exact ⟨_,hz,λv q=>by cases q⟩
  ·exact ⟨_,hTI,λv q=>by cases q⟩
  ·exact ⟨_,hTO,λv q=>by cases q⟩
  ·exact ⟨o1,e1,λv q=>by rw [d1] at q;cases q⟩
  ·exact ⟨o2,e2,λv q=>by rw [d2] at q;cases q⟩
 keep:=λi h h' st kk=>by
  obtain ⟨hz,hTI,⟨a,c,hTO⟩,⟨o1,e1,r1⟩,⟨o2,e2,r2⟩⟩:=st;exact ⟨kk z (by simp) _ hz,kk TI (by simp) _ hTI,⟨a,c,kk TO (by simp) _ hTO⟩,⟨o1,kk i1 (by simp) _ e1,r1⟩,⟨o2,kk i2 (by simp) _ e2,r2⟩⟩
 item:=by
  intro X hP hw hK hc i pins s σ H E I hf st hg;subst hP hw hK;obtain ⟨xs,ys,x,y,hx,hy,ex,ey⟩:=hg;obtain ⟨its,rv,p,hz⟩:=I.seqE hx;obtain ⟨its2,rv2,p2,hz2⟩:=I.seqE hy;obtain ⟨s1,s2,s3,s4,s5⟩:=st;have W:=uK (ta:=ta) (tb:=tb) (prog:=X.prog) (w:=X.w) (I.ok.hd hc) z TI TO i1 i2 l1 l2 D its.toArray its2.toArray;have li:i < xs.length:=(aAg.mp ex).1;have li2:i < ys.length:=(aAg.mp ey).1;have el:=rv.length;have el2:=rv2.length;have wsub:∀ b∈[z,TO,i1,i2],b∈[z,TI,TO,i1,i2]:=λb hb=>by
   simp only [aAb,aAc,or_false] at hb ⊢;rcases hb with rfl | rfl | rfl | rfl <;> simp
  refine W.item i s _ _ (by simp only [aAm];lia) ⟨s1,s2,s3,s4,s5,p,p2⟩ λT vals h' tk hv hT hTup hm hk=>?_;obtain ⟨u,v,eu,ev,rfl⟩:=hv;obtain ⟨u',eu',ru⟩:=rv.get ex;obtain ⟨v',ev',rv'⟩:=rv2.get ey;have e1:u=u':=by
   have:its[i]?=some u:=by simpa using eu
   rw [eu'] at this;exact (Option.some.inj this).symm
  have e2:v=v':=by
   have:its2[i]?=some v:=by simpa using ev
   rw [ev'] at this;exact (Option.some.inj this).symm
  subst e1 e2;have hTn:H T=none:=I.hok.fresh hT;have I1:Inv X pins σ (upd H T (.tup [x,y])) { s with heap:=h',toks:=tk }:=I.turnedT hk (λb hb=>hf b (wsub b hb)) hT ⟨by show 2<=sizeLine;decide,[u,v],.cons ru (.cons rv' .nil),hTup⟩;have ap:=W.apart i T h' hm;have f1:∀ b∈[z,TO,i1,i2],dD X pins (upd H T (.tup [x,y])) b:=λb hb=>by
   obtain ⟨f0,f1⟩:=hf b (wsub b hb);exact ⟨by rw [ah (λe:b=T=>ap (by rw [<- e];exact hb))];exact f0,f1⟩
  refine ⟨_,rfl,W.go elts k pos i T _ _ _ hm λh'' st2 hk2=>?_⟩;obtain ⟨t1,t2,t3,t4,t5,_,_⟩:=st2;refine ⟨.ref T,_,Inv.turnedL (s:={ s with heap:=h',toks:=tk }) (t':=tk) I1 hk2 f1,rfl,⟨T,x,y,rfl,hTn,rfl,λzs q=>by rw [I.seqE_inj q hx];exact ex,λzs q=>by rw [I.seqE_inj q hy];exact ey⟩,⟨t1,t2,t3,t4,t5⟩,λb hb=>?_⟩;have fb:=(hf b hb).1
  by_cases e:b=T
  ·subst e;have lti:s.heap.objs.size > TI:=aAd s2;simp only [aAb,aAc,or_false] at hb;rcases hb with rfl | rfl | rfl | rfl | rfl
   ·exact absurd (by simp) ap
   ·exact absurd lti (aBT.mpr hT)
   ·exact absurd (by simp) ap
   ·exact absurd (by simp) ap
   ·exact absurd (by simp) ap
  ·rw [ah e];exact fb
 done:=by
  intro X hP hw hK hc i pins s σ H E I hf st hg;subst hP hw hK;obtain ⟨xs,ys,hx,hy,hi⟩:=hg;obtain ⟨its,rv,p,hz⟩:=I.seqE hx;obtain ⟨its2,rv2,p2,hz2⟩:=I.seqE hy;obtain ⟨s1,s2,s3,s4,s5⟩:=st;have W:=uK (ta:=ta) (tb:=tb) (prog:=X.prog) (w:=X.w) (I.ok.hd hc) z TI TO i1 i2 l1 l2 D its.toArray its2.toArray;have el:=rv.length;have el2:=rv2.length;have en:min its.toArray.size its2.toArray.size=i:=by simp only [aAm];lia
  have wsub:∀ b∈[z,TO,i1,i2],b∈[z,TI,TO,i1,i2]:=λb hb=>by
   simp only [aAb,aAc,or_false] at hb ⊢;rcases hb with rfl | rfl | rfl | rfl <;> simp
  refine W.done s _ _ ?_ λh' tk hk=>⟨rfl,I.turnedL hk λb hb=>hf b (wsub b hb)⟩;rw [en];exact ⟨s1,s2,s3,s4,s5,p,p2⟩
 self:=λ_ _ _ _ _ st h=>wpAny_pyIter_zip st.1 h
section
variable {X:Cx} {elts:List Expr} {k:Nat} {tpos:Pos}
def Bo (K:W.Frag) (te:TA):TI:=λσ H R=>te σ H λvs H1=>∃ (ta tb:Bool) (a b:Addr),vs=[.ref a,.ref b]/\(∃ xs,SqE ta K H1 a xs)/\(∃ ys,SqE tb K H1 b ys)/\R (nP ta tb K a b) H1
theorem nQ {a b:Expr} {te:TA} {p pos:Pos} (hg:Gl X "zip") (hm:X.mg "zip" = none) (ha:PA X [a,b] te) (hs:starEach [a,b] X.env=[(false,eval a X.env),(false,eval b X.env)]:=by rfl) (hs2:starEach [b] X.env=[(false,eval b X.env)]:=by rfl) :
  PI X (.Tuple elts k tpos) (.Call (.Name "zip" p) [a,b] [] pos) (Bo X.K te):=by
 intro pins s σ H R I h;refine Call_ (dC I hg hm boot_zip (PyProof.Rows.callWith_type1 (thn (ha pos pins s σ H _ I h) λus s1 ⟨vs,H1,I1,r1,q1⟩=>?_) (by rw [hs,hs2]) (by rw [hs2];rfl)));obtain ⟨ta,tb,l1,l2,e,⟨xs,hx⟩,⟨ys,hy⟩,q⟩:=q1;subst e;obtain ⟨u,v,rfl,ru,rv⟩:=r1.two
 cases ru
 cases rv
 obtain ⟨its,rr,pl,hz⟩:=I1.seqE hx;obtain ⟨its2,rr2,pl2,hz2⟩:=I1.seqE hy;have lt1:l1 < s1.heap.objs.size:=by obtain ⟨o,e,_⟩:=pl;exact aAd e
 have lt2:l2 < s1.heap.objs.size:=by obtain ⟨o,e,_⟩:=pl2;exact aAd e
 refine pV pl pl2 λh' z1 z2 z3 z4 z5 zs kk=>?_;have I2:Inv X pins σ H1 { s1 with heap:=h' }:=I1.kept (t':=s1.toks) kk;refine wpAny_pyIter_zip z1 ?_;refine ⟨_,_,_,_,H1,rfl,I2,pW _ _ _ _ _ l1 l2 ?_,⟨z1,z2,⟨_,_,z3⟩,z4,z5⟩,λb hb=>?_,q⟩
 ·have lt1':s1.heap.objs.size > l1:=lt1;have lt2':s1.heap.objs.size > l2:=lt2
  constructor <;> (show ¬ (@Eq Nat _ _)) <;> lia
 ·have:s1.heap.objs.size<=b:=by
   simp only [aAb,aAc,or_false] at hb;rcases hb with rfl | rfl | rfl | rfl | rfl <;> lia
  exact I1.fpOk this (I1.hok.fresh this)
end
theorem nR {K:W.Frag} {tp tq:Bool} {a b:Addr} {xs ys:List V} {g:TG} {tb:TS} {D:Ends} {σ:St} {H:Hp} (Pv:Nat->St->Hp->Prop) (h0:Pv 0 σ H) (hl:∀ i σ H,Pv i σ H->SqE tp K H a xs/\SqE tq K H b ys)
  (hs:∀ i x y T σ H,xs[i]?=some x->ys[i]?=some y->H T=none->Pv i σ H->g (.ref T) σ (upd H T (.tup [x,y])) λσ2 H2=>tb { D with nx:=Pv (i+1),ct:=Pv (i+1),bk:=D.nx } σ2 H2) (hd:∀ σ H,Pv (min xs.length ys.length) σ H->D.nx σ H) :
  ∃ W:Nat->Nat->St->Hp->Prop,(∃ m,W 0 m σ H)/\∀ i m σ H,W i m σ H ->
   ((nP tp tq K a b).stop i H/\D.nx σ H)\/((nP tp tq K a b).go i H/\∃ N:St->Hp->Prop,(∀ σ' H',N σ' H'->∃ m',m' < m/\W (i+1) m' σ' H')/\∀ x H',(nP tp tq K a b).yld i H x H'->g x σ H' λσ2 H2=>tb { D with nx:=N,ct:=N,bk:=D.nx } σ2 H2):=by
 refine ⟨λi m σ H=>m=min xs.length ys.length - i/\i<=min xs.length ys.length/\Pv i σ H,⟨_,rfl,aAF _,h0⟩,?_⟩;rintro i m σ H ⟨rfl,hi,p⟩;obtain ⟨sa,sb⟩:=hl i σ H p
 by_cases hlt:i < min xs.length ys.length
 ·obtain ⟨x,ex⟩:∃ x,xs[i]?=some x:=⟨_,aAp (by lia)⟩;obtain ⟨y,ey⟩:∃ y,ys[i]?=some y:=⟨_,aAp (by lia)⟩;refine .inr ⟨⟨xs,ys,x,y,sa,sb,ex,ey⟩,Pv (i+1),λσ' H' p'=>⟨min xs.length ys.length - (i+1),by lia,rfl,by lia,p'⟩,λv H' q=>?_⟩;obtain ⟨T,x',y',rfl,hT,rfl,q1,q2⟩:=q;have e1:=q1 xs sa;have e2:=q2 ys sb;rw [ex] at e1;rw [ey] at e2
  cases e1
  cases e2
  exact hs i x y T σ H ex ey hT p
 ·have e:i=min xs.length ys.length:=by lia
  subst e;exact .inl ⟨⟨xs,ys,sa,sb,rfl⟩,hd σ H p⟩
section
variable {X:Cx}
end
section
variable {X:Cx}
end
def DicG (P:Program) (w:World) (K:W.Frag) (H:Hp) (a:Addr) (kvs:List (List Key×Dt)):Prop:=DicT P w K H a kvs\/(kvs=[]/\H a=some (.dK []))
section
variable {X:Cx} {pins:List (Addr×Obj)} {σ:St} {H:Hp} {s:Shared}
theorem pX {a:Addr} (I:Inv X pins σ H s) (e:H a=some (.dK [])):(a == sysModules)=false/\s.heap.DictOfH (tupleKind (ag X.prog X.w)) a []:=by
 obtain ⟨_,hd,vs,rel,⟨ob,es,ep,h1,h2,h3,h4,h5,h6⟩⟩:=xL I.hok e
 cases rel
 refine ⟨hd,ob,es,ep,h1,h2,h3,?_,λx hx=>by simp at hx,by simp⟩;have:=h5.length
 simpa using this
theorem DicG.dict {a:Addr} {kvs:List (List Key×Dt)} (I:Inv X pins σ H s) (h:DicG X.prog X.w X.K H a kvs):(a == sysModules)=false/\Mut (H a)/\∃ xs:List (List Key×Addr×Value),s.heap.DictOfH (tupleKind (ag X.prog X.w)) a xs /\
  Paired (λ(a:List Key×Dt) (b:List Key×Addr×Value)=>a.1=b.1/\IsP X.K H (.tup (a.1.map kDt)) (.ref b.2.1)/\∃ v,RelV v b.2.2/\IsP X.K H a.2 v) kvs xs:=by
 rcases h with g | ⟨rfl,g⟩
 ·obtain ⟨hd,xs,dd,r⟩:=g.dict I;obtain ⟨_,xs',e,_⟩:=g;exact ⟨hd,by rw [e];exact True.intro,xs,dd,r⟩
 ·obtain ⟨hd,dd⟩:=pX I g;exact ⟨hd,by rw [g];exact True.intro,[],dd,.nil⟩
end
section
variable {X:Cx}
end
section
variable {P:Program} {w:World} {A:Around} {E:Value->Shared->Prop} {s:Shared}
end
section
variable {X:Cx}
end
section
variable {P:Program} {w:World} {A:Around} {R:Result->Shared->Prop} {it:Addr} {fp wr:List Addr} {G:Array GenState->Array GenState->Prop} {n:Nat} {Pt:Nat->Value->Prop} {St:Nat->Shared->Prop}
theorem sL (W:WalksS P w A.in1 it fp wr G n Pt St) (S:Addr) (hS0:S∉fp) (SI:Nat->Heap->Prop) (kept:∀ i h h',SI i h->(∀ b o,b∉wr->h.get? b=some o->h'.get? b=some o)->SI i h')
  (add:∀ i v (s:Shared) (Q:Bool->Shared->Prop) (E:Value->Shared->Prop),i < n->Pt i v->SI i s.heap->(∀ r h' tk,s.toks<=tk->Heap.SameBut S s.heap h'->SI (i+1) h'->Q r { s with heap:=h',toks:=tk })->wpAny (model P w) A.in1 (setAdd S v) Q E s) :
  ∀ (d i:Nat) (s:Shared),n - i=d->i<=n->St i s->SI i s.heap ->
   (∀ s',Moved (S :: wr) G s s'->SI n s'.heap->R (.ok (.ret .none)) s')->codeAny (model P w) A (.builtin "set.update.loop" ⟨[.ref S,.ref it],[]⟩) R s:=by
 have nw:S∉wr:=λz=>hS0 (W.sub _ z);have up:∀ b∈wr,b∈S :: wr:=λb z=>aAj _ z;intro d
 induction d with
 | zero =>
  intro i s e1 e2 st hS hR;obtain rfl:i=n:=by lia
  refine codeAny_builtin PyProof.Rows.F.entry_set_update_loop (by
   rw [Around.under_plainId PyProof.Rows.F.plain_set_update_loop _];show wpAny _ A.in1 (pyNext (.ref it) >>= _) _ _ s;refine wpAny_bind (W.done s _ _ st λs' mv=>?_);exact wpAny_pure (hR s' (mv.mono up) (kept _ _ _ hS λb o hb q=>mv.heap b o hb q)))
 | succ d ih =>
  intro i s e1 e2 st hS hR;have lt:i < n:=by lia
  refine codeAny_builtin PyProof.Rows.F.entry_set_update_loop (by
   rw [Around.under_plainId PyProof.Rows.F.plain_set_update_loop _];show wpAny _ A.in1 (pyNext (.ref it) >>= _) _ _ s;refine wpAny_bind (W.item i s _ _ lt st λv s' pv st' mv=>?_);have hS':=kept _ _ s'.heap hS λb o hb q=>mv.heap b o hb q;show wpAny _ A.in1 (holding [v] (setAdd S v) >>= _) _ _ s';refine wpAny_bind (wpAny_holding (add i v s' _ _ lt pv hS' λr h2 tk htk sb hS3=>?_));refine wpAny_pure ⟨plainId_quiet PyProof.Rows.F.plain_set_update_loop _,ih (i+1) _ (by lia) lt (W.frame _ s' _ _ st' htk λb hb o q=>?_) hS3 λs3 mv3 hS4=>?_⟩
   ·rw [sb.2 b (λz:b=S=>hS0 (by rw [<- z];exact hb))];exact q
   ·refine hR s3 (Moved.trans W.gtrans ((mv.mono up).then_heap htk λb o hb q=>?_) mv3) hS4;rw [sb.2 b (λz:b=S=>hb (by rw [z];exact aAh))];exact q)
end
section
variable {P:Program} {w:World} {K:Type} [DecidableEq K] {kd:KeyKind P w K} {A:Around} {E:Value->Shared->Prop} {s:Shared}
theorem uL {a:Addr} {x:Value} {o:Obj} {ep fg mv f:Nat} {l p:Bool} {h:Int} {Q:SetFound->Shared->Prop} (ho:s.heap.get? a=some o) (hd:o.data=.set #[] ep (smT #[] fg mv l p)) (hQ:Q (.free (SetTable.bits h % 8) false) s):wpAny (model P w) A (setSearchFrom a x h true (f+1) none) Q E s:=by
 unfold setSearchFrom;refine wpAny_bind (wpAny_setState_of ho hd (0) ?_);dsimp only;rw [show SetTable.gaveWay (smT #[] fg mv l p)=false by simp [SetTable.gaveWay]];simp only [aAk,if_false];rw [aBo,pS]
 generalize hg:SetTable.probe _ _ _ _=M
 have e:M=some (.empty (SetTable.bits h % 8) none):=by
  rw [<- hg];exact uI (f:=219)
 rw [e];exact wpAny_pure hQ
theorem HJ {S x:Addr} {o:Obj} {fg mv ep:Nat} {l p:Bool} {h:Int} {kx:List K} {Q:Bool->Shared->Prop} (ho:s.heap.get? S=some o) (hd:o.data=.set #[] ep (smT #[] fg mv l p)) (hx:IsTupleKey kd s.heap kx x)
  (hQ:∀ h' p',Heap.SameBut S s.heap h'->h'.get? S=some { o with data:=.set #[(h,.ref x)] (ep+1) (smT #[SetTable.bits h % 8] fg mv l p') }->Q true { s with heap:=h' }):wpAny (model P w) A (setAddHashed S (.ref x) h) Q E s:=by
 unfold setAddHashed;refine wpAny_holding ?_;show wpAny _ _ (setAddHashedIn S (.ref x) h (99999+1)) Q E s;unfold setAddHashedIn;refine wpAny_bind (wpAny_setState_of ho hd (0) ?_);dsimp only;rw [show byScan (.ref x) #[]=false by simp [byScan,Value.scannable]];simp only [aAk,if_false];refine wpAny_bind (uL (f:=99999) ho hd ?_);dsimp only;refine wpAny_bind (wpAny_setState_of ho hd (0) ?_);dsimp only
 generalize SetTable.bits h % 8=j at hQ ⊢
 rw [show SetTable.put (smT #[] fg mv l p) j=(smT #[j] fg mv l p,0) by simp [SetTable.put,SetTable.below,SetTable.below.go,SetTable.insertAt,SetTable.has]];dsimp only;rw [show SetTable.insertAt (#[]:Array (Int×Value)) 0 (h,Value.ref x)=#[(h,Value.ref x)] by simp [SetTable.insertAt]];exact nM ho hd hx (by show 1<=2;decide) (by show 1<=2;decide) λh' p' sb e=>hQ h' p' sb e
theorem HK {S x y:Addr} {o:Obj} {fg mv ep:Nat} {l p:Bool} {h:Int} {kx:List K} {Q:Bool->Shared->Prop} (ho:s.heap.get? S=some o) (hd:o.data=.set #[(h,.ref y)] ep (smT #[SetTable.bits h % 8] fg mv l p)) (hx:IsTupleKey kd s.heap kx x) (hy:IsTupleKey kd s.heap kx y) (hu:A.units < cLine)
  (hQ:Q false s):wpAny (model P w) A (setAddHashed S (.ref x) h) Q E s:=by
 unfold setAddHashed;refine wpAny_holding ?_;show wpAny _ _ (setAddHashedIn S (.ref x) h (99999+1)) Q E s;unfold setAddHashedIn;refine wpAny_bind (wpAny_setState_of ho hd (0) ?_);dsimp only;rw [show byScan (.ref x) #[(h,.ref y)]=false by simp [byScan,Value.scannable]];simp only [aAk,if_false];unfold setSearch;refine wpAny_bind ?_;show wpAny _ _ (setSearchFrom S (.ref x) h true (99999+1) none) _ E s;unfold setSearchFrom;refine wpAny_bind (wpAny_setState_of ho hd (0) ?_);dsimp only;rw [show SetTable.gaveWay (smT #[SetTable.bits h % 8] fg mv l p)=false by simp [SetTable.gaveWay]];simp only [aAk,if_false];rw [aBo,pS,nK (h0:=h) (by simp) rfl,if_pos rfl];dsimp only;have ef:(List.map (λx=>x.2) ((#[(h,Value.ref y)]:Array (Int×Value)).filter λx=>x.1 == h).toList)=[Value.ref y]:=by simp
 rw [ef];have f2:∀ (Q:SetFound->Shared->Prop) (R:Sem SetFound),wpAny (model P w) A R Q E s->wpAny (model P w) A (if (!l)=true then do
   let d <- searchCouldBeSeen (Value.ref x) [Value.ref y]
   if d=true then do
    unsupported "set:the-search-would-show-the-table"
    R
   else R
   else R) Q E s:=by
  intro Q R hR
  split
  ·refine wpAny_bind (fC hx hy ?_);simp only [aAk,if_false];exact hR
  ·exact hR
 refine f2 _ _ ?_;simp only [aBs,aBk];refine wpAny_bind (wpAny_holding (wpAny_eqBool_tuple hu hy hx ?_));rw [decide_eq_true rfl];refine wpAny_bind (wpAny_setState_of ho hd (0) ?_);simp only [Bool.and_self,if_true];exact wpAny_pure (wpAny_pure hQ)
end
def fD (xs:List (Addr×List Key)):Nat:=match xs with
 | [x,y]=>if x.2=y.2 then 1 else 2
 | xs=>xs.length
section
variable {P:Program} {w:World} {A:Around} {E:Value->Shared->Prop} {s:Shared}
def yI (P:Program) (w:World) (xs:List (Addr×List Key)) (S:Addr) (b:Bool) (i:Nat) (h:Heap):Prop :=
 (∀ p∈xs,IsTupleKey (ag P w) h p.2 p.1)/\match i with
  | 0=>∃ o,h.get? S=some o/\o.ExactSet/\o.data=.set #[] 0 (smT #[] 0 0 b true)
  | 1=>∃ o x ep p,h.get? S=some o/\o.ExactSet/\xs[0]?=some x/\o.data=.set #[(tupleKeyHash (ag P w) x.2,.ref x.1)] ep (smT #[SetTable.bits (tupleKeyHash (ag P w) x.2) % 8] 0 0 b p)
  | _=>nL h S (fD xs)
theorem IH {xs:List (Addr×List Key)} {S:Addr} {b:Bool} {h:Heap} (hl:xs.length<=2) (z:yI P w xs S b xs.length h):nL h S (fD xs):=by
 cases xs with
 | nil =>
  obtain ⟨_,o,e,x,d⟩:=z;exact ⟨o,_,_,_,e,x,d,rfl,rfl⟩
 | cons x1 xs =>
  cases xs with
  | nil =>
   obtain ⟨_,o,x,ep,p,e,ex,_,d⟩:=z;exact ⟨o,_,_,_,e,ex,d,rfl,rfl⟩
  | cons x2 xs =>
   cases xs with
   | nil=>exact z.2
   | cons _ _=>simp at hl
theorem wY {xs:List (Addr×List Key)} {S:Addr} {b:Bool} {i:Nat} {h h':Heap} (z:yI P w xs S b i h) (k:∀ c o,(c=S\/∃ p∈xs,c=p.1)->h.get? c=some o->h'.get? c=some o):yI P w xs S b i h':=by
 obtain ⟨ks,z⟩:=z;refine ⟨λp hp=>dH (ks p hp) λo e=>k _ o (.inr ⟨p,hp,rfl⟩) e,?_⟩
 match i,z with
 | 0,⟨o,e,x,d⟩=>exact ⟨o,k _ _ (.inl rfl) e,x,d⟩
 | 1,⟨o,x,ep,p,e,r⟩=>exact ⟨o,x,ep,p,k _ _ (.inl rfl) e,r⟩
 | i+2,⟨o,es,ep,t,e,r⟩=>exact ⟨o,es,ep,t,k _ _ (.inl rfl) e,r⟩
theorem Bp {xs:List (Addr×List Key)} {S:Addr} {b:Bool} {i:Nat} {v:Value} {Q:Bool->Shared->Prop} (hl:xs.length<=2) (hi:i < xs.length) (hv:∃ x,xs[i]?=some x/\v=.ref x.1) (hS:∀ x∈xs,x.1≠S) (hu:A.units < cLine) (z:yI P w xs S b i s.heap)
  (hQ:∀ r h' tk,s.toks<=tk->Heap.SameBut S s.heap h'->yI P w xs S b (i+1) h'->Q r { s with heap:=h',toks:=tk }):wpAny (model P w) A (setAdd S v) Q E s:=by
 obtain ⟨x,ex,rfl⟩:=hv;obtain ⟨ks,z⟩:=z;have kx:=ks x (aAw ex);have keep:∀ {h':Heap},Heap.SameBut S s.heap h'->∀ p∈xs,IsTupleKey (ag P w) h' p.2 p.1:=λsb p hp=>dH (ks p hp) λo e=>(sb.2 _ (hS p hp)).trans e;unfold setAdd;refine wpAny_holding (wpAny_bind (wpAny_pyHash_tuple hu kx ?_))
 match i,z,hi,ex with
 | 0,⟨o,e,xs',d⟩,hi,ex =>
  exact HJ (kd:=ag P w) (s:={ s with toks:=s.toks+(x.2.length+1) }) e d kx λh' p' sb e'=>hQ _ h' _ (aBI _ _) sb ⟨keep sb,_,x,_,p',e',xs',ex,rfl⟩
 | 1,⟨o,y,ep,p,e,xs',ey,d⟩,hi,ex =>
  have ky:=ks y (aAw ey);have em:fD xs=if y.2=x.2 then 1 else 2:=by
   match xs,ex,ey with
   | [_,_],rfl,rfl=>rfl
   | _ :: _ :: _ :: _,_,_=>simp at hl
  by_cases eq:y.2=x.2
  ·rw [if_pos eq] at em;rw [eq] at d ky;refine HK (kd:=ag P w) (s:={ s with toks:=s.toks+(x.2.length+1) }) e d kx ky hu (hQ _ s.heap _ (aBI _ _) (Heap.SameBut.refl _ _) ⟨ks,?_⟩);show nL s.heap S (fD xs);rw [em];exact ⟨o,_,_,_,e,xs',d,rfl,rfl⟩
  ·rw [if_neg eq] at em;refine IF (kd:=ag P w) (s:={ s with toks:=s.toks+(x.2.length+1) }) e xs' d kx ky (λq=>eq q.symm) hu λh' sb e'=>hQ _ h' _ (aBI _ _) sb ⟨keep sb,?_⟩;show nL h' S (fD xs);rw [em];exact e'
 | i+2,_,hi,_=>lia
set_option maxHeartbeats 3200000 in
theorem lI {t:Addr} {its:Array Value} {xs:List (Addr×List Key)} {Q:Value->Shared->Prop} (hh:A.handled=none) (ht:s.heap.IsList t its) (hits:its=(xs.map λx=>Value.ref x.1).toArray) (hl:xs.length<=2) (hk:∀ p∈xs,IsTupleKey (ag P w) s.heap p.2 p.1) (hu:A.units+8 < cLine)
  (h:∀ (h':Heap) (tk:Nat),nL h' s.heap.objs.size (fD xs)->(∀ b o,s.heap.get? b=some o->h'.get? b=some o)->Q (.ref s.heap.objs.size) { s with heap:=h',toks:=tk }) :
  wpAny (model P w) A (call (.type "set") [.ref t]) Q E s:=by
 obtain ⟨c0,tl,hmro⟩:=PySem.F.called_set.mro;have k1:=PySem.F.called_set.made;have k2:=PySem.F.called_set.sub;refine wpAny_call (codeAny_of_tree (by
  show wpAny _ _ (callAny (.type "set") _) _ _ _;refine wpAny_pure ⟨Code.quiet_builtin _ (by decide +kernel),codeAny_builtin PySem.F.entry_type_call ?_⟩;rw [Around.under_plain (weight_type_call_type "set" [.ref t] []) rfl];have k3:=PySem.F.called_set.notType;have k4:=PySem.F.called_set.canCreate;have k5:=PySem.F.typeCall_set_1 (.ref t)
  repeat (any_goals (first | assumption | wp_step))
  refine codeAny_mono (uA (.ref t) (E:=E) (Q₁:=λob s1=>∃ b:Bool,b=(!w.params.followText "set-order")/\ob=.ref s.heap.objs.size/\s1={ s with heap:=s.heap.push (c4 b) }) ⟨_,rfl,rfl,rfl⟩) λr s1 hr=>?_
  cases r with
  | error e=>exact hr
  | ok fl =>
   cases fl with
   | ret ob =>
    obtain ⟨b,eb,rfl,rfl⟩:=hr;have g1:(s.heap.push (c4 b)).get? s.heap.objs.size=some (c4 b):=aAf _ rfl;have tS:Shared.TypeIs { s with heap:=s.heap.push (c4 b) } (.ref s.heap.objs.size) "set" :=⟨_,g1,rfl⟩;have k6:=PySem.F.called_set.init.lookup;have k7:=PySem.F.called_set.init.bind (.ref s.heap.objs.size)
    repeat (any_goals (first | assumption | wp_step))
    refine codeAny_mono (codeAny_call_builtin (R:=wants (λr s2=>r=.none/\∃ h' tk,s2={ s with heap:=h',toks:=tk }/\nL h' s.heap.objs.size (fD xs)/\(∀ b o,s.heap.get? b=some o->h'.get? b=some o)) E)
     PySem.F.called_set.init.plain PySem.F.entry_set_init (check_set_init_1 tS ?_)) λr2 s2 hr2=>?_
    ·obtain ⟨⟨oc,od,oa,osl⟩,ho,hcl,nl,hdt⟩:=id ht;simp only at hcl hdt;subst hcl hdt;have ht1:(s.heap.push (c4 b)).IsList t its:=⟨_,aAa _ ho,rfl,nl,rfl⟩;have ho1:(s.heap.push (c4 b)).get? t=some { cls:=.type "list",dict:=od,data:=.seq its nl,slots:=osl }:=aAa _ ho;have k8:=(cE "list" "set");have k9:=(cE "list" "frozenset");have ka:(Value.type "list" == Value.type "dict")=false:=by decide
     unfold Builtin.«set.__init__» noKeywords Builtin.Frozenset.updateFrom
     generalize hPI:pyIter=PI
     wp_walk
     subst hPI;refine wpAny_pyIter_list ht1 ?_;refine wpAny_bind (wpAny_runValue ?_);have lt:s.heap.objs.size > t:=aAd ho;have hh3:A.in1.in1.in1.handled=none:=by simp [hh]
     have sz:(s.heap.push (c4 b)).objs.size=s.heap.objs.size+1:=aAC ..;have ne1:t≠(s.heap.push (c4 b)).objs.size:=by rw [sz];exact aAl (aAZ lt)
     have nS:s.heap.objs.size∉[(s.heap.push (c4 b)).objs.size,t]:=by
      rw [sz];intro z;rcases aAb.mp z with z | z
      ·exact absurd z (aAl (aA2 _))
      ·exact absurd (aAv.mp z) (aAT lt)
     have hsz:its.size=xs.length:=by rw [hits];simp
     have lowK:∀ p∈xs,p.1 < s.heap.objs.size:=λp hp=>by
      obtain ⟨o,_,_,e,_⟩:=hk p hp;exact aAd e
     refine sL ((Walks.list hh3 _ t ne1 its).toS) s.heap.objs.size nS (yI P w xs s.heap.objs.size b) ?_ ?_ (its.size - 0) 0 _ rfl (aAF _) ⟨⟨_,aAf _ rfl,rfl,rfl⟩,ht1.push _⟩ ?_ ?_
     ·intro i h1 h2 z k;refine wY z λc o hc e=>k c o ?_ e;rw [sz];intro zz;rcases hc with rfl | ⟨p,hp,rfl⟩
      ·exact absurd (aAv.mp zz) (aAl (aA2 _))
      ·exact absurd (aAv.mp zz) (aAl (aAZ (lowK p hp)))
     ·intro i v s1 Q1 E1 hi pv z hq;refine Bp hl (by rw [<- hsz];exact hi) ?_ (λx hx=>aAl (lowK x hx)) ?_ z hq
      ·obtain ⟨x,hx⟩:∃ x,xs[i]?=some x:=⟨_,aAp (by rw [<- hsz];exact hi)⟩;refine ⟨x,hx,?_⟩;rw [hits] at pv;simp [hx] at pv;exact pv.symm
      ·first | (show A.units+1 < cLine;lia) | (show A.units+2 < cLine;lia) | (show A.units+3 < cLine;lia) | (show A.units+4 < cLine;lia)  | (show A.units+5 < cLine;lia)
     ·exact ⟨λp hp=>dH (hk p hp) λo e=>aAa _ (aAa _ e),_,aAa _ g1,⟨rfl,rfl,rfl⟩,rfl⟩
     ·intro s3 mv hS3;obtain ⟨h3,g3,d3,t3,o3⟩:=s3
      cases (mv.gens:g3=s.gens)
      cases (mv.drawn:d3=s.drawn)
      cases (mv.os:o3=s.os)
      refine wpAny_pure (wpAny_pure ⟨rfl,h3,t3,rfl,(by rw [hsz] at hS3;exact IH hl hS3),λc o q=>?_⟩);have lc:s.heap.objs.size > c:=aAd q;refine mv.heap c o ?_ (aAa _ (aAa _ q));intro z;rcases aAb.mp z with z | z
      ·exact absurd z (aAl lc)
      ·exact absurd ((aAv.mp z).trans sz) (aAl (aAZ lc))
    ·cases r2 with
     | error e=>exact hr2
     | ok fl2 =>
      cases fl2 with
      | ret r =>
       obtain ⟨rfl,h',tk,rfl,q1,q2⟩:=hr2
       repeat (any_goals (first | assumption | wp_step))
       exact h _ _ q1 q2
      | _=>exact hr2.elim
   | _=>exact hr.elim))
end
section
variable {X:Cx}
def kI (p:Addr) (n:Nat):HO:=.ext λh=>nL h p n
def dA (ts:List (List Key)):Nat:=match ts with
 | [x,y]=>if x=y then 1 else 2
 | ts=>ts.length
theorem uM:∀ xs:List (Addr×List Key),fD xs=dA (xs.map (·.2))
 | []=>rfl
 | [_]=>rfl
 | [_,_]=>rfl
 | _ :: _ :: _ :: r=>by simp [fD,dA]
theorem iQ {K:W.Frag} {H:Hp}:∀ {ts:List (List Key)} {vs:List V},IsPs K H (ts.map λt=>.tup (t.map kDt)) vs->∃ xs:List (Addr×List Key),vs=xs.map (λx=>V.ref x.1)/\ts=xs.map (·.2)/\∀ x∈xs,IsP K H (.tup (x.2.map kDt)) (.ref x.1)
 | [],_,h=>by cases h;exact ⟨[],rfl,rfl,λx hx=>nomatch hx⟩
 | t :: ts,_,h=>by
  cases h with
  | @cons _ v _ vs h r =>
   obtain ⟨a,ys,rfl,_⟩:=id h.unref;obtain ⟨xs,rfl,rfl,hx⟩:=iQ r;exact ⟨(a,t) :: xs,rfl,rfl,λx m=>by
    rcases aAb.mp m with rfl | m
    ·exact h
    ·exact hx x m⟩
theorem kJ {K:W.Frag} (hK:X.K=K) (hc:X.calm=true) (hu:X.A.units+64 < cLine):aN X (.type "set") (λxs H Q=>∃ (a:Addr) (ts:List (List Key)) (vs:List V),xs=[.ref a]/\SqL K H a vs/\IsPs K H (ts.map λt=>.tup (t.map kDt)) vs/\ts.length<=2/\∀ p,H p=none->Q (.ref p) (upd H p (kI p (dA ts)))):=by
 subst hK;intro pins s σ H xs us Q I r h;obtain ⟨a,ts,vs,rfl,ha,hp,hl,q⟩:=h;obtain ⟨u,rfl,rx⟩:=cc r
 cases rx
 obtain ⟨its,rv,ht,hz⟩:=I.list ha;obtain ⟨xs,rfl,rfl,hx⟩:=iQ hp;obtain ⟨o,n,ho,hcl,hdn,hdt⟩:=ht;have e1:its=xs.map λx=>Value.ref x.1:=by
  clear ha hp hx hl q hdt hz
  induction xs generalizing its with
  | nil=>cases rv;rfl
  | cons x xs ih =>
   cases rv with
   | cons h r =>
    cases h
    rw [ih _ r];rfl
 refine lI (xs:=xs) (I.ok.hd hc) (show s.heap.IsList a its.toArray from ⟨o,ho,hcl,n,hdt⟩) (by rw [e1]) (by simpa using hl) (λp hp=>lE I (hx p hp)) (by lia) λh' tk hS kk=>?_;refine ⟨.ref s.heap.objs.size,_,I.laid (a:=s.heap.objs.size) (o:=kI s.heap.objs.size (dA (xs.map (·.2)))) kk (aAo _) ?_,rfl,q _ (I.hok.fresh (aAo _))⟩;rw [<- uM];obtain ⟨o,es,ep,t,ho,r⟩:=id hS;exact ⟨hS,⟨o,ho⟩,λh1 h2 ⟨o,es,ep,t,e,r⟩ k=>⟨o,es,ep,t,k o e,r⟩⟩
theorem kK:aN X (.builtin "len") (λxs H Q=>∃ p n,xs=[.ref p]/\H p=some (kI p n)/\n<=2/\Q (.int n) H):=by
 intro pins s σ H xs us Q I r h;obtain ⟨p,n,rfl,e,h2,q⟩:=h;obtain ⟨u,rfl,rx⟩:=cc r
 cases rx
 obtain ⟨hS,_,_⟩:=I.hok p _ e;obtain ⟨o,es,ep,tb,ho,hex,hd,hf,hn⟩:=hS;exact call_len_set ho hex hd hf (by lia) ⟨.int n,H,I.tok _,⟨_,by rw [hn]⟩,q⟩
end
def IsO (K:W.Frag) (H:Hp) (o:Option Dt) (v:V):Prop:=match o with
 | none=>v=.non
 | some d=>IsP K H d v
inductive IsOs (K:W.Frag) (H:Hp):List (Option Dt)->List V->Prop
 | nil:IsOs K H [] []
 | cons {o:Option Dt} {v:V} {os:List (Option Dt)} {vs:List V}:IsO K H o v->IsOs K H os vs->IsOs K H (o :: os) (v :: vs)
def HL (o:Option Dt):Prop:=∀ d,o=some d->∃ l,d=.tup l/\d.dep<=60
section
variable {X:Cx}
def II (K:W.Frag):R2:=λx y H Q=>x=.non/\∃ (p:Addr) (os:List (Option Dt)) (vs:List V),y=.ref p/\SqL K H p vs/\IsOs K H os vs/\(∀ o∈os,HL o)/\Q (.bl (os.any Option.isNone)) H
theorem Bq {K:W.Frag} (hK:X.K=K) (hu:X.A.units+64 < cLine):OpR X (compareOp .In) (II K):=by
 subst hK;intro pins s σ H x y v u Q I rx ry h;obtain ⟨rfl,p,os,vs,rfl,hq,hos,ht,q⟩:=h
 cases ry
 obtain ⟨its,r,pl,hz⟩:=I.list hq
 let f:Value->Bool:=λw=>match w with
  | .none=>true
  | _=>false
 have key:∀ {os:List (Option Dt)} {vs:List V} {its:List Value},IsOs X.K H os vs->Vals vs its->(∀ o∈os,HL o)->(∀ w∈its,SeqAt.EqAt X.A.in1 s w v (f w))/\its.any f=os.any Option.isNone:=by
  intro os vs its h
  induction h generalizing its with
  | nil=>intro r _;cases r;exact ⟨(λw hw=>nomatch hw),rfl⟩
  | @cons o v0 os vs h0 hr ih =>
   intro r ht
   cases r with
   | @cons _ u0 _ us r0 r =>
    obtain ⟨i1,i2⟩:=ih r λo ho=>ht o (aAj _ ho);have e0:SeqAt.EqAt X.A.in1 s u0 v (f u0)/\f u0=o.isNone:=by
     cases o with
     | none =>
      obtain rfl:v0=.non:=h0;obtain rfl:u0=Value.none:=r0;exact ⟨(wn I 60 .non .non .non .non .none v X.A.in1 (aAF _) .non .non rfl rx (by rw [cO];lia)).1,rfl⟩
     | some d =>
      obtain ⟨l,rfl,dl⟩:=ht (some d) aAh d rfl;obtain ⟨a,xs,rfl,_⟩:=id (IsP.unref (show IsP X.K H (.tup l) v0 from h0));obtain rfl:u0=Value.ref a:=r0;exact ⟨(wn I 60 (.tup l) .non (.ref a) .non (.ref a) v X.A.in1 dl (IsP.d (show IsP X.K H (.tup l) (.ref a) from h0)) .non rfl rx (by rw [cO];lia)).1,rfl⟩
    refine ⟨λw hw=>?_,by rw [aAV,aAV,i2,e0.2]⟩;rcases aAb.mp hw with rfl | hw
    ·exact e0.1
    ·exact i1 w hw
 obtain ⟨k1,k2⟩:=key hos r ht;refine SeqAt.in_listAt f pl.isList (λw hw=>k1 w (by simpa using hw)) ⟨.bl _,H,I,rfl,?_⟩;rw [show its.toArray.any f=its.any f by simp,k2];exact q
end
theorem HM {P:Program} {w:World} {K:W.Frag} {mg:Str->Option Value} {base:Heap} {k:Nat} {f:Addr} {fd:FuncData} {ps:List Str} {sp:Sp} (F:FnOk P w K mg base (jC P w) k f fd ps sp):FnOk P w K mg base (CXE P w) k f fd ps sp:=by
 refine ⟨F.len,λA outer s H args us vs Q E hr he hb hv hs=>?_⟩;have h:=F.run A outer s H args us vs Q E hr he hb hv hs;refine codeAny_mono h λr s' q=>?_
 cases r with
 | ok fl=>cases fl <;> exact q
 | error e =>
  obtain ⟨ws,a0,h0,_,fl⟩:=q;exact fl.cxe h0
section
variable {X:Cx}
def nU:Value->Bool
 | .bool b=>b
 | _=>false
theorem lJ:∀ {bs:List Bool} {its:List Value},Vals (bs.map V.bl) its->its=bs.map Value.bool
 | [],_,h=>by cases h;rfl
 | b :: bs,_,h=>by
  cases h with
  | cons r t =>
   cases r
   rw [lJ t]
   rfl
theorem xP {pins:List (Addr×Obj)} {σ:St} {H:Hp} {s:Shared} (I:Inv X pins σ H s) {bs:List Bool} (A:Around) (hA:A.units+60 < cLine):∀ y∈(bs.map Value.bool).toArray,SeqAt.EqAt A s y (.bool true) (nU y):=λy hy=>by
 have hy':y∈bs.map Value.bool:=by simpa using hy
 obtain ⟨b,_,rfl⟩:=aAN.mp hy';have:=(wn I 60 (.bl b) (.bl true) (.bl b) (.bl true) (.bool b) (.bool true) A (aAF _) .bl .bl rfl rfl hA).1;have e:eqD (.bl b) (.bl true)=nU (.bool b):=by cases b <;> rfl
 rw [<- e];exact this
theorem sM (hu:X.A.units+64 < cLine):MtM X "list.count" (λx vs H Q=>∃ (l:Addr) (bs:List Bool),x=.ref l/\vs=[.bl true]/\H l=some (.lst (bs.map V.bl))/\Q (.int (bs.countP id:Nat)) H):=by
 intro pins s σ H x vs v us Q I rx rv h;obtain ⟨l,bs,rfl,rfl,hH,q⟩:=h
 cases rx
 obtain ⟨u,rfl,rfl⟩:=rv.one;obtain ⟨_,its,n,r,hl,e⟩:=I.lstM hH;obtain rfl:=lJ r;have e1:(bs.map Value.bool).countP nU=bs.countP id:=by rw [List.countP_map];rfl
 refine call_meets F.slot_list_count ⟨_,e,rfl⟩ F.entry_list_count (F.args_list_count_2 _ _) (SeqAt.list_countAt l _ n none #[] (.bool true) nU) ⟨e,xP I _ (by rw [cO];lia),?_⟩;show (wants (EP X pins σ Q) X.xe) (.ok (.ret (.int ((bs.map Value.bool).countP nU:Nat) s.toks))) _;rw [e1];exact ⟨.int _,H,I.tok _,⟨_,rfl⟩,q⟩
theorem sN (hu:X.A.units+64 < cLine):MtM X "list.index" (λx vs H Q=>∃ (l:Addr) (bs:List Bool) (j:Nat),x=.ref l/\vs=[.bl true]/\H l=some (.lst (bs.map V.bl))/\bs.length<=1000/\bs[j]?=some true/\(∀ m,m < j->bs[m]?=some false)/\Q (.int (j:Nat)) H):=by
 intro pins s σ H x vs v us Q I rx rv h;obtain ⟨l,bs,j,rfl,rfl,hH,hb,hj,hno,q⟩:=h
 cases rx
 obtain ⟨u,rfl,rfl⟩:=rv.one;obtain ⟨_,its,n,r,hl,e⟩:=I.lstM hH;obtain rfl:=lJ r;have hjl:=(aAg.mp hj).1;refine call_meets F.slot_list_index ⟨_,e,rfl⟩ F.entry_list_index (F.args_list_index_2 _ _) (SeqAt.list_indexAt l _ n none #[] (.bool true) nU j (by simpa using hjl) (Int.lt_of_le_of_lt (show (j:Int)<=1000 by lia) (by decide)) ?_ ?_) ⟨e,xP I _ (by rw [cO];lia),⟨.int _,H,I.tok _,⟨_,rfl⟩,q⟩⟩
 ·have:=(aAg.mp hj).2;simp [this,nU]
 ·intro m hm hmj;have:=(aAg.mp (hno m hmj)).2;simp [this,nU]
end
end L2
namespace K23
open PySem L2 PyProof.Rows
abbrev gz:Stmt:=top 16
abbrev eW:Stmt:=top 17
abbrev bC:Stmt:=top 18
abbrev dQ:Stmt:=top 19
abbrev bx:Stmt:=top 20
abbrev dR:Stmt:=top 21
abbrev c8:Stmt:=top 22
abbrev dS:Stmt:=top 23
abbrev bi:Stmt:=top 24
abbrev cq:Stmt:=top 25
abbrev cr:Stmt:=top 26
abbrev bD:Stmt:=top 27
abbrev dU:Stmt:=top 28
abbrev cu:Stmt:=top 29
abbrev cC:Stmt:=top 30
abbrev gA:Stmt:=top 33
abbrev mq:Stmt:=top 34
abbrev c9:Stmt:=top 35
abbrev j0:Stmt:=top 36
abbrev j5:Stmt:=top 37
abbrev js:Stmt:=top 38
abbrev mr:Stmt:=top 39
abbrev oW:Stmt:=top 40
abbrev eX:Stmt:=top 41
abbrev cD:Stmt:=top 42
abbrev cH:Stmt:=top 43
abbrev bj:Stmt:=top 44
abbrev da:Stmt:=top 50
abbrev dW:Stmt:=top 51
abbrev cI:Stmt:=top 52
abbrev de:Stmt:=top 53
abbrev bK:Stmt:=top 54
abbrev cv:Stmt:=top 55
abbrev ib:Stmt:=top 56
abbrev jt:Stmt:=top 57
abbrev eY:Stmt:=top 58
abbrev mw:Stmt:=top 59
abbrev oX:Stmt:=top 60
abbrev cJ:Stmt:=top 63
abbrev df:Stmt:=top 64
abbrev bT:Stmt:=top 65
abbrev bL:Stmt:=top 66
abbrev gB:Stmt:=top 67
abbrev dh:Stmt:=top 68
abbrev dX:Stmt:=top 69
abbrev cK:Stmt:=top 70
abbrev gC:Stmt:=top 71
abbrev cw:Stmt:=top 72
abbrev di:Stmt:=top 73
abbrev dj:Stmt:=top 74
abbrev dk:Stmt:=top 75
abbrev gF:Stmt:=top 76
abbrev cL:Stmt:=top 77
abbrev bZ:Stmt:=top 78
abbrev dm:Stmt:=top 79
abbrev eZ:Stmt:=top 80
abbrev bU:Stmt:=top 81
abbrev bg:Stmt:=top 82
abbrev dY:Stmt:=top 83
abbrev dZ:Stmt:=top 85
abbrev du:Stmt:=top 86
abbrev d4:Stmt:=top 87
abbrev e9:Stmt:=top 88
abbrev cM:Stmt:=top 89
abbrev d5:Stmt:=top 90
abbrev fc:Stmt:=top 91
abbrev dv:Stmt:=top 92
abbrev rp:Stmt:=top 93
theorem qy:FnScope ["text"] ["text"] (aa gz):=by constructor <;> first | rfl | decide +kernel
theorem oY:FnScope ["thing"] ["thing"] (aa eW):=by constructor <;> first | rfl | decide +kernel
theorem fe:FnScope ["thing","low","high"] ["thing","low","high"] (aa bC):=by constructor <;> first | rfl | decide +kernel
theorem mx:FnScope ["kind"] ["kind"] (aa dQ):=by constructor <;> first | rfl | decide +kernel
theorem sc_is_formed:FnScope ["thing","room","word"] ["thing","room"] (aa bx):=by constructor <;> first | rfl | decide +kernel
theorem my:FnScope ["thing"] ["thing"] (aa dR):=by constructor <;> first | rfl | decide +kernel
theorem j6:FnScope ["low","high"] ["low","high"] (aa c8):=by constructor <;> first | rfl | decide +kernel
theorem mz:FnScope ["words"] ["words"] (aa dS):=by constructor <;> first | rfl | decide +kernel
theorem eM:FnScope ["fields","room","names"] ["fields","room"] (aa bi):=by constructor <;> first | rfl | decide +kernel
theorem oZ:FnScope ["field","room"] ["field","room"] (aa cq):=by constructor <;> first | rfl | decide +kernel
theorem sc_are_rows:FnScope ["key","items","room","key_kind"] ["key","items","room"] (aa cr):=by constructor <;> first | rfl | decide +kernel
theorem aZ:FnScope ["kind","name","own","inner"] ["kind","name"] (aa bD):=by constructor <;> first | rfl | decide +kernel
theorem mB:FnScope ["kind"] ["kind"] (aa dU):=by constructor <;> first | rfl | decide +kernel
theorem dB:FnScope ["kind","inner"] ["kind"] (aa cu):=by constructor <;> first | rfl | decide +kernel
theorem mC:FnScope ["kind"] ["kind"] (aa cC):=by constructor <;> first | rfl | decide +kernel
theorem qz:FnScope ["letter"] ["letter"] (aa gA):=by constructor <;> first | rfl | decide +kernel
theorem pf:FnScope ["value","kind","word"] ["value","kind"] (aa mq):=by constructor <;> first | rfl | decide +kernel
theorem j7:FnScope ["value","most"] ["value","most"] (aa c9):=by constructor <;> first | rfl | decide +kernel
theorem d6:FnScope ["record","name","own","value"] ["record","name"] (aa eX):=by constructor <;> first | rfl | decide +kernel
theorem mD:FnScope ["fields"] ["fields"] (aa cD):=by constructor <;> first | rfl | decide +kernel
theorem bE:FnScope ["record","names","values","fields","name","value"] ["record","names","values"] (aa cH):=by constructor <;> first | rfl | decide +kernel
theorem fS:FnScope ["record","names"] ["record","names"] (aa bj):=by constructor <;> first | rfl | decide +kernel
theorem j8:FnScope ["number"] ["number"] (aa da):=by constructor <;> first | rfl | decide +kernel
theorem mE:FnScope ["thing"] ["thing"] (aa dW):=by constructor <;> first | rfl | decide +kernel
theorem ju:FnScope ["turn","kind"] ["turn","kind"] (aa cI):=by constructor <;> first | rfl | decide +kernel
theorem eO:FnScope ["turn","kind","word"] ["turn","kind"] (aa de):=by constructor <;> first | rfl | decide +kernel
theorem fU:FnScope ["thing"] ["thing"] (aa bK):=by constructor <;> first | rfl | decide +kernel
theorem ic:FnScope ["low","high"] ["low","high"] (aa cv):=by constructor <;> first | rfl | decide +kernel
theorem gP:FnScope ["turn","kind","word"] ["turn","kind"] (aa eY):=by constructor <;> first | rfl | decide +kernel
theorem d7:FnScope ["piece","word"] ["piece"] (aa cJ):=by constructor <;> first | rfl | decide +kernel
theorem eP:FnScope ["piece","word"] ["piece"] (aa df):=by constructor <;> first | rfl | decide +kernel
theorem sc_record_behind:FnScope ["piece","kind","kinds"] ["piece","kind"] (aa bT):=by constructor <;> first | rfl | decide +kernel
theorem sc_has_piece_form:FnScope ["piece","form"] ["piece"] (aa bL):=by constructor <;> first | rfl | decide +kernel
theorem qA:FnScope ["part","sort"] ["part","sort"] (aa gB):=by constructor <;> first | rfl | decide +kernel
theorem d8:FnScope ["piece","kind","paths","kinds"] ["piece","kind"] (aa dh):=by constructor <;> first | rfl | decide +kernel
theorem b6:FnScope ["kind","path","here","name"] ["kind","path"] (aa dX):=by constructor <;> first | rfl | decide +kernel
theorem d9:FnScope ["piece","kinds","word"] ["piece","kinds"] (aa cK):=by constructor <;> first | rfl | decide +kernel
theorem qB:FnScope ["thing"] ["thing"] (aa gC):=by constructor <;> first | rfl | decide +kernel
theorem ie:FnScope ["text"] ["text"] (aa cw):=by constructor <;> first | rfl | decide +kernel
theorem j9:FnScope ["low","high","factor"] ["low","high","factor"] (aa di):=by constructor <;> first | rfl | decide +kernel
theorem eQ:FnScope ["piece","kinds","word"] ["piece","kinds"] (aa dj):=by constructor <;> first | rfl | decide +kernel
theorem ed:FnScope ["piece","kind","paths","rest"] ["piece","kind"] (aa dk):=by constructor <;> first | rfl | decide +kernel
theorem jv:FnScope ["kind","path","outer"] ["kind","path"] (aa gF):=by constructor <;> first | rfl | decide +kernel
theorem ee:FnScope ["piece","kind","word","elder"] ["piece","kind"] (aa cL):=by constructor <;> first | rfl | decide +kernel
theorem kb:FnScope ["piece","record"] ["piece","record"] (aa bZ):=by constructor <;> first | rfl | decide +kernel
theorem bN:FnScope ["record","path","here","name"] ["record","path"] (aa dm):=by constructor <;> first | rfl | decide +kernel
theorem bQ:FnScope ["piece","kind","record","values","told","path","value"] ["piece","kind","record","values"] (aa eZ):=by constructor <;> first | rfl | decide +kernel
theorem bn:FnScope ["piece","record","rest","path"] ["piece","record"] (aa bU):=by constructor <;> first | rfl | decide +kernel
theorem bu:FnScope ["record","path","box"] ["record","path"] (aa bg):=by constructor <;> first | rfl | decide +kernel
theorem mF:FnScope ["record","path","value","box"] ["record","path","value"] (aa dY):=by constructor <;> first | rfl | decide +kernel
theorem fV:FnScope ["cell","k","stir"] ["cell","k"] (aa dZ):=by constructor <;> first | rfl | decide +kernel
theorem aQ:FnScope ["script","k","cell","j","found"] ["script","k"] (aa du):=by constructor <;> first | rfl | decide +kernel
theorem fW:FnScope ["row","many","digit"] ["row","many"] (aa d4):=by constructor <;> first | rfl | decide +kernel
theorem bR:FnScope ["row","low","box","number","text"] ["row"] (aa e9):=by constructor <;> first | rfl | decide +kernel
theorem aG:FnScope ["some"] [] (aa cM):=by constructor <;> first | rfl | decide +kernel
theorem aJ:FnScope ["number","text","some"] ["number","text"] (aa d5):=by constructor <;> first | rfl | decide +kernel
theorem bz:FnScope ["way","piece","kind","word","e","signs"] ["way","piece","kind"] (aa fc):=by constructor <;> first | rfl | decide +kernel
theorem a7:FnScope ["kind","bad","piece"] [] (aa dv):=by constructor <;> first | rfl | decide +kernel
theorem dz:FnScope ["script","k","row","kind","some","piece","turns","turn","way"] ["script"] (aa rp):=by constructor <;> first | rfl | decide +kernel
theorem pi1 {K:W.Frag} {X:Cx} {a:Expr} {ta:TE} {i j pos pos'} (hK:X.K=K) (ha:PE X a ta):PE X (.Subscript a (.Constant (.int i) j pos) pos') (tOp (Hs K) ta (tC (.int i))):=ce (iL hK) ha pe_int λ_ _=>rfl
theorem isS {K : W.Frag} {H : Hp} {z : Str} {Q : V -> Prop} (h : Q (.str z)) : ∀ v, IsP K H (.str z) v -> Q v := λv hv => by cases hv; exact h
theorem isI {K : W.Frag} {H : Hp} {z : Int} {Q : V -> Prop} (h : Q (.int z)) : ∀ v, IsP K H (.int z) v -> Q v := λv hv => by cases hv; exact h
theorem sz1 : 1 <= sizeLine := by decide
theorem sz2 : 2 <= sizeLine := by decide
theorem sz3 : 3 <= sizeLine := by decide
theorem pcl {X:Cx} {x:Str} {st:Stmt} {ps:List Str} {f:Addr} {fd:FuncData} {k:Nat} {sp:Sp} {e:Expr} {es:List Expr} {t:TA} {p pos:Pos} (D:Gn X.K X.mg x st ps f fd) (F:FnOk X.prog X.w X.K X.mg X.base CX0 k f fd ps sp) (hr:Room k X.A) (hg:Gl X x) (ha:PA X (e :: es) t) (hdb:(x == ("__debug__" : Str))=false:=by decide) (he:starEach (e :: es) X.env=(false,eval e X.env) :: starEach es X.env:=by rfl) (hpl:(backTo pos (starEach es X.env)).any (·.1)=false:=by rfl):PE X (.Call (.Name x p) (e :: es) [] pos) (tJ sp [] E0 t):=pe_call F hr hg D.m D.F.kp D.b .nil tP ha hdb he hpl
theorem pa1 {X:Cx} {e:Expr} {te:TE} (ha:PE X e te) (hs:starEach [e] X.env=(false,eval e X.env) :: starEach [] X.env):PA X [e] (bV te iC):=pa_cons ha cW hs
theorem pa2 {X:Cx} {e f:Expr} {te tf:TE} (ha:PE X e te) (hb:PE X f tf) (hs:starEach [e,f] X.env=(false,eval e X.env) :: starEach [f] X.env) (ht:starEach [f] X.env=(false,eval f X.env) :: starEach [] X.env):PA X [e,f] (bV te (bV tf iC)):=pa_cons ha (pa_cons hb cW ht) hs
theorem pa3 {X:Cx} {e f g:Expr} {te tf tg:TE} (ha:PE X e te) (hb:PE X f tf) (hc:PE X g tg) (hs:starEach [e,f,g] X.env=(false,eval e X.env) :: starEach [f,g] X.env) (ht:starEach [f,g] X.env=(false,eval f X.env) :: starEach [g] X.env) (hu:starEach [g] X.env=(false,eval g X.env) :: starEach [] X.env):PA X [e,f,g] (bV te (bV tf (bV tg iC))):=pa_cons ha (pa_cons hb (pa_cons hc cW hu) ht) hs
structure Ads where
 HandError:Addr
 BadKind:Addr
 BadTurn:Addr
 BadPiece:Addr
structure Tx (K:W.Frag) (mg:Str->Option Value) (ad:Ads):Prop where
 is_name:∃ f fd,Gn K mg "is_name" gz ["text"] f fd
 is_whole:∃ f fd,Gn K mg "is_whole" eW ["thing"] f fd
 is_whole_within:∃ f fd,Gn K mg "is_whole_within" bC ["thing","low","high"] f fd
 made_kind:∃ f fd,Gn K mg "made_kind" dQ ["kind"] f fd
 is_formed:∃ f fd,Gn K mg "is_formed" bx ["thing","room"] f fd
 has_parts:∃ f fd,Gn K mg "has_parts" dR ["thing"] f fd
 are_bounds:∃ f fd,Gn K mg "are_bounds" c8 ["low","high"] f fd
 are_words:∃ f fd,Gn K mg "are_words" dS ["words"] f fd
 are_fields:∃ f fd,Gn K mg "are_fields" bi ["fields","room"] f fd
 is_field:∃ f fd,Gn K mg "is_field" cq ["field","room"] f fd
 are_rows:∃ f fd,Gn K mg "are_rows" cr ["key","items","room"] f fd
 field_kind:∃ f fd,Gn K mg "field_kind" bD ["kind","name"] f fd
 item_kind:∃ f fd,Gn K mg "item_kind" dU ["kind"] f fd
 kinds_within:∃ f fd,Gn K mg "kinds_within" cu ["kind"] f fd
 kind_many:∃ f fd,Gn K mg "kind_many" cC ["kind"] f fd
 is_sign:∃ f fd,Gn K mg "is_sign" gA ["letter"] f fd
 is_of:∃ f fd,Gn K mg "is_of" mq ["value","kind"] f fd
 is_text_of:∃ f fd,Gn K mg "is_text_of" c9 ["value","most"] f fd
 holds_tuple:∃ f fd,Gn K mg "holds_tuple" j0 ["value","word"] f fd
 holds_items:∃ f fd,Gn K mg "holds_items" j5 ["value","word","kind","most"] f fd
 is_record_of:∃ f fd,Gn K mg "is_record_of" js ["value","fields"] f fd
 is_pair_of:∃ f fd,Gn K mg "is_pair_of" mr ["pair","field"] f fd
 are_keyed:∃ f fd,Gn K mg "are_keyed" oW ["items","key"] f fd
 field_of:∃ f fd,Gn K mg "field_of" eX ["record","name"] f fd
 record_of:∃ f fd,Gn K mg "record_of" cD ["fields"] f fd
 with_fields:∃ f fd,Gn K mg "with_fields" cH ["record","names","values"] f fd
 without_fields:∃ f fd,Gn K mg "without_fields" bj ["record","names"] f fd
 figures_of:∃ f fd,Gn K mg "figures_of" da ["number"] f fd
 is_factor:∃ f fd,Gn K mg "is_factor" dW ["thing"] f fd
 kind_behind:∃ f fd,Gn K mg "kind_behind" cI ["turn","kind"] f fd
 is_turn_of:∃ f fd,Gn K mg "is_turn_of" de ["turn","kind"] f fd
 has_turn_parts:∃ f fd,Gn K mg "has_turn_parts" bK ["thing"] f fd
 most_figures:∃ f fd,Gn K mg "most_figures" cv ["low","high"] f fd
 are_led_words:∃ f fd,Gn K mg "are_led_words" ib ["forth","back","elder"] f fd
 words_behind:∃ f fd,Gn K mg "words_behind" jt ["back"] f fd
 led_kind:∃ f fd,Gn K mg "led_kind" eY ["turn","kind"] f fd
 turn_about:∃ f fd,Gn K mg "turn_about" mw ["turn","kind"] f fd
 led_about:∃ f fd,Gn K mg "led_about" oX ["turn","kind"] f fd
 taken_paths:∃ f fd,Gn K mg "taken_paths" cJ ["piece"] f fd
 made_paths:∃ f fd,Gn K mg "made_paths" df ["piece"] f fd
 record_behind:∃ f fd,Gn K mg "record_behind" bT ["piece","kind"] f fd
 has_piece_form:∃ f fd,Gn K mg "has_piece_form" bL ["piece"] f fd
 is_part:∃ f fd,Gn K mg "is_part" gB ["part","sort"] f fd
 can_take:∃ f fd,Gn K mg "can_take" dh ["piece","kind"] f fd
 kind_down:∃ f fd,Gn K mg "kind_down" dX ["kind","path"] f fd
 takes_kinds:∃ f fd,Gn K mg "takes_kinds" cK ["piece","kinds"] f fd
 is_kind:∃ f fd,Gn K mg "is_kind" gC ["thing"] f fd
 is_separator:∃ f fd,Gn K mg "is_separator" cw ["text"] f fd
 part_kinds:∃ f fd,Gn K mg "part_kinds" di ["low","high","factor"] f fd
 made_kinds:∃ f fd,Gn K mg "made_kinds" dj ["piece","kinds"] f fd
 can_make:∃ f fd,Gn K mg "can_make" dk ["piece","kind"] f fd
 is_free:∃ f fd,Gn K mg "is_free" gF ["kind","path"] f fd
 piece_about:∃ f fd,Gn K mg "piece_about" cL ["piece","kind"] f fd
 old_values:∃ f fd,Gn K mg "old_values" bZ ["piece","record"] f fd
 value_down:∃ f fd,Gn K mg "value_down" dm ["record","path"] f fd
 with_new:∃ f fd,Gn K mg "with_new" eZ ["piece","kind","record","values"] f fd
 without_taken:∃ f fd,Gn K mg "without_taken" bU ["piece","record"] f fd
 without_down:∃ f fd,Gn K mg "without_down" bg ["record","path"] f fd
 with_down:∃ f fd,Gn K mg "with_down" dY ["record","path","value"] f fd
 law_mixed:∃ f fd,Gn K mg "_law_mixed" dZ ["cell","k"] f fd
 law_stream:∃ f fd,Gn K mg "_law_stream" du ["script","k"] f fd
 law_digit:∃ f fd,Gn K mg "_law_digit" d4 ["row","many"] f fd
 law_kind:∃ f fd,Gn K mg "_law_kind" e9 ["row"] f fd
 law_missing:∃ f fd,Gn K mg "_law_missing" cM [] f fd
 law_unfit:∃ f fd,Gn K mg "_law_unfit" d5 ["number","text"] f fd
 law_word:∃ f fd,Gn K mg "_law_word" fc ["way","piece","kind"] f fd
 law_wholes:∃ f fd,Gn K mg "_law_wholes" dv [] f fd
 law:∃ f fd,Gn K mg "law" rp ["script"] f fd
 x_HandError:ExC K mg "HandError" ad.HandError
 x_BadKind:ExC K mg "BadKind" ad.BadKind
 x_BadTurn:ExC K mg "BadTurn" ad.BadTurn
 x_BadPiece:ExC K mg "BadPiece" ad.BadPiece
 LETTERS:∃ t,mg "LETTERS" = some (.str "abcdefghijklmnopqrstuvwxyz" t)
 LONGEST_NAME:∃ t,mg "LONGEST_NAME" = some (.int 8 t)
 EACH:∃ t,mg "EACH" = some (.str "each" t)
 MOST_SIGNS:∃ t,mg "MOST_SIGNS" = some (.int 60 t)
 MOST_WORDS:∃ t,mg "MOST_WORDS" = some (.int 8 t)
 MOST_FIELDS:∃ t,mg "MOST_FIELDS" = some (.int 8 t)
 MOST_ITEMS:∃ t,mg "MOST_ITEMS" = some (.int 8 t)
 MOST_KINDS:∃ t,mg "MOST_KINDS" = some (.int 40 t)
 DEEPEST:∃ t,mg "DEEPEST" = some (.int 5 t)
 PART_COUNTS:∃ a,mg "PART_COUNTS" = some (.ref a)/\ni K a [("number",3),("text",2),("choice",2),("list",3),("record",2),("rows",4)]
 PERCENT:∃ t,mg "PERCENT" = some (.int 37 t)
 LEAST_FACTOR:∃ t,mg "LEAST_FACTOR" = some (.int 2 t)
 GREATEST_FACTOR:∃ t,mg "GREATEST_FACTOR" = some (.int 1000 t)
 TURN_COUNTS:∃ a,mg "TURN_COUNTS" = some (.ref a)/\ni K a [("bounds",3),("scale",2),("shrink",2),("figures",2),("number",3),("words",3),("cut",2),("first",2),("one",2),("out",1),("items",2)]
 TURN_SORTS:mg "TURN_SORTS" = some (.ref 233)/\iM K 233 [("bounds",234),("scale",235),("shrink",236),("figures",237),("number",238),("words",239),("cut",240),("first",241),("out",242),("items",243)]/\uz K [(234,["number"]),(235,["number"]),(236,["number"]),(237,["number"]),(238,["text"]),(239,["choice"]),(240,["text"]),(241,["list","rows"]),(242,["list"]),(243,["list"])]
 PIECE_FORMS:mg "PIECE_FORMS" = some (.ref 315)/\iM K 315 [("put",316),("drop",317),("name",318),("sink",319),("lift",320),("turn",321),("split",322),("join",323),("part",324),("whole",325)]/\uz K [(316,["text","tuple","any"]),(317,["text","any"]),(318,["text","text"]),(319,["text","text"]),(320,["text","text"]),(321,["text","tuple"]),(322,["text","text","text","text"]),(323,["text","text","text","text"]),(324,["text","number","text","text"]),(325,["text","text","number","text","number","number"])]
 z_ValueError:mg "ValueError" = none
 z_all:mg "all" = none
 z_bool:mg "bool" = none
 z_dict:mg "dict" = none
 z_int:mg "int" = none
 z_isinstance:mg "isinstance" = none
 z_len:mg "len" = none
 z_max:mg "max" = none
 z_min:mg "min" = none
 z_ord:mg "ord" = none
 z_range:mg "range" = none
 z_set:mg "set" = none
 z_sorted:mg "sorted" = none
 z_str:mg "str" = none
 z_sum:mg "sum" = none
 z_tuple:mg "tuple" = none
 z_zip:mg "zip" = none
 exk:W.exmOne K (.ref ad.BadKind) (.ref ad.BadKind)=some true
 exmP:W.exmOne K (.ref ad.BadPiece) (.ref ad.HandError)=some true
 exmT:W.exmOne K (.ref ad.BadTurn) (.ref ad.HandError)=some true
 kitP:(W.kitOne K (.ref ad.BadPiece) (.ref ad.BadPiece) == some true && W.kitOne K (.ref ad.BadPiece) (.ref ad.BadTurn) == some false && W.kitOne K (.ref ad.BadPiece) (.ref ad.BadKind) == some false && W.kitOne K (.ref ad.BadPiece) (.type "ValueError") == some true)=true
 kitT:(W.kitOne K (.ref ad.BadTurn) (.ref ad.BadPiece) == some false && W.kitOne K (.ref ad.BadTurn) (.ref ad.BadTurn) == some true && W.kitOne K (.ref ad.BadTurn) (.ref ad.BadKind) == some false && W.kitOne K (.ref ad.BadTurn) (.type "ValueError") == some true)=true
abbrev depth:Nat:=60
abbrev letters:Str:= "abcdefghijklmnopqrstuvwxyz"
def inB (c:Nat):Bool:=!(Builtin.Str.occurrences letters ⟨#[c]⟩ 0 letters.length 1).isEmpty
def bB (z:Str):Bool:=decide (1<=z.length) && decide (z.length<=8) && !decide (z= "each") && z.cps.toList.all inB
def ltS (a b:Str):Prop:=a.cps.toList < b.cps.toList
instance (a b:Str):Decidable (ltS a b):=inferInstanceAs (Decidable (a.cps.toList < b.cps.toList))
def pY (ws:List Str):Bool:=decide (1<=ws.length) && decide (ws.length<=8) && ws.all bB && decide ws.Nodup
abbrev G4:=Str×Dt×Nat×Nat
abbrev prG (g:G4):Dt:=.tup [.str g.1,g.2.1]
def sumN:List Nat->Nat
 | []=>0
 | n :: r=>n+sumN r
def jD:List Nat->Nat
 | []=>0
 | n :: r=>max n (jD r)
def IJ (l:List Dt) (z:Str):Prop:=∃ w r,Dt.tup [.str z,.tup (.str w :: r)]∈l/\(w= "number" \/w= "text")
inductive FK:Nat->Nat->Dt->Prop
 | text (i:Int):0<=i->i<=60->FK 1 1 (.tup [.str "text",.int i])
 | choice (ws:List Str):pY ws=true->FK 1 1 (.tup [.str "choice",.tup (ws.map Dt.str)])
 | number (i j:Int):-1000000000000000000000000000000<=i->i<=j->j<=1000000000000000000000000000000->FK 1 1 (.tup [.str "number",.int i,.int j])
 | list {a c:Nat} {k:Dt} {i:Int}:FK a c k->0<=i->i<=8->FK (a+1) (c+1) (.tup [.str "list",k,.int i])
 | rows {a c:Nat} {z:Str} {l:List Dt} {i:Int}:FK a c (.tup [.str "record",.tup l])->IJ l z->0<=i->i<=8->FK (a+1) (c+1) (.tup [.str "rows",.str z,.tup [.str "record",.tup l],.int i])
 | rcd {gs:List G4}:(∀ g∈gs,FK g.2.2.1 g.2.2.2 g.2.1)->(gs.map (·.1)).Pairwise ltS->(∀ g∈gs,bB g.1=true)->gs.length<=8->FK (jD (gs.map (·.2.2.1))+1) (sumN (gs.map (·.2.2.2))+1) (.tup [.str "record",.tup (gs.map prG)])
theorem FK.pos {a c:Nat} {d:Dt} (h:FK a c d):1<=a:=by cases h <;> lia
theorem pZ {n:Nat}:∀ {l:List Nat},n∈l->n<=jD l
 | m :: l,h=>by
  show n<=max m (jD l);rcases aAb.mp h with rfl | h
  ·exact Nat.le_max_left _ _
  ·exact aAx (pZ h) (Nat.le_max_right _ _)
theorem max_le {b:Nat}:∀ {l:List Nat},(∀ n∈l,n<=b)->jD l<=b
 | [],_=>aAF _
 | m :: l,h=>by
  show max m (jD l)<=b;exact Nat.max_le.mpr ⟨h m aAh,max_le λn hn=>h n (aAj _ hn)⟩
def HN (d:Dt):Option Dt:=match d with
 | .tup [.str w,k,_]=>if w= "list" then some k else none
 | .tup [.str w,_,k,_]=>if w= "rows" then some k else none
 | _=>none
def Br (K:W.Frag) (H:Hp) (r:Option Dt) (Q:VK):Prop:=match r with
 | none=>Q .non H
 | some e=>∀ v,IsP K H e v->Q v H
mutual
def okD:Dt->Bool
 | .int _=>true
 | .str z=>decide (z.length<=1000)
 | .tup l=>iR l
 | _=>false
def iR:List Dt->Bool
 | []=>true
 | d :: l=>okD d && iR l
end
theorem aO:∀ {l:List Dt},iR l=true->∀ d∈l,okD d=true
 | e :: l,h,d,hd=>by
  rw [iR,aAr] at h;rcases aAb.mp hd with rfl | hd
  ·exact h.1
  ·exact aO h.2 d hd
theorem p9:∀ {l:List Dt},(∀ d∈l,okD d=true)->iR l=true
 | [],_=>rfl
 | e :: l,h=>by rw [iR,h e aAh,p9 λd hd=>h d (aAj _ hd)];rfl
def bd:Dt->Bool
 | .str z=>bB z
 | _=>false
def uN:Dt->Bool
 | .int _=>true
 | _=>false
def bt (d:Dt) (j k:Int):Bool:=match d with
 | .int i=>decide (j<=i) && decide (i<=k)
 | _=>false
def qP (d e:Dt):Bool:=match d,e with
 | .int i,.int j=>decide (-1000000000000000000000000000000<=i) && decide (i<=j) && decide (j<=1000000000000000000000000000000)
 | _,_=>false
abbrev qQ:List (Str×Int):=[("number",3),("text",2),("choice",2),("list",3),("record",2),("rows",4)]
def ci:Dt->Bool
 | .tup (.str u :: l)=>decide (bG u qQ=.int ((l.length+1:Nat):Int))
 | _=>false
def sO:Dt->Str
 | .str z=>z
 | _=> ""
def nV (ws:List Str):Nat:=(L2.gh (ws.map (Sum.inr:Str->Key)) (ws.map (Sum.inr:Str->Key)).length).length
def uO:Dt->Bool
 | .tup ws=>decide (1<=ws.length) && decide (ws.length<=8) && ws.all bd && decide (nV (ws.map sO)=ws.length)
 | _=>false
def aP (f:Dt->Bool):Dt->Bool
 | .tup [a,b]=>bd a && f b
 | _=>false
def nmD:Dt->Str
 | .tup [.str z,_]=>z
 | _=> ""
def sP (ns:List Str):Bool:=(ns.zip (ns.drop 1)).all λp=>decide (ltS p.1 p.2)
def lK (f:Dt->Bool):Dt->Bool
 | .tup fs=>decide (fs.length<=8) && fs.all (aP f) && sP (fs.map nmD)
 | _=>false
def iS (key:Dt):Dt->Bool
 | .tup [o,_]=>eqD o key
 | _=>false
def bq (fs:List Dt) (key:Dt):Option Dt:=match fs.find? (iS key) with
 | some (.tup [_,k])=>some k
 | _=>none
def qR:Option Dt->Bool
 | some (.tup (.str u :: _))=>decide (u= "number") || decide (u= "text")
 | _=>false
def eE (f:Dt->Bool) (key items:Dt):Bool:=f items && (match items with
 | .tup [.str u,.tup fs]=>decide (u= "record") && qR (bq fs key)
 | _=>false)
def au:Nat->Dt->Bool
 | 0,_=>false
 | n+1,.tup [.str u,a]=>if u= "text" then bt a 0 60 else if u= "choice" then uO a else if u= "record" then lK (au n) a else false
 | n+1,.tup [.str u,a,b]=>if u= "number" then qP a b else if u= "list" then au n a && bt b 0 8 else false
 | n+1,.tup [.str u,a,b,c]=>if u= "rows" then eE (au n) a b && bt c 0 8 else false
 | _,_=>false
def qa (K:W.Frag) (_:Ads):Sp:=λvs H Q _=>∃ (d:Dt) (x:V),vs=[x]/\IsP K H d x/\okD d=true/\∀ H',Same H H'->Q (.bl (bd d)) H'
def nW (K:W.Frag) (_:Ads):Sp:=λvs H Q _=>∃ (d:Dt) (x:V),vs=[x]/\IsP K H d x/\okD d=true/\Q (.bl (uN d)) H
def eR (K:W.Frag) (_:Ads):Sp:=λvs H Q _=>∃ (d:Dt) (x:V) (j k:Int),vs=[x,.int j,.int k]/\IsP K H d x/\okD d=true/\Q (.bl (bt d j k)) H
def jE (K:W.Frag) (_:Ads):Sp:=λvs H Q _=>∃ (d e:Dt) (x y:V),vs=[x,y]/\IsP K H d x/\IsP K H e y/\okD d=true/\okD e=true/\Q (.bl (qP d e)) H
def lL (K:W.Frag) (_:Ads):Sp:=λvs H Q _=>∃ (d:Dt) (x:V),vs=[x]/\IsP K H d x/\okD d=true/\Q (.bl (ci d)) H
def lM (K:W.Frag) (_:Ads):Sp:=λvs H Q _=>∃ (d:Dt) (x:V),vs=[x]/\IsP K H d x/\okD d=true/\∀ H',Same H H'->Q (.bl (uO d)) H'
def lN (K:W.Frag) (_:Ads):Sp:=λvs H Q _=>∃ (a c:Nat) (d:Dt) (x:V),vs=[x]/\IsP K H d x/\FK a c d/\Br K H (HN d) Q
def lO (_:W.Frag) (_:Ads):Sp:=λvs H Q _=>∃ i k:Int,vs=[.int i,.int k]/\∀ c,Q (.int c) H
def lP (_:W.Frag) (_:Ads):Sp:=λvs H Q _=>∃ (r:Addr) (n m:Int),vs=[.ref r,.int m]/\H r=some (.lst [.int n])/\0 < m/\m < 10000000000000000000000000000000000000000000000000000000000000/\Q (.int (n % m)) (upd H r (.lst [.int (n / m)]))
def HP (K:W.Frag):Sp:=λvs H Q _=>∃ (a:Addr) (ns:List Int),vs=[.ref a]/\SqL K H a (ns.map V.int)/\ns.length<=63/\∀ H',Q (.bl true) H'
abbrev Bs (K:W.Frag) (_:Ads):Sp:=HP K
theorem small {n:Nat} (h:n<=1000):n<=sizeLine:=aAL (aj h)
theorem b8 {α β:Type} {xs:List α} {i:Nat} {x:α} (f:α->β) (h:xs[i]?=some x):(xs.take i).map f++[f x]=(xs.take (i+1)).map f:=by
 rw [aAM,h,aA0];rfl
theorem cj {l:List Str} (h:l.Pairwise ltS):l.Nodup:=List.Pairwise.imp (λ{a b} hab e=>by
 subst e;exact absurd hab (aBy _)) h
section
variable {P:Program} {w:World} {K:W.Frag} {mg:Str->Option Value} {base:Heap} {ad:Ads}
theorem Bt {K:W.Frag} {H:Hp} {l:Addr} {z:Str} {Q:VK} {nm:L2.St} (hl:H l=none) (hz:z.length<=sizeLine) (q:∀ H',Same H H'->Q (.bl (z.cps.toList.all inB)) H')
  (hn:nm=[none]):∃ W:Nat->Nat->List V->L2.St->Hp->Prop,(∃ m,W 0 m [] nm (upd H l (.lst [])))/\∀ i m ys σ' H',W i m ys σ' H'->((Its z).stop i H'/\(λ(v:V) (H':Hp)=>∃ p ys,[v]=[V.ref p]/\true=true/\SqL K H' p (bls ys)/\Q (.bl (ys.all id)) H') (.ref l) H') \/
   ((Its z).go i H'/\∀ x H'',(Its z).yld i H' x H''->fh 0 x σ' H'' λσ2 H2=>cEl (tOp (λx y H Q=>∃ i j,x=.str i/\y=.str j/\Q (.bl (!(Builtin.Str.occurrences j i 0 j.length 1).isEmpty)) H) (eh 0) (tC (.str letters))) ys l σ2 H2 λys' σ3 H3=>∃ m',m' < m/\W (i+1) m' ys' σ3 H3):=by
 subst hn;refine m8 (Q:=λ(v:V) (H':Hp)=>∃ p ys,[v]=[V.ref p]/\true=true/\SqL K H' p (bls ys)/\Q (.bl (ys.all id)) H') (λi ys σ H'=>ys=bls ((z.cps.toList.take i).map inB)/\H'=upd H l (.lst ys)/\σ.length=1) ⟨rfl,rfl,rfl⟩ ?_ ?_
 ·rintro i c ys σ H1 N hc ⟨rfl,rfl,hσ⟩ next;have hc':z.cps.toList[i]?=some c:=by rw [Array.getElem?_toList];exact hc
  have hi:i < z.cps.toList.length:=(aAg.mp hc').1;have hlen:(bls ((z.cps.toList.take i).map inB)).length < sizeLine:=by
   have:z.length=z.cps.toList.length:=by simp [Str.length]
   simp only [bls,aAe,aAQ];lia
  match σ,hσ with
  | [_],_ =>
   refine ⟨.str ⟨#[c]⟩,rfl,_,_,rfl,rfl,ac,hlen,next _ _ _ ⟨?_,vT,rfl⟩⟩;show bls ((z.cps.toList.take i).map inB)++[V.bl (inB c)]=bls ((z.cps.toList.take (i+1)).map inB);unfold bls;rw [aAz,aAz];exact b8 (V.bl ∘ inB) hc'
 ·rintro ys σ H1 ⟨rfl,rfl,hσ⟩;refine ⟨l,(z.cps.toList).map inB,rfl,rfl,SqL.of ?_,?_⟩
  ·rw [ac];have:z.cps.toList.take z.cps.size=z.cps.toList:=aBQ (by simp);rw [this]
  ·rw [aA5];exact q _ (ae hl _)
theorem eS (T:Tx K mg ad) {f:Addr} {fd:FuncData} (F:Gn K mg "is_name" gz ["text"] f fd):FnOk P w K mg base CX0 1 f fd ["text"] (qa K ad):=by
 obtain ⟨t_LONGEST_NAME,c_LONGEST_NAME⟩:=T.LONGEST_NAME;obtain ⟨t_EACH,c_EACH⟩:=T.EACH;obtain ⟨t_LETTERS,c_LETTERS⟩:=T.LETTERS;refine F.F.ok qy (λvs H Q E h=>?_) (λcdv A outer s H vs Q E hr h=>?_)
 ·obtain ⟨d,x,rfl,_⟩:=h
  rfl
 obtain ⟨d,x,rfl,hd,ok,q⟩:=h;refine ⟨_,(3,@ps_if _ _ _ _ _ _ _ _ (PW.pt (@pw_or _ _ _ _ _ _ _ (@pt_not _ _ _ _ (@pt_val _ _ _ (pe_callB (ay (K:=K) rfl) rfl T.z_isinstance boot_isinstance (@pa2 _ _ _ _ _ (pv 0) (bo rfl T.z_str boot_str) (0) (0))) (by intro _;rfl))) (@pw_or1 _ _ _ _ (@pt_not _ _ _ _ (pt_chain op_le op_le pe_int (pe_callB call_len_str rfl T.z_len PySem.boot_len (@pa1 _ _ _ (pv 0) (0))) (pe_gint rfl c_LONGEST_NAME)))))) (@pss_one _ _ _ (@ps_ret _ _ _ _ pe_bl)) pss_nil,@pss_one _ _ _ (@ps_ret _ _ _ _ (pe_and (pe_cmpR op_ne (pv 0) (pe_gstr rfl c_EACH) (nomark _)) (pe_one (pe_callB (call_allN (K:=K) rfl rfl) rfl T.z_all boot_all (@pa1 _ _ _ (bA rfl (cs0 (NL:=["letter"]) rfl (by decide +kernel) (by decide +kernel)) (tV (pv 0)) (λ_ _ _ _=>(ai (i:=0) (show List.Nodup (α:=Str) ["letter"] by decide +kernel) rfl (Or.inl rfl))) (λ_ _ _ _=>(pe_cmpR rH (pv 0) (pe_gstr rfl c_LETTERS) rfl))) (0))))))),?_⟩
 cases hd with
 | non=>cases ok
 | bl=>cases ok
 | int=>exact ⟨_,rfl,_,_,_,rfl,.int_str,_,rfl,aq (aq (q H (Same.refl H)))⟩
 | tup ht _ _=>exact ⟨_,rfl,_,_,_,rfl,.tup_str ht,_,rfl,aq (aq (q H (Same.refl H)))⟩
 | @str z =>
  have hz:z.length<=sizeLine:=small (of_decide_eq_true ok);replace q:∀ H',Same H H'->Q (.bl (bB z)) H':=q;refine ⟨_,rfl,_,_,_,rfl,.str_str,_,rfl,aI ?_⟩;refine ⟨_,rfl,z,rfl,hz,_,_,rfl,rfl,_,rfl,?_⟩;refine cx (λc1=>?_) (λc1=>?_)
  ·refine ⟨_,_,rfl,rfl,_,rfl,?_⟩;refine cx (λc2=>?_) (λc2=>?_)
   ·have e:bB z=false:=by
     have c2':¬ ((z.length:Int)<=8):=by simpa using c2
     have:¬ z.length<=8:=by lia
     simp [bB,this]
    rw [<- e];exact q H (Same.refl H)
   ·have l1:1<=z.length:=by
     have:(1:Int)<=z.length:=of_decide_eq_true c1;lia
    have l2:z.length<=8:=by
     have:((z.length:Int)<=8):=by simpa using c2
     lia
    refine ⟨_,rfl,rfl,_,rfl,?_⟩;refine cx (λc3=>?_) (λc3=>?_)
    ·refine ⟨_,rfl,z,rfl,λl hl=>Bt (K:=K) hl hz (λH' g=>?_) rfl⟩;have n3:¬ (z= "each"):=by simpa using c3
     have e:bB z=z.cps.toList.all inB:=by simp [bB,l1,l2,n3]
     rw [<- e];exact q H' g
    ·have n3:z= "each" :=by simpa using c3
     have e:bB z=false:=by simp [bB,n3]
     rw [<- e];exact q H (Same.refl H)
  ·refine ⟨_,rfl,aq ?_⟩;have e:bB z=false:=by
    have:¬ (1:Int)<=z.length:=by simpa using c1
    have:¬ 1<=z.length:=by lia
    simp [bB,this]
   rw [<- e];exact q H (Same.refl H)
theorem bp {K:W.Frag} {H:Hp} {w:Str} {v:V} (h:IsP K H (.str w) v):v=.str w:=by cases h;rfl
theorem bF {A B:Prop} {x:V} (h:A):if decide (x=x)=true then A else B:=by rw [if_pos (decide_eq_true rfl)];exact h
theorem iteN {A B:Prop} {x y:V} (n:x≠y) (h:B):if decide (x=y)=true then A else B:=by rw [if_neg (λc=>n (of_decide_eq_true c))];exact h
theorem nX {A B:Prop} {x y:V} (n:x≠y) (h:A):if (!decide (x=y))=true then A else B:=by rw [if_pos (by rw [decide_eq_false n];rfl)];exact h
theorem eF {A B:Prop} {x:V} (h:B):if (!decide (x=x))=true then A else B:=by rw [if_neg (by rw [decide_eq_true rfl];decide)];exact h
theorem aL {a b:Str} (h:a≠b):V.str a≠V.str b:=λe=>h (V.str.inj e)
theorem lQ (T:Tx K mg ad) {f:Addr} {fd:FuncData} (F:Gn K mg "item_kind" dU ["kind"] f fd):FnOk P w K mg base CX0 1 f fd ["kind"] (lN K ad):=by
 refine F.F.ok mB (λvs H Q E h=>?_) (λcdv A outer s H vs Q E hr h=>?_)
 ·obtain ⟨a,c,d,x,rfl,_⟩:=h
  rfl
 obtain ⟨a,c,d,x,rfl,hd,gk,q⟩:=h;refine ⟨_,(3,@ps_if _ _ _ _ _ _ _ _ (pt_cmpR op_eq (@pi1 K _ _ _ _ _ _ _ rfl (pv 0)) pe_str (nomark _)) (@pss_one _ _ _ (@ps_ret _ _ _ _ (@pi1 K _ _ _ _ _ _ _ rfl (pv 0)))) pss_nil,(3,@ps_if _ _ _ _ _ _ _ _ (pt_cmpR op_eq (@pi1 K _ _ _ _ _ _ _ rfl (pv 0)) pe_str (nomark _)) (@pss_one _ _ _ (@ps_ret _ _ _ _ (@pi1 K _ _ _ _ _ _ _ rfl (pv 0)))) pss_nil,@pss_one _ _ _ (@ps_ret _ _ _ _ pe_non))),?_⟩
 cases gk with
 | list g =>
  refine ⟨_,rfl,_,_,_,hd,rfl,rfl,isS ?_⟩;refine ⟨rfl,_,rfl,bF ⟨_,rfl,_,_,_,hd,rfl,rfl,λv hv=>?_⟩⟩;exact q v hv
 | rows g =>
  refine ⟨_,rfl,_,_,_,hd,rfl,rfl,isS ?_⟩;refine ⟨rfl,_,rfl,iteN (aL (by decide)) ⟨_,rfl,_,_,_,hd,rfl,rfl,λv hv=>?_⟩⟩;obtain rfl:=bp hv;refine ⟨rfl,_,rfl,bF ⟨_,rfl,_,_,_,hd,rfl,rfl,λv hv=>?_⟩⟩;exact q v hv
 | _ =>
  refine ⟨_,rfl,_,_,_,hd,rfl,rfl,isS ?_⟩;refine ⟨rfl,_,rfl,iteN (aL (by decide)) ⟨_,rfl,_,_,_,hd,rfl,rfl,λv hv=>?_⟩⟩;obtain rfl:=bp hv;exact ⟨rfl,_,rfl,iteN (aL (by decide)) q⟩
theorem cA (T:Tx K mg ad) {f:Addr} {fd:FuncData} (F:Gn K mg "is_whole" eW ["thing"] f fd):FnOk P w K mg base CX0 1 f fd ["thing"] (nW K ad):=by
 refine F.F.ok oY (λvs H Q E h=>?_) (λcdv A outer s H vs Q E hr h=>?_)
 ·obtain ⟨d,x,rfl,_⟩:=h
  rfl
 obtain ⟨d,x,rfl,hd,ok,q⟩:=h;refine ⟨_,(@pss_one _ _ _ (@ps_ret _ _ _ _ (pe_and (pe_callB (ay (K:=K) rfl) rfl T.z_isinstance boot_isinstance (@pa2 _ _ _ _ _ (pv 0) (bo rfl T.z_int boot_int) (0) (0))) (pe_one (AR (pe_callB (ay (K:=K) rfl) rfl T.z_isinstance boot_isinstance (@pa2 _ _ _ _ _ (pv 0) (bo rfl T.z_bool boot_bool) (0) (0)))))))),?_⟩
 cases hd with
 | non=>cases ok
 | bl=>cases ok
 | int=>exact ⟨_,rfl,_,_,_,rfl,.int_int,_,rfl,aq ⟨_,rfl,_,_,_,rfl,.int_bool,_,rfl,q⟩⟩
 | str=>exact ⟨_,rfl,_,_,_,rfl,.str_int,_,rfl,aI q⟩
 | tup ht _ _=>exact ⟨_,rfl,_,_,_,rfl,.tup_int ht,_,rfl,aI q⟩
theorem bv (T:Tx K mg ad) {f:Addr} {fd:FuncData} (F:Gn K mg "is_whole_within" bC ["thing","low","high"] f fd):FnOk P w K mg base CX0 2 f fd ["thing","low","high"] (eR K ad):=by
 obtain ⟨_,_,IW⟩:=T.is_whole;have Jg:=cA (P:=P) (w:=w) (base:=base) T IW;refine F.F.ok fe (λvs H Q E h=>?_) (λcdv A outer s H vs Q E hr h=>?_)
 ·obtain ⟨d,x,j,k,rfl,_⟩:=h
  rfl
 obtain ⟨d,x,j,k,rfl,hd,ok,q⟩:=h;refine ⟨_,(@pss_one _ _ _ (@ps_ret _ _ _ _ (pe_and (pcl IW Jg (hr.mono (by lia)) rfl (@pa1 _ _ _ (pv 0) (0))) (pe_one (mL op_le op_le (pv 1) (pv 0) (pv 2)))))),?_⟩;refine ⟨_,rfl,d,x,rfl,hd,ok,?_⟩
 cases hd with
 | non=>cases ok
 | bl=>cases ok
 | str=>exact ⟨_,rfl,aI q⟩
 | tup ht _ _=>exact ⟨_,rfl,aI q⟩
 | @int i =>
  replace q:Q (.bl (decide (j<=i) && decide (i<=k))) H:=q;refine ⟨_,rfl,aq ?_⟩;refine ⟨_,rfl,_,rfl,_,_,rfl,rfl,_,rfl,?_⟩;refine cx (λc=>⟨_,rfl,_,_,rfl,rfl,?_⟩) (λc=>?_)
  ·show Q (.bl (decide (i<=k))) H;rw [c,aAD] at q;exact q
  ·rw [aBc.mpr c,aAy] at q;exact q
theorem at0 {α:Type} (c:α) (r:List α):atI (c :: r) 0=some c:=by
 have e:atI (c :: r) ((0:Nat):Int)=some c:=ii (0);exact e
theorem xQ:(10:Int) ^ (30:Int).toNat=1000000000000000000000000000000:=by decide +kernel
theorem jF (T:Tx K mg ad) {f:Addr} {fd:FuncData} (F:Gn K mg "are_bounds" c8 ["low","high"] f fd):FnOk P w K mg base CX0 2 f fd ["low","high"] (jE K ad):=by
 obtain ⟨_,_,IW⟩:=T.is_whole;have Jg:=cA (P:=P) (w:=w) (base:=base) T IW;refine F.F.ok j6 (λvs H Q E h=>?_) (λcdv A outer s H vs Q E hr h=>?_)
 ·obtain ⟨d,e,x,y,rfl,_⟩:=h
  rfl
 obtain ⟨d,e,x,y,rfl,hd,he,ok,ok',q⟩:=h;refine ⟨_,(3,@ps_if _ _ _ _ _ _ _ _ (PW.pt (@pw_or _ _ _ _ _ _ _ (@pt_not _ _ _ _ (@pt_val _ _ _ (pcl IW Jg (hr.mono (by lia)) rfl (@pa1 _ _ _ (pv 0) (0))) (by intro _;rfl))) (@pw_or1 _ _ _ _ (@pt_not _ _ _ _ (@pt_val _ _ _ (pcl IW Jg (hr.mono (by lia)) rfl (@pa1 _ _ _ (pv 1) (0))) (by intro _;rfl)))))) (@pss_one _ _ _ (@ps_ret _ _ _ _ pe_bl)) pss_nil,@pss_one _ _ _ (@ps_ret _ _ _ _ (pe_chain3 op_le op_le op_le (@pe_un _ _ _ _ _ _ un_neg (@pe_op _ _ _ _ _ _ _ _ op_pow pe_int pe_int)) (pv 0) (pv 1) (@pe_op _ _ _ _ _ _ _ _ op_pow pe_int pe_int)))),?_⟩;refine ⟨_,rfl,d,x,rfl,hd,ok,_,rfl,?_⟩
 cases hd with
 | non=>cases ok
 | bl=>cases ok
 | str=>exact aq (aq q)
 | tup ht _ _=>exact aq (aq q)
 | @int i =>
  refine aI ⟨_,rfl,e,y,rfl,he,ok',_,rfl,?_⟩
  cases he with
  | non=>cases ok'
  | bl=>cases ok'
  | str=>exact aq q
  | tup ht _ _=>exact aq q
  | @int j =>
   replace q:Q (.bl (decide (-1000000000000000000000000000000<=i) && decide (i<=j) && decide (j<=1000000000000000000000000000000))) H:=q;refine aI ?_;refine ⟨_,_,rfl,rfl,⟨by decide,by decide,by decide⟩,_,rfl,_,rfl,_,_,rfl,rfl,_,rfl,?_⟩;rw [xQ];refine cx (λc=>⟨_,rfl,_,_,rfl,rfl,_,rfl,?_⟩) (λc=>?_)
   ·replace c:decide (-1000000000000000000000000000000<=i)=true:=c;rw [c,aAD] at q;refine cx (λc=>?_) (λc=>?_)
    ·refine ⟨_,_,rfl,rfl,⟨by decide,by decide,by decide⟩,_,_,rfl,rfl,?_⟩;rw [xQ];replace c:decide (i<=j)=true:=c;rw [c,aAD] at q;exact q
    ·replace c:¬ decide (i<=j)=true:=c;rw [aBc.mpr c,aAy] at q;exact q
   ·replace c:¬ decide (-1000000000000000000000000000000<=i)=true:=c;rw [aBc.mpr c,aAy,aAy] at q;exact q
theorem gl (u:Str) (n:Int):∀ l:List (Str×Int),AZ (bG u l) (.int n)=true
 | []=>rfl
 | (x,i) :: D=>by
  unfold bG
  split
  ·rfl
  ·exact gl u n D
theorem lR (T:Tx K mg ad) {f:Addr} {fd:FuncData} (F:Gn K mg "has_parts" dR ["thing"] f fd):FnOk P w K mg base CX0 1 f fd ["thing"] (lL K ad):=by
 obtain ⟨t_PART_COUNTS,c_PART_COUNTS,d_PART_COUNTS⟩:=T.PART_COUNTS;refine F.F.ok my (λvs H Q E h=>?_) (λcdv A outer s H vs Q E hr h=>?_)
 ·obtain ⟨d,x,rfl,_⟩:=h
  rfl
 obtain ⟨d,x,rfl,hd,ok,q⟩:=h;refine ⟨_,(3,@ps_if _ _ _ _ _ _ _ _ (PW.pt (@pw_or _ _ _ _ _ _ _ (@pt_not _ _ _ _ (@pt_val _ _ _ (pe_callB (ay (K:=K) rfl) rfl T.z_isinstance boot_isinstance (@pa2 _ _ _ _ _ (pv 0) (bo rfl T.z_tuple boot_tuple) (0) (0))) (by intro _;rfl))) (@pw_or _ _ _ _ _ _ _ (pt_cmpR op_eq (pe_callB (call_lenDN (K:=K) rfl) rfl T.z_len PySem.boot_len (@pa1 _ _ _ (pv 0) (0))) pe_int (nomark _)) (@pw_or1 _ _ _ _ (@pt_not _ _ _ _ (@pt_val _ _ _ (pe_callB (ay (K:=K) rfl) rfl T.z_isinstance boot_isinstance (@pa2 _ _ _ _ _ (@pi1 K _ _ _ _ _ _ _ rfl (pv 0)) (bo rfl T.z_str boot_str) (0) (0))) (by intro _;rfl))))))) (@pss_one _ _ _ (@ps_ret _ _ _ _ pe_bl)) pss_nil,@pss_one _ _ _ (@ps_ret _ _ _ _ (pe_cmpR op_eq (pe_kget d_PART_COUNTS rfl c_PART_COUNTS (@pa1 _ _ _ (@pi1 K _ _ _ _ _ _ _ rfl (pv 0)) (0))) (pe_callB (call_lenDN (K:=K) rfl) rfl T.z_len PySem.boot_len (@pa1 _ _ _ (pv 0) (0))) (nomark _)))),?_⟩
 cases d with
 | non=>cases ok
 | bl=>cases ok
 | int i =>
  cases hd
  exact ⟨_,rfl,_,_,_,rfl,.int_tuple,_,rfl,aq (aq q)⟩
 | str z =>
  cases hd
  exact ⟨_,rfl,_,_,_,rfl,.str_tuple,_,rfl,aq (aq q)⟩
 | tup l =>
  obtain ⟨a,xs,rfl,ha,pa,ra⟩:=id hd.unref;refine ⟨_,rfl,_,_,_,rfl,.tup_tuple ha,_,rfl,aI ?_⟩;refine ⟨_,rfl,_,_,rfl,hd.d,rfl,_,rfl,?_⟩
  cases l with
  | nil=>exact bF (aq q)
  | cons e l =>
   refine iteN (λz=>?_) ?_
   ·injection z with z
    rw [aAs] at z;lia
   have oke:=aO ok e aAh;refine ⟨_,rfl,_,_,_,hd,rfl,at0 _ _,λv hv=>?_⟩
   cases e with
   | non=>cases oke
   | bl=>cases oke
   | int i =>
    cases hv
    exact ⟨_,_,_,rfl,.int_str,_,rfl,aq q⟩
   | tup l =>
    obtain ⟨a1,xs1,rfl,ha1,_,_⟩:=id hv.unref;exact ⟨_,_,_,rfl,.tup_str ha1,_,rfl,aq q⟩
   | str u =>
    obtain rfl:=bp hv;refine ⟨_,_,_,rfl,.str_str,_,rfl,aI ?_⟩;refine ⟨_,rfl,_,_,_,hd,rfl,at0 _ _,isS ?_⟩;refine ⟨_,rfl,_,rfl,_,_,rfl,hd.d,gl u _ _,q⟩
theorem iT:∀ {l:List Dt},l.all bd=true->l=(l.map sO).map Dt.str
 | [],_=>rfl
 | d :: l,h=>by
  rw [aBm,aAr] at h;rw [aAH,aAH,<- iT h.2]
  cases d with
  | str z=>rfl
  | _=>exact absurd h.1 aAq
theorem eU {K:W.Frag} {H:Hp}:∀ {ws:List Str} {xs:List V},IsPs K H (ws.map Dt.str) xs->xs=ws.map V.str
 | [],xs,h=>by cases h;rfl
 | w :: ws,xs,h=>by
  cases h with
  | cons h1 h2=>rw [bp h1,eU h2];rfl
theorem wZ (m n:Nat):decide (V.int (m:Int)=V.int (n:Int))=decide (m=n):=by
 rw [aAU];simp;lia
theorem lS (T:Tx K mg ad) {f:Addr} {fd:FuncData} (F:Gn K mg "are_words" dS ["words"] f fd):FnOk P w K mg base CX0 2 f fd ["words"] (lM K ad):=by
 obtain ⟨_,_,Jl⟩:=T.is_name;have JJ:=eS (P:=P) (w:=w) (base:=base) T Jl;obtain ⟨t_MOST_WORDS,c_MOST_WORDS⟩:=T.MOST_WORDS;refine F.F.ok mz (λvs H Q E h=>?_) (λcdv A outer s H vs Q E hr h=>?_)
 ·obtain ⟨d,x,rfl,_⟩:=h
  rfl
 obtain ⟨d,x,rfl,hd,ok,q⟩:=h;refine ⟨_,(3,@ps_if _ _ _ _ _ _ _ _ (PW.pt (@pw_or _ _ _ _ _ _ _ (@pt_not _ _ _ _ (@pt_val _ _ _ (pe_callB (ay (K:=K) rfl) rfl T.z_isinstance boot_isinstance (@pa2 _ _ _ _ _ (pv 0) (bo rfl T.z_tuple boot_tuple) (0) (0))) (by intro _;rfl))) (@pw_or1 _ _ _ _ (@pt_not _ _ _ _ (pt_chain op_le op_le pe_int (pe_callB (call_lenDN (K:=K) rfl) rfl T.z_len PySem.boot_len (@pa1 _ _ _ (pv 0) (0))) (pe_gint rfl c_MOST_WORDS)))))) (@pss_one _ _ _ (@ps_ret _ _ _ _ pe_bl)) pss_nil,@pss_one _ _ _ (@ps_ret _ _ _ _ (pe_and (pe_callB (call_allN (K:=K) rfl rfl) rfl T.z_all boot_all (@pa1 _ _ _ (bA rfl (cs0 (NL:=["word"]) rfl (by decide +kernel) (by decide +kernel)) (bM (K:=K) rfl (pv 0)) (λ_ _ _ _=>(ai (i:=0) (show List.Nodup (α:=Str) ["word"] by decide +kernel) rfl (Or.inl rfl))) (λ_ _ _ _=>(pcl Jl JJ (hr.mono (by lia)) rfl (@pa1 _ _ _ (pv 0) (0))))) (0))) (pe_one (pe_cmpR op_eq (pe_callB sw rfl T.z_len PySem.boot_len (@pa1 _ _ _ (bh (sv rfl) rfl T.z_set boot_set (@pa1 _ _ _ (pv 0) (0))) (0))) (pe_callB (call_lenDN (K:=K) rfl) rfl T.z_len PySem.boot_len (@pa1 _ _ _ (pv 0) (0))) (nomark _)))))),?_⟩
 cases d with
 | non=>cases ok
 | bl=>cases ok
 | int i =>
  cases hd
  exact ⟨_,rfl,_,_,_,rfl,.int_tuple,_,rfl,aq (aq (q H (Same.refl H)))⟩
 | str z =>
  cases hd
  exact ⟨_,rfl,_,_,_,rfl,.str_tuple,_,rfl,aq (aq (q H (Same.refl H)))⟩
 | tup ds =>
  obtain ⟨a,xs,rfl,hT,pa,ra⟩:=id hd.unref;have el:=ra.length;replace q:∀ H',Same H H'->Q (.bl (decide (1<=ds.length) && decide (ds.length<=8) && ds.all bd && decide (nV (ds.map sO)=ds.length))) H':=q;refine ⟨_,rfl,_,_,_,rfl,.tup_tuple hT,_,rfl,aI ?_⟩;refine ⟨_,rfl,_,_,rfl,hd.d,_,_,rfl,rfl,_,rfl,cx (λc1=>?_) (λc1=>?_)⟩
  ·have l1:1<=ds.length:=by
    have:(1:Int)<=ds.length:=of_decide_eq_true c1;lia
   refine ⟨_,_,rfl,rfl,_,rfl,cx (λc2=>?_) (λc2=>?_)⟩
   ·have l2:¬ ds.length<=8:=by
     have c2':¬ ((ds.length:Int)<=8):=by simpa using c2
     lia
    rw [decide_eq_false l2,aBj,aAy,aAy] at q;exact q H (Same.refl H)
   ·have l2:ds.length<=8:=by
     have:((ds.length:Int)<=8):=by simpa using c2
     lia
    rw [decide_eq_true l1,decide_eq_true l2,aAD,aAD] at q;refine ⟨_,rfl,a,rfl,⟨_,hT⟩,λl hln=>?_⟩;refine cP (K:=K) (xs:=xs) (λi ys σ H'=>ys=bls ((ds.take i).map bd)/\Same H H'/\H' l=some (.lst ys)/\σ.length=1) ⟨rfl,ae hln _,ac,rfl⟩ (λi ys σ H' _ r=>r.2.1.tup hT) ?_ ?_
    ·rintro i y ys σ H1 N hy ⟨rfl,g,e1,hσ⟩ next;obtain ⟨d,hdi,hp⟩:=ra.get' hy;have nx:bls ((ds.take i).map bd)++[V.bl (bd d)]=bls ((ds.take (i+1)).map bd):=by
      show List.map V.bl _++[V.bl (bd d)]=List.map V.bl _;rw [aAz,aAz];exact b8 (V.bl ∘ bd) hdi
     have hlen:(bls ((ds.take i).map bd)).length < sizeLine:=by
      simp only [bls,aAe,aAQ];exact aj (by lia)
     match σ,hσ with
     | [_],_=>exact ⟨_,rfl,d,y,rfl,hp.same g,aO ok d (aAw hdi),λH2 g2=>⟨g2 _ _ e1,hlen,next _ _ _ ⟨nx,aS hln (g.trans g2),ac,rfl⟩⟩⟩
    ·rintro ys σ H1 ⟨rfl,g,e1,_⟩;rw [<- el,aAB] at e1;refine ⟨l,ds.map bd,rfl,rfl,SqL.of e1,_,rfl,?_⟩;have ea:(ds.map bd).all id=ds.all bd:=by rw [aA5];rfl
     rw [ea]
     cases hb:ds.all bd with
     | false =>
      rw [hb,aAy] at q;exact aI (q H1 g)
     | true =>
      rw [hb,aAD] at q;have es:=iT hb;rw [es] at ra;have ex:=eU ra;subst ex;refine aq ?_;refine ⟨_,rfl,a,(ds.map sO).map Sum.inr,rfl,by rw [aAz];exact g.tup hT,by rw [aAe,aAe];lia,λp hp=>?_⟩;refine ⟨p,_,rfl,ac,?_⟩;refine ⟨_,rfl,_,_,rfl,((hd.same g).same (ae hp _)).d,rfl,?_⟩;rw [wZ];exact q _ (g.trans (ae hp _))
  ·have l1:¬ 1<=ds.length:=by
    have:¬ (1:Int)<=ds.length:=by simpa using c1
    lia
   refine ⟨_,rfl,aq ?_⟩;rw [decide_eq_false l1,aAy,aAy,aAy] at q;exact q H (Same.refl H)
def nY (K:W.Frag) (n:Nat):Sp:=λvs H Q _=>∃ (r:Nat) (d:Dt) (x:V),r < n/\vs=[x,.int r]/\IsP K H d x/\okD d=true/\∀ H',Same H H'->Q (.bl (au r d)) H'
def uP (K:W.Frag) (n:Nat):Sp:=λvs H Q _=>∃ (r:Nat) (d:Dt) (x:V),r < n/\vs=[x,.int r]/\IsP K H d x/\okD d=true/\∀ H',Same H H'->Q (.bl (aP (au r) d)) H'
def qS (K:W.Frag) (n:Nat):Sp:=λvs H Q _=>∃ (r:Nat) (d:Dt) (x:V),r < n/\vs=[x,.int r]/\IsP K H d x/\okD d=true/\∀ H',Same H H'->Q (.bl (lK (au r) d)) H'
def uQ (K:W.Frag) (n:Nat):Sp:=λvs H Q _=>∃ (r:Nat) (d e:Dt) (x y:V),r < n/\vs=[x,y,.int r]/\IsP K H d x/\IsP K H e y/\okD d=true/\okD e=true/\∀ H',Same H H'->Q (.bl (eE (au r) d e)) H'
theorem nZ (T:Tx K mg ad) {f ff:Addr} {fd fdf:FuncData} (n:Nat) (F:Gn K mg "is_field" cq ["field","room"] f fd) (Ja:Gn K mg "is_formed" bx ["thing","room"] ff fdf)
  (Jj:FnOk P w K mg base CX0 (3*n+3) ff fdf ["thing","room"] (nY K n)):FnOk P w K mg base CX0 (3*n+3+1) f fd ["field","room"] (uP K n):=by
 obtain ⟨_,_,Jl⟩:=T.is_name;have JJ:=eS (P:=P) (w:=w) (base:=base) T Jl;refine F.F.ok oZ (λvs H Q E h=>?_) (λcdv A outer s H vs Q E hr h=>?_)
 ·obtain ⟨r,d,x,_,rfl,_⟩:=h
  rfl
 obtain ⟨r,d,x,hrn,rfl,hd,ok,q⟩:=h;refine ⟨_,(3,@ps_if _ _ _ _ _ _ _ _ (PW.pt (@pw_or _ _ _ _ _ _ _ (@pt_not _ _ _ _ (@pt_val _ _ _ (pe_callB (ay (K:=K) rfl) rfl T.z_isinstance boot_isinstance (@pa2 _ _ _ _ _ (pv 0) (bo rfl T.z_tuple boot_tuple) (0) (0))) (by intro _;rfl))) (@pw_or1 _ _ _ _ (pt_cmpR op_ne (pe_callB (call_lenDN (K:=K) rfl) rfl T.z_len PySem.boot_len (@pa1 _ _ _ (pv 0) (0))) pe_int (nomark _))))) (@pss_one _ _ _ (@ps_ret _ _ _ _ pe_bl)) pss_nil,@pss_one _ _ _ (@ps_ret _ _ _ _ (pe_and (pcl Jl JJ (hr.mono (by lia)) rfl (@pa1 _ _ _ (@pi1 K _ _ _ _ _ _ _ rfl (pv 0)) (0))) (pe_one (pcl Ja Jj (hr.mono (by lia)) rfl (@pa2 _ _ _ _ _ (@pi1 K _ _ _ _ _ _ _ rfl (pv 0)) (pv 1) (0) (0))))))),?_⟩
 cases d with
 | non=>cases ok
 | bl=>cases ok
 | int i =>
  cases hd
  exact ⟨_,rfl,_,_,_,rfl,.int_tuple,_,rfl,aq (aq (q H (Same.refl H)))⟩
 | str z =>
  cases hd
  exact ⟨_,rfl,_,_,_,rfl,.str_tuple,_,rfl,aq (aq (q H (Same.refl H)))⟩
 | tup l =>
  obtain ⟨a,xs,rfl,ha,pa,ra⟩:=id hd.unref;refine ⟨_,rfl,_,_,_,rfl,.tup_tuple ha,_,rfl,aI ?_⟩;refine ⟨_,rfl,_,_,rfl,hd.d,rfl,_,rfl,?_⟩
  by_cases h2:l.length=2
  ·match l,h2 with
   | [e,e'],_ =>
    refine eF ?_;refine ⟨_,rfl,_,_,_,hd,rfl,rfl,λv hv=>?_⟩;refine ⟨e,v,rfl,hv,aO ok e aAh,λH1 g1=>?_⟩;replace q:∀ H',Same H H'->Q (.bl (bd e && au r e')) H':=q;refine ⟨_,rfl,?_⟩
    cases hb:bd e with
    | false =>
     rw [hb,aAy] at q;exact aI (q H1 g1)
    | true =>
     rw [hb,aAD] at q;refine aq ?_;refine ⟨_,rfl,_,_,_,hd.same g1,rfl,rfl,λv hv=>?_⟩;exact ⟨_,rfl,r,e',v,hrn,rfl,hv,aO ok e' (aAj _ aAh),λH2 g2=>q H2 (g1.trans g2)⟩
  ·have e0:aP (au r) (.tup l)=false:=by
    unfold aP
    split
    ·rename_i h;injection h with h;subst h;exact absurd rfl h2
    ·rfl
   rw [e0] at q;refine nX (λz=>?_) (q H (Same.refl H));injection z with z
   lia
theorem gm {K:W.Frag} {H:Hp} {a b:Dt} {v:V} (h:IsP K H (.tup [a,b]) v):∃ c x y,v=.ref c/\SqT K H c [x,y]/\IsP K H a x/\IsP K H b y:=by
 obtain ⟨c,xs,rfl,hc,pc,rc⟩:=h.unref
 cases rc with
 | cons r1 rc =>
  cases rc with
  | cons r2 rc =>
   cases rc
   exact ⟨c,_,_,rfl,hc,r1,r2⟩
theorem eV {f:Dt->Bool} {d:Dt} (h:aP f d=true):∃ z k,d=.tup [.str z,k]/\bB z=true/\f k=true:=by
 unfold aP at h
 split at h
 ·rw [aAr] at h
  rename_i a b
  cases a with
  | str z=>exact ⟨z,b,rfl,h.1,h.2⟩
  | _=>exact absurd h.1 aAq
 ·cases h
theorem sQ (xs:List V):gR xs (some 1) none=xs.drop 1:=by
 unfold gR
 cases xs with
 | nil=>rfl
 | cons x r =>
  have e1:HT.sIx (x :: r).length 0 (some 1)=1:=by
   have:=HT.sIx_nat (x :: r).length 0 1;rw [aAs] at this ⊢;rw [show (1:Int)=((1:Nat):Int) from rfl,this];lia
  have e2:HT.sIx (x :: r).length (x :: r).length none=(x :: r).length:=rfl;rw [e1,e2];apply aBQ;rw [aBn];exact aAo _
theorem jG (T:Tx K mg ad) {f ff:Addr} {fd fdf:FuncData} (n:Nat) (F:Gn K mg "are_fields" bi ["fields","room"] f fd) (KO:Gn K mg "is_field" cq ["field","room"] ff fdf)
  (KW:FnOk P w K mg base CX0 (3*n+4) ff fdf ["field","room"] (uP K n)):FnOk P w K mg base CX0 (3*n+4+1) f fd ["fields","room"] (qS K n):=by
 obtain ⟨t_MOST_FIELDS,c_MOST_FIELDS⟩:=T.MOST_FIELDS;refine F.F.ok eM (λvs H Q E h=>?_) (λcdv A outer s H vs Q E hr h=>?_)
 ·obtain ⟨r,d,x,_,rfl,_⟩:=h
  rfl
 obtain ⟨r,d,x,hrn,rfl,hd,ok,q⟩:=h;refine ⟨_,(3,@ps_if _ _ _ _ _ _ _ _ (PW.pt (@pw_or _ _ _ _ _ _ _ (@pt_not _ _ _ _ (@pt_val _ _ _ (pe_callB (ay (K:=K) rfl) rfl T.z_isinstance boot_isinstance (@pa2 _ _ _ _ _ (pv 0) (bo rfl T.z_tuple boot_tuple) (0) (0))) (by intro _;rfl))) (@pw_or1 _ _ _ _ (pt_cmpR op_gt (pe_callB (call_lenDN (K:=K) rfl) rfl T.z_len PySem.boot_len (@pa1 _ _ _ (pv 0) (0))) (pe_gint rfl c_MOST_FIELDS) (nomark _))))) (@pss_one _ _ _ (@ps_ret _ _ _ _ pe_bl)) pss_nil,(3,@ps_if _ _ _ _ _ _ _ _ (@pt_not _ _ _ _ (@pt_val _ _ _ (pe_callB (call_allN (K:=K) rfl rfl) rfl T.z_all boot_all (@pa1 _ _ _ (bA rfl (csR (sc:=aa bi) (NL:=["field"]) (N:=["fields","room","names"]) (ρ:=[1]) (N':=["field","room"]) rfl rfl rfl (by decide +kernel) (by decide +kernel) (by decide +kernel) rfl (by decide +kernel)) (bM (K:=K) rfl (pv 0)) (λ_ _ _ _=>(ai (i:=0) (show List.Nodup (α:=Str) ["field","room"] by decide +kernel) rfl (Or.inl rfl))) (λ_ _ _ _=>(pcl KO KW (hr.mono (by lia)) rfl (@pa2 _ _ _ _ _ (pv 0) (pv 1) (0) (0))))) (0))) (by intro _;rfl))) (@pss_one _ _ _ (@ps_ret _ _ _ _ pe_bl)) pss_nil,(3,ps_setC (j:=2) eM.nd rfl (Or.inl rfl) rfl (cs0 (NL:=["name","kind"]) rfl (by decide +kernel) (by decide +kernel)) (bM (K:=K) rfl (pv 0)) (λ_ _ _ _=>(im (K:=K) (n:=2) rfl rfl (aH (ai (i:=0) (show List.Nodup (α:=Str) ["name","kind"] by decide +kernel) rfl (Or.inl rfl)) (aH (ai (i:=1) (show List.Nodup (α:=Str) ["name","kind"] by decide +kernel) rfl (Or.inl rfl)) bW)))) (λ_ _ _ _=>(pv 0)),@pss_one _ _ _ (@ps_ret _ _ _ _ (pe_callB (call_allN (K:=K) rfl rfl) rfl T.z_all boot_all (@pa1 _ _ _ (bA rfl (cs0 (NL:=["ahead","behind"]) rfl (by decide +kernel) (by decide +kernel)) (A9 rfl T.z_zip (@pa2 _ _ _ _ _ (pv 2) (bO (nz (K:=K) rfl) (pv 2) (bX pe_int) cX) (0) (0))) (λ_ _ _ _=>(im (K:=K) (n:=2) rfl rfl (aH (ai (i:=0) (show List.Nodup (α:=Str) ["ahead","behind"] by decide +kernel) rfl (Or.inl rfl)) (aH (ai (i:=1) (show List.Nodup (α:=Str) ["ahead","behind"] by decide +kernel) rfl (Or.inl rfl)) bW)))) (λ_ _ _ _=>(pe_cmpR rG (pv 0) (pv 1) (nomark _)))) (0))))))),?_⟩
 cases d with
 | non=>cases ok
 | bl=>cases ok
 | int i =>
  cases hd
  exact ⟨_,rfl,_,_,_,rfl,.int_tuple,_,rfl,aq (aq (q H (Same.refl H)))⟩
 | str z =>
  cases hd
  exact ⟨_,rfl,_,_,_,rfl,.str_tuple,_,rfl,aq (aq (q H (Same.refl H)))⟩
 | tup ds =>
  obtain ⟨a,xs,rfl,ha,pa,ra⟩:=id hd.unref;have el:=ra.length;replace q:∀ H',Same H H'->Q (.bl (decide (ds.length<=8) && ds.all (aP (au r)) && sP (ds.map nmD))) H':=q;refine ⟨_,rfl,_,_,_,rfl,.tup_tuple ha,_,rfl,aI ?_⟩;refine ⟨_,rfl,_,_,rfl,hd.d,_,_,rfl,rfl,_,rfl,cx (λc1=>?_) (λc1=>?_)⟩
  ·have l2:¬ ds.length<=8:=by
    have:(8:Int) < ds.length:=of_decide_eq_true c1;lia
   rw [decide_eq_false l2,aAy,aAy] at q;exact q H (Same.refl H)
  have l2:ds.length<=8:=by
   have:¬ ((8:Int) < ds.length):=by simpa using c1
   lia
  rw [decide_eq_true l2,aAD] at q;refine ⟨_,rfl,a,rfl,⟨_,ha⟩,λl hln=>?_⟩;refine cP (K:=K) (xs:=xs) (λi ys σ H'=>ys=bls ((ds.take i).map (aP (au r)))/\Same H H'/\H' l=some (.lst ys)/\∃ v,σ=[v,some (.int r)]) ⟨rfl,ae hln _,ac,none,rfl⟩ (λi ys σ H' _ r=>r.2.1.tup ha) ?_ ?_
  ·rintro i y ys σ H1 N hy ⟨rfl,g,e1,v,rfl⟩ next;obtain ⟨d,hdi,hp⟩:=ra.get' hy;have nx:bls ((ds.take i).map (aP (au r)))++[V.bl (aP (au r) d)]=bls ((ds.take (i+1)).map (aP (au r))):=by
    show List.map V.bl _++[V.bl _]=List.map V.bl _;rw [aAz,aAz];exact b8 (V.bl ∘ aP (au r)) hdi
   have hlen:(bls ((ds.take i).map (aP (au r)))).length < sizeLine:=by
    simp only [bls,aAe,aAQ];exact aj (by lia)
   exact ⟨_,rfl,_,rfl,r,d,y,hrn,rfl,hp.same g,aO ok d (aAw hdi),λH2 g2=>⟨g2 _ _ e1,hlen,next _ _ _ ⟨nx,aS hln (g.trans g2),ac,_,rfl⟩⟩⟩
  ·rintro ys σ H1 ⟨rfl,g,e1,v,rfl⟩;rw [<- el,aAB] at e1;refine ⟨l,ds.map (aP (au r)),rfl,rfl,SqL.of e1,_,rfl,?_⟩;have ea:(ds.map (aP (au r))).all id=ds.all (aP (au r)):=by rw [aA5];rfl
   rw [ea]
   cases hb:ds.all (aP (au r)) with
   | false =>
    rw [hb,aAy] at q;exact aq (q H1 g)
   | true =>
    rw [hb,aAD] at q;refine aI ?_;refine ⟨_,rfl,a,rfl,⟨_,g.tup ha⟩,λl2 hl2=>?_⟩;refine cP (K:=K) (xs:=xs) (λi ys σ H'=>ys=(ds.take i).map (λd=>V.str (nmD d))/\Same H1 H'/\H' l2=some (.lst ys)/\σ.length=2) ⟨rfl,ae hl2 _,ac,rfl⟩ (λi ys σ H' _ r=>(g.trans r.2.1).tup ha) ?_ ?_
    ·rintro i y ys σ H2 N hy ⟨rfl,g2,e2,hσ⟩ next;obtain ⟨d,hdi,hp⟩:=ra.get' hy;obtain ⟨z,k,rfl,_,_⟩:=eV (aAR.mp hb d (aAw hdi));obtain ⟨b,x1,y2,rfl,hb',hp1,hp2⟩:=gm ((hp.same g).same g2);obtain rfl:=bp hp1
     match σ,hσ with
     | [_,_],_ =>
      refine ⟨b,_,rfl,hb',rfl,_,_,rfl,_,_,rfl,rfl,?_⟩;refine ⟨_,rfl,e2,?_,next _ _ _ ⟨b8 (λd=>V.str (nmD d)) hdi,aS hl2 g2,ac,rfl⟩⟩;rw [aAe,aAQ];exact aj (by lia)
    ·rintro ys σ H2 ⟨rfl,g2,e2,hσ⟩;rw [<- el,aAB] at e2;have en:ds.map (λd=>V.str (nmD d))=(ds.map nmD).map V.str:=by rw [aAz];rfl
     rw [en] at e2;have lns:(ds.map nmD).length=ds.length:=aAe ..
     generalize ds.map nmD=ns at *
     refine ⟨_,rfl,_,rfl,_,rfl,l2,_,rfl,SqL.of e2,λl3 hl3=>?_⟩;have n23:l2≠l3:=aw e2 hl3;have ec:gR (ns.map V.str) (some 1) none=(ns.drop 1).map V.str:=by rw [sQ,List.map_drop]
     rw [ec];have e2':(upd H2 l3 (.lst ((ns.drop 1).map V.str))) l2=some (.lst (ns.map V.str)):=by rw [ah n23];exact e2
     refine ⟨l2,l3,rfl,⟨_,SqL.of e2'⟩,⟨_,SqL.of ac⟩,λl4 hl4=>?_⟩;have g4:=(ae hl3 (.lst ((ns.drop 1).map V.str)));refine sx (K:=K) (xs:=ns.map V.str) (ys:=(ns.drop 1).map V.str) (λi ys σ H'=>ys=bls (((ns.zip (ns.drop 1)).take i).map λp=>decide (ltS p.1 p.2))/\Same (upd H2 l3 (.lst ((ns.drop 1).map V.str))) H'/\H' l4=some (.lst ys)/\σ.length=2) ⟨rfl,ae hl4 _,ac,rfl⟩ (λi us σ H' r=>⟨SqL.of (r.2.1 _ _ e2'),SqL.of (r.2.1 _ _ ac)⟩) ?_ ?_
     ·rintro i x y T us σ H5 N hx hy hT ⟨rfl,g5,e5,hσ⟩ next;rw [aAt] at hx hy;obtain ⟨a1,ha1,rfl⟩:=aAu.mp hx;obtain ⟨b1,hb1,rfl⟩:=aAu.mp hy;have n4:l4≠T:=aw e5 hT;have hz:(ns.zip (ns.drop 1))[i]?=some (a1,b1):=aBF.mpr ⟨ha1,hb1⟩;have li:=(aAg.mp hz).1;rw [aBO] at li
      match σ,hσ with
      | [_,_],_ =>
       refine ⟨T,_,rfl,.inl (.inl ac),rfl,_,_,rfl,_,_,rfl,rfl,?_⟩;refine ⟨_,rfl,_,rfl,_,_,rfl,rfl,by rw [ah n4];exact e5,?_,next _ _ _ ⟨?_,?_,ac,rfl⟩⟩
       ·simp only [bls,aAe,aAQ];exact aj (by lia)
       ·show List.map V.bl _++[V.bl (decide (ltS a1 b1))]=List.map V.bl _;rw [aAz,aAz];exact b8 (V.bl ∘ λp:Str×Str=>decide (ltS p.1 p.2)) hz
       ·exact aS hl4 (g5.trans (ae hT _))
     ·rintro us σ H5 ⟨rfl,g5,e5,hσ⟩;rw [aAe,aAe,<- aBO,aAB] at e5;refine ⟨l4,_,rfl,rfl,SqL.of e5,?_⟩;rw [aA5];exact q H5 (((g.trans g2).trans g4).trans g5)
def jH (K:W.Frag) (_:Ads):Sp:=λvs H Q _=>∃ (fs:List Dt) (key:Dt) (x y:V),vs=[x,y]/\IsP K H (.tup [.str "record",.tup fs]) x/\IsP K H key y/\(∀ d∈fs,∃ z k,d=.tup [.str z,k])/\Br K H (bq fs key) Q
theorem qb {fs:List Dt} {key:Dt} (h:∀ d∈fs,iS key d=false):bq fs key=none:=by
 unfold bq;rw [List.find?_eq_none.mpr (λd hd=>by rw [h d hd];exact aAq)]
theorem n9 {fs:List Dt} {key o k:Dt} {i:Nat} (h:fs[i]?=some (.tup [o,k])) (hk:eqD o key=true) (pre:∀ j d,j < i->fs[j]?=some d->iS key d=false):bq fs key=some k:=by
 have e:fs.find? (iS key)=some (.tup [o,k]):=by
  obtain ⟨li,ei⟩:=aAg.mp h;rw [List.find?_eq_some_iff_getElem];refine ⟨hk,i,li,ei,λj hj=>?_⟩;have:=pre j _ hj (aAp (aBa hj li));rw [this]
  rfl
 unfold bq;rw [e]
theorem eG (T:Tx K mg ad) {f:Addr} {fd:FuncData} (F:Gn K mg "field_kind" bD ["kind","name"] f fd):FnOk P w K mg base CX0 1 f fd ["kind","name"] (jH K ad):=by
 refine F.F.ok aZ (λvs H Q E h=>?_) (λcdv A outer s H vs Q E hr h=>?_)
 ·obtain ⟨fs,key,x,y,rfl,_⟩:=h
  rfl
 obtain ⟨fs,key,x,y,rfl,hd,hk,prs,q'⟩:=h;refine ⟨_,(@pss_cons _ _ _ _ _ (@ps_if _ _ _ _ _ _ _ _ (pt_cmpR op_ne (@pi1 K _ _ _ _ _ _ _ rfl (pv 0)) pe_str (nomark _)) (@pss_one _ _ _ (@ps_ret _ _ _ _ pe_non)) pss_nil) (@pss_cons _ _ _ _ _ (ps_for PassesOwn.never rfl (bM (K:=K) rfl (@pi1 K _ _ _ _ _ _ _ rfl (pv 0))) (fX rfl (aH (ai (i:=2) aZ.nd rfl (Or.inl rfl)) (aH (ai (i:=3) aZ.nd rfl (Or.inl rfl)) bW)))
    (@pss_one _ _ _ (@ps_if _ _ _ _ _ _ _ _ (pt_cmpR (io (K:=K) rfl hr.units) (pv 2) (pv 1) (nomark _)) (@pss_one _ _ _ (@ps_ret _ _ _ _ (pv 3))) pss_nil))) (@pss_one _ _ _ (@ps_ret _ _ _ _ pe_non)))),?_⟩
 refine ⟨_,rfl,_,_,_,hd,rfl,rfl,isS ?_⟩;refine ⟨rfl,_,rfl,eF ⟨_,rfl,_,_,_,hd,rfl,rfl,λv hv=>?_⟩⟩;obtain ⟨a,xs,rfl,ha,pa,ra⟩:=hv.unref;have el:=ra.length;refine ⟨a,rfl,⟨xs,ha⟩,ig (xs:=xs) (λi σ H'=>H'=H/\(∀ j d,j < i->fs[j]?=some d->iS key d=false)/\∃ v1 v2,σ=[some x,some y,v1,v2]) ⟨rfl,λj f hj=>absurd hj (aBP _),_,_,rfl⟩ (λi σ H' _ p=>p.1 ▸ ha) ?_ ?_⟩
 ·rintro i u σ H' hu ⟨rfl,pre,v1,v2,rfl⟩;obtain ⟨e,he,hp⟩:=ra.get' hu;obtain ⟨z,k,rfl⟩:=prs e (aAw he);obtain ⟨b,x1,y2,rfl,hb,hp1,hp2⟩:=gm hp;refine ⟨b,_,rfl,hb,rfl,_,_,rfl,_,_,rfl,rfl,?_⟩;refine ⟨_,rfl,_,rfl,.str z,key,hp1.d,hk.d,(by show 0<=60;decide),_,rfl,cx (λc=>?_) (λc=>?_)⟩
  ·rw [n9 he c pre] at q';exact ⟨_,rfl,q' _ hp2⟩
  ·refine ⟨rfl,λj f hj hjf=>?_,_,_,rfl⟩;rcases aBJ.mp hj with h1 | h1
   ·exact pre j f h1 hjf
   ·subst h1;rw [he] at hjf;obtain rfl:=Option.some.inj hjf;exact aBc.mpr c
 ·rintro σ H' ⟨rfl,pre,v1,v2,rfl⟩;rw [qb (λd hd=>by
   obtain ⟨j,hj,e⟩:=aBh.mp hd;exact pre j d (by lia) (by rw [aAp hj,e]))] at q'
  exact q'
theorem Bu (w:Str):inV (.str w) [.str "number",.str "text"]=(decide (w= "number") || decide (w= "text")):=by
 have e:∀ a:Str,eqV (.str a) (.str w)=decide (w=a):=λa=>by
  show (a == w)=decide (w=a);rw [aAU,decide_eq_true_iff,beq_iff_eq];exact ⟨Eq.symm,Eq.symm⟩
 show (eqV (.str "number") (.str w) || (eqV (.str "text") (.str w) || false))=_;rw [e,e,aBU]
theorem bw (d:Dt):au 0 d=false:=by simp [au]
theorem iU {r:Nat} {d:Dt} (h:au r d=true):∃ u l,d=.tup (.str u :: l):=by
 unfold au at h
 split at h <;> first | exact ⟨_,_,rfl⟩ | cases h
theorem uR {r:Nat} {l:List Dt} (h:au r (.tup (.str "record" :: l))=true):∃ r' fs,r=r' + 1/\l=[.tup fs]/\fs.all (aP (au r'))=true:=by
 cases r with
 | zero=>rw [bw] at h;cases h
 | succ r =>
  match l with
  | []=>cases h
  | [a] =>
   have h':lK (au r) a=true:=h
   cases a with
   | tup fs =>
    have h2:(decide (fs.length<=8) && fs.all (aP (au r)) && sP (fs.map nmD))=true:=h';rw [aAr,aAr] at h2;exact ⟨r,fs,rfl,rfl,h2.1.2⟩
   | _=>cases h'
  | [a,b]=>cases h
  | [a,b,c]=>cases h
  | a :: b :: c :: e :: l=>cases h
theorem w9 {f:Dt->Bool} {key:Dt} {u:Str} {l:List Dt} (h:u≠ "record"):eE f key (.tup (.str u :: l))=false:=by
 unfold eE
 split
 ·rename_i e
  injection e with e
  injection e with e _
  injection e with e
  subst e;rw [decide_eq_false h,aAy,aBj]
 ·exact aBj _
theorem uS {fs:List Dt} {key k:Dt} (h:bq fs key=some k):∃ o,.tup [o,k]∈fs:=by
 unfold bq at h
 split at h
 ·rename_i o k' e
  obtain rfl:=Option.some.inj h;exact ⟨o,List.mem_of_find?_eq_some e⟩
 ·cases h
theorem og (T:Tx K mg ad) {f ff:Addr} {fd fdf:FuncData} (n:Nat) (F:Gn K mg "are_rows" cr ["key","items","room"] f fd) (Ja:Gn K mg "is_formed" bx ["thing","room"] ff fdf)
  (Jj:FnOk P w K mg base CX0 (3*n+3) ff fdf ["thing","room"] (nY K n)):FnOk P w K mg base CX0 (3*n+3+1) f fd ["key","items","room"] (uQ K n):=by
 obtain ⟨_,_,Jb⟩:=T.field_kind;have Jr:=eG (P:=P) (w:=w) (base:=base) T Jb;refine F.F.ok sc_are_rows (λvs H Q E h=>?_) (λcdv A outer s H vs Q E hr h=>?_)
 ·obtain ⟨r,key,items,x,y,_,rfl,_⟩:=h
  rfl
 obtain ⟨r,key,items,x,y,hrn,rfl,hx,hy,okk,oki,q⟩:=h;refine ⟨_,(3,@ps_if _ _ _ _ _ _ _ _ (PW.pt (@pw_or _ _ _ _ _ _ _ (@pt_not _ _ _ _ (@pt_val _ _ _ (pcl Ja Jj (hr.mono (by lia)) rfl (@pa2 _ _ _ _ _ (pv 1) (pv 2) (0) (0))) (by intro _;rfl))) (@pw_or1 _ _ _ _ (pt_cmpR op_ne (@pi1 K _ _ _ _ _ _ _ rfl (pv 1)) pe_str (nomark _))))) (@pss_one _ _ _ (@ps_ret _ _ _ _ pe_bl)) pss_nil,(3,@ps_set _ _ 3 _ _ _ _ sc_are_rows.nd rfl (Or.inl rfl) (pcl Jb Jr (hr.mono (by lia)) rfl (@pa2 _ _ _ _ _ (pv 1) (pv 0) (0) (0))) (0) (.inl rfl),@pss_one _ _ _ (@ps_ret _ _ _ _ (pe_and (pe_cmpR op_notN (pv 3) pe_non (nomark _)) (pe_one (pe_cmpR (op_in_seqK (K:=K) rfl) (@pi1 K _ _ _ _ _ _ _ rfl (pv 3)) (1,@pa2 _ _ _ _ _ pe_str pe_str (0) (0)) rfl)))))),?_⟩;refine ⟨_,rfl,_,rfl,r,items,y,hrn,rfl,hy,oki,λH1 g1=>⟨_,rfl,?_⟩⟩
 cases hb:au r items with
 | false =>
  have e:eE (au r) key items=false:=by unfold eE;rw [hb,aAy]
  rw [e] at q;exact aq (aq (q H1 g1))
 | true =>
  obtain ⟨u,l,rfl⟩:=iU hb;refine aI ?_;refine ⟨_,rfl,_,_,_,hy.same g1,rfl,at0 _ _,λv hv=>?_⟩;obtain rfl:=bp hv;refine ⟨rfl,_,rfl,?_⟩
  by_cases hu:u= "record"
  ·subst hu;obtain ⟨r',fs,rfl,rfl,hall⟩:=uR hb;have e:eE (au (r' + 1)) key (.tup [.str "record",.tup fs])=qR (bq fs key):=by
    unfold eE;rw [hb]
    rfl
   rw [e] at q;refine eF ?_;refine ⟨_,rfl,_,rfl,fs,key,y,x,rfl,hy.same g1,hx.same g1,λd hd=>?_,?_⟩
   ·obtain ⟨z,k,rfl,_⟩:=eV (aAR.mp hall d hd);exact ⟨z,k,rfl⟩
   cases hl:bq fs key with
   | none =>
    rw [hl] at q;exact ⟨_,rfl,rfl,_,rfl,aI (q H1 g1)⟩
   | some k =>
    rw [hl] at q;obtain ⟨o,hm⟩:=uS hl;obtain ⟨z,k',e2,_,fk⟩:=eV (aAR.mp hall _ hm);injection e2 with e2
    injection e2 with e2 e3
    injection e3 with e3 _
    subst e3;obtain ⟨w1,l1,rfl⟩:=iU fk;intro v hv;obtain ⟨av,xv,rfl,_⟩:=id hv.unref;refine ⟨_,rfl,rfl,_,rfl,?_⟩;rw [decide_eq_false (show ¬ (V.ref av=V.non) by intro z;cases z)];refine aq ?_;refine ⟨_,rfl,_,_,_,hv,rfl,at0 _ _,isS ?_⟩;refine ⟨[.str "number",.str "text"],.cons .str (.cons .str .nil),sz2,λv3 H3 g3 hv3=>?_⟩;obtain ⟨a3,x3,rfl,hT3,_,r3⟩:=id hv3.unref;obtain rfl:=eU (ws:=["number","text"]) r3;refine ⟨a3,_,rfl,.inr hT3,rfl,rfl,?_⟩;show Q (.bl (inV (.str w1) [.str "number",.str "text"])) H3;rw [Bu];exact q H3 (g1.trans g3)
  ·rw [w9 hu] at q;exact nX (aL hu) (q H1 g1)
theorem oh {d:Dt} (h:ci d=true):(∃ a b,d=.tup [.str "number",a,b])\/(∃ a,d=.tup [.str "text",a])\/(∃ a,d=.tup [.str "choice",a])\/(∃ a b,d=.tup [.str "list",a,b])\/(∃ a,d=.tup [.str "record",a])\/(∃ a b c,d=.tup [.str "rows",a,b,c]):=by
 unfold ci at h
 split at h
 ·rename_i u l
  have h:=of_decide_eq_true h;have l1:∀ {l:List Dt},(2:Int)=((l.length+1:Nat):Int)->∃ a,l=[a]:=λ{l} e=>by
   match l with
   | []=>exact absurd e (by decide)
   | [a]=>exact ⟨a,rfl⟩
   | a :: b :: l=>exact absurd e (by simp only [aAs];lia)
  have l2:∀ {l:List Dt},(3:Int)=((l.length+1:Nat):Int)->∃ a b,l=[a,b]:=λ{l} e=>by
   match l with
   | []=>exact absurd e (by decide)
   | [a]=>exact absurd e (by simp only [aAs,aBv];lia)
   | [a,b]=>exact ⟨a,b,rfl⟩
   | a :: b :: c :: l=>exact absurd e (by simp only [aAs];lia)
  have l3:∀ {l:List Dt},(4:Int)=((l.length+1:Nat):Int)->∃ a b c,l=[a,b,c]:=λ{l} e=>by
   match l with
   | []=>exact absurd e (by decide)
   | [a]=>exact absurd e (by simp only [aAs,aBv];lia)
   | [a,b]=>exact absurd e (by simp only [aAs,aBv];lia)
   | [a,b,c]=>exact ⟨a,b,c,rfl⟩
   | a :: b :: c :: d :: l=>exact absurd e (by simp only [aAs];lia)
  by_cases e1:u= "number"
  ·subst e1;obtain ⟨a,b,rfl⟩:=l2 (V.int.inj h);exact .inl ⟨a,b,rfl⟩
  by_cases e2:u= "text"
  ·subst e2;obtain ⟨a,rfl⟩:=l1 (V.int.inj h);exact .inr (.inl ⟨a,rfl⟩)
  by_cases e3:u= "choice"
  ·subst e3;obtain ⟨a,rfl⟩:=l1 (V.int.inj h);exact .inr (.inr (.inl ⟨a,rfl⟩))
  by_cases e4:u= "list"
  ·subst e4;obtain ⟨a,b,rfl⟩:=l2 (V.int.inj h);exact .inr (.inr (.inr (.inl ⟨a,b,rfl⟩)))
  by_cases e5:u= "record"
  ·subst e5;obtain ⟨a,rfl⟩:=l1 (V.int.inj h);exact .inr (.inr (.inr (.inr (.inl ⟨a,rfl⟩))))
  by_cases e6:u= "rows"
  ·subst e6;obtain ⟨a,b,c,rfl⟩:=l3 (V.int.inj h);exact .inr (.inr (.inr (.inr (.inr ⟨a,b,c,rfl⟩))))
  exfalso
  simp only [qQ,bG,e1,e2,e3,e4,e5,e6,if_false] at h
  cases h
 ·cases h
theorem Bv:bG "number" [("number",3),("text",2),("choice",2),("list",3),("record",2),("rows",4)]=.int 3:=by decide +kernel
theorem Bw:bG "text" [("number",3),("text",2),("choice",2),("list",3),("record",2),("rows",4)]=.int 2:=by decide +kernel
theorem Bx:bG "choice" [("number",3),("text",2),("choice",2),("list",3),("record",2),("rows",4)]=.int 2:=by decide +kernel
theorem By:bG "list" [("number",3),("text",2),("choice",2),("list",3),("record",2),("rows",4)]=.int 3:=by decide +kernel
theorem Bz:bG "record" [("number",3),("text",2),("choice",2),("list",3),("record",2),("rows",4)]=.int 2:=by decide +kernel
theorem BA:bG "rows" [("number",3),("text",2),("choice",2),("list",3),("record",2),("rows",4)]=.int 4:=by decide +kernel
theorem qc {r:Nat} {d:Dt} (h:ci d=false):au r d=false:=by
 cases hb:au r d with
 | false=>rfl
 | true =>
  exfalso
  unfold au at hb
  split at hb
  ·cases hb
  ·rename_i u a
   split at hb
   ·subst_vars
    rw [show ci (.tup [.str "text",a])=true from decide_eq_true Bw] at h
    cases h
   ·split at hb
    ·subst_vars
     rw [show ci (.tup [.str "choice",a])=true from decide_eq_true Bx] at h
     cases h
    ·split at hb
     ·subst_vars
      rw [show ci (.tup [.str "record",a])=true from decide_eq_true Bz] at h
      cases h
     ·cases hb
  ·rename_i u a b
   split at hb
   ·subst_vars
    rw [show ci (.tup [.str "number",a,b])=true from decide_eq_true Bv] at h
    cases h
   ·split at hb
    ·subst_vars
     rw [show ci (.tup [.str "list",a,b])=true from decide_eq_true By] at h
     cases h
    ·cases hb
  ·rename_i u a b c
   split at hb
   ·subst_vars
    rw [show ci (.tup [.str "rows",a,b,c])=true from decide_eq_true BA] at h
    cases h
   ·cases hb
  ·cases hb
theorem lT (T:Tx K mg ad) {f ff fr:Addr} {fd fdf fdr:FuncData} (n:Nat) (Ja:Gn K mg "is_formed" bx ["thing","room"] f fd) (Kv:Gn K mg "are_fields" bi ["fields","room"] ff fdf) (KP:Gn K mg "are_rows" cr ["key","items","room"] fr fdr)
  (Jj:FnOk P w K mg base CX0 (3*n+3) f fd ["thing","room"] (nY K n)) (Kz:FnOk P w K mg base CX0 (3*n+5) ff fdf ["fields","room"] (qS K n)) (KQ:FnOk P w K mg base CX0 (3*n+4) fr fdr ["key","items","room"] (uQ K n)) :
  FnOk P w K mg base CX0 (3*n+5+1) f fd ["thing","room"] (nY K (n+1)):=by
 obtain ⟨_,_,Ka⟩:=T.has_parts;have KJ:=lR (P:=P) (w:=w) (base:=base) T Ka;obtain ⟨_,_,JZ⟩:=T.are_bounds;have KC:=jF (P:=P) (w:=w) (base:=base) T JZ;obtain ⟨_,_,IS⟩:=T.is_whole_within;have IV:=bv (P:=P) (w:=w) (base:=base) T IS;obtain ⟨_,_,J9⟩:=T.are_words;have KK:=lS (P:=P) (w:=w) (base:=base) T J9;obtain ⟨t_MOST_SIGNS,c_MOST_SIGNS⟩:=T.MOST_SIGNS;obtain ⟨t_MOST_ITEMS,c_MOST_ITEMS⟩:=T.MOST_ITEMS;refine Ja.F.ok sc_is_formed (λvs H Q E h=>?_) (λcdv A outer s H vs Q E hr h=>?_)
 ·obtain ⟨r,d,x,_,rfl,_⟩:=h
  rfl
 obtain ⟨r,d,x,hrn,rfl,hd,ok,q⟩:=h;refine ⟨_,(3,@ps_if _ _ _ _ _ _ _ _ (PW.pt (@pw_or _ _ _ _ _ _ _ (pt_cmpR op_eq (pv 1) pe_int (nomark _)) (@pw_or1 _ _ _ _ (@pt_not _ _ _ _ (@pt_val _ _ _ (pcl Ka KJ (hr.mono (by lia)) rfl (@pa1 _ _ _ (pv 0) (0))) (by intro _;rfl)))))) (@pss_one _ _ _ (@ps_ret _ _ _ _ pe_bl)) pss_nil,(3,@ps_set _ _ 2 _ _ _ _ sc_is_formed.nd rfl (Or.inl rfl) (@pi1 K _ _ _ _ _ _ _ rfl (pv 0)) (0) (.inl rfl),(3,@ps_if _ _ _ _ _ _ _ _ (pt_cmpR op_eq (pv 2) pe_str (nomark _)) (@pss_one _ _ _ (@ps_ret _ _ _ _ (pcl JZ KC (hr.mono (by lia)) rfl (@pa2 _ _ _ _ _ (@pi1 K _ _ _ _ _ _ _ rfl (pv 0)) (@pi1 K _ _ _ _ _ _ _ rfl (pv 0)) (0) (0))))) pss_nil,(3,@ps_if _ _ _ _ _ _ _ _ (pt_cmpR op_eq (pv 2) pe_str (nomark _)) (@pss_one _ _ _ (@ps_ret _ _ _ _ (pcl IS IV (hr.mono (by lia)) rfl (@pa3 _ _ _ _ _ _ _ (@pi1 K _ _ _ _ _ _ _ rfl (pv 0)) pe_int (pe_gint rfl c_MOST_SIGNS) (0) (0) (0))))) pss_nil,(3,@ps_if _ _ _ _ _ _ _ _ (pt_cmpR op_eq (pv 2) pe_str (nomark _)) (@pss_one _ _ _ (@ps_ret _ _ _ _ (pcl J9 KK (hr.mono (by lia)) rfl (@pa1 _ _ _ (@pi1 K _ _ _ _ _ _ _ rfl (pv 0)) (0))))) pss_nil,(3,@ps_if _ _ _ _ _ _ _ _ (pt_cmpR op_eq (pv 2) pe_str (nomark _)) (@pss_one _ _ _ (@ps_ret _ _ _ _ (pe_and (pcl Ja Jj (hr.mono (by lia)) rfl (@pa2 _ _ _ _ _ (@pi1 K _ _ _ _ _ _ _ rfl (pv 0)) (@pe_op _ _ _ _ _ _ _ _ op_sub (pv 1) pe_int) (0) (0))) (pe_one (pcl IS IV (hr.mono (by lia)) rfl (@pa3 _ _ _ _ _ _ _ (@pi1 K _ _ _ _ _ _ _ rfl (pv 0)) pe_int (pe_gint rfl c_MOST_ITEMS) (0) (0) (0))))))) pss_nil,(3,@ps_if _ _ _ _ _ _ _ _ (pt_cmpR op_eq (pv 2) pe_str (nomark _)) (@pss_one _ _ _ (@ps_ret _ _ _ _ (pcl Kv Kz (hr.mono (by lia)) rfl (@pa2 _ _ _ _ _ (@pi1 K _ _ _ _ _ _ _ rfl (pv 0)) (@pe_op _ _ _ _ _ _ _ _ op_sub (pv 1) pe_int) (0) (0))))) pss_nil,@pss_one _ _ _ (@ps_ret _ _ _ _ (pe_and (pcl KP KQ (hr.mono (by lia)) rfl (@pa3 _ _ _ _ _ _ _ (@pi1 K _ _ _ _ _ _ _ rfl (pv 0)) (@pi1 K _ _ _ _ _ _ _ rfl (pv 0)) (@pe_op _ _ _ _ _ _ _ _ op_sub (pv 1) pe_int) (0) (0) (0))) (pe_one (pcl IS IV (hr.mono (by lia)) rfl (@pa3 _ _ _ _ _ _ _ (@pi1 K _ _ _ _ _ _ _ rfl (pv 0)) pe_int (pe_gint rfl c_MOST_ITEMS) (0) (0) (0))))))))))))),?_⟩;refine ⟨_,rfl,rfl,_,rfl,?_⟩
 cases r with
 | zero =>
  rw [bw] at q;exact bF (aq (q H (Same.refl H)))
 | succ r =>
  refine iteN (λz=>by have:=V.int.inj z;lia) ?_;have e1:(((r+1:Nat):Int)) - 1=(r:Int):=by lia
  refine ⟨_,rfl,d,x,rfl,hd,ok,_,rfl,?_⟩
  cases hb:ci d with
  | false =>
   rw [qc hb] at q;exact aq (q H (Same.refl H))
  | true =>
   refine aI ?_;rcases oh hb with ⟨a,b,rfl⟩ | ⟨a,rfl⟩ | ⟨a,rfl⟩ | ⟨a,b,rfl⟩ | ⟨a,rfl⟩ | ⟨a,b,c,rfl⟩
   ·refine ⟨_,rfl,_,_,_,hd,rfl,rfl,isS ?_⟩;refine ⟨_,rfl,rfl,_,rfl,bF ?_⟩;refine ⟨_,rfl,_,_,_,hd,rfl,rfl,λva hva=>?_⟩;refine ⟨_,rfl,_,_,_,hd,rfl,rfl,λvb hvb=>?_⟩;exact ⟨a,b,va,vb,rfl,hva,hvb,aO ok a (by simp),aO ok b (by simp),q H (Same.refl H)⟩
   ·refine ⟨_,rfl,_,_,_,hd,rfl,rfl,isS ?_⟩;refine ⟨_,rfl,rfl,_,rfl,iteN (aL (by decide)) ?_⟩;refine ⟨_,rfl,rfl,_,rfl,bF ?_⟩;refine ⟨_,rfl,_,_,_,hd,rfl,rfl,λva hva=>?_⟩;exact ⟨a,va,0,60,rfl,hva,aO ok a (by simp),q H (Same.refl H)⟩
   ·refine ⟨_,rfl,_,_,_,hd,rfl,rfl,isS ?_⟩;refine ⟨_,rfl,rfl,_,rfl,iteN (aL (by decide)) ?_⟩;refine ⟨_,rfl,rfl,_,rfl,iteN (aL (by decide)) ?_⟩;refine ⟨_,rfl,rfl,_,rfl,bF ?_⟩;refine ⟨_,rfl,_,_,_,hd,rfl,rfl,λva hva=>?_⟩;exact ⟨a,va,rfl,hva,aO ok a (by simp),q⟩
   ·replace q:∀ H',Same H H'->Q (.bl (au r a && bt b 0 8)) H':=q;refine ⟨_,rfl,_,_,_,hd,rfl,rfl,isS ?_⟩;refine ⟨_,rfl,rfl,_,rfl,iteN (aL (by decide)) ?_⟩;refine ⟨_,rfl,rfl,_,rfl,iteN (aL (by decide)) ?_⟩;refine ⟨_,rfl,rfl,_,rfl,iteN (aL (by decide)) ?_⟩;refine ⟨_,rfl,rfl,_,rfl,bF ?_⟩;refine ⟨_,rfl,_,_,_,hd,rfl,rfl,λva hva=>?_⟩;refine ⟨_,rfl,_,_,rfl,rfl,r,a,va,by lia,(by show [va,V.int (((r+1:Nat):Int) - 1)]=_;rw [e1]),hva,aO ok a (by simp),λH1 g1=>⟨_,rfl,?_⟩⟩
    cases hf:au r a with
    | false =>
     rw [hf,aAy] at q;exact aI (q H1 g1)
    | true =>
     rw [hf,aAD] at q;refine aq ?_;refine ⟨_,rfl,_,_,_,hd.same g1,rfl,rfl,λvb hvb=>?_⟩;exact ⟨b,vb,0,8,rfl,hvb,aO ok b (by simp),q H1 g1⟩
   ·refine ⟨_,rfl,_,_,_,hd,rfl,rfl,isS ?_⟩;refine ⟨_,rfl,rfl,_,rfl,iteN (aL (by decide)) ?_⟩;refine ⟨_,rfl,rfl,_,rfl,iteN (aL (by decide)) ?_⟩;refine ⟨_,rfl,rfl,_,rfl,iteN (aL (by decide)) ?_⟩;refine ⟨_,rfl,rfl,_,rfl,iteN (aL (by decide)) ?_⟩;refine ⟨_,rfl,rfl,_,rfl,bF ?_⟩;refine ⟨_,rfl,_,_,_,hd,rfl,rfl,λva hva=>?_⟩;exact ⟨_,rfl,_,_,rfl,rfl,r,a,va,by lia,(by show [va,V.int (((r+1:Nat):Int) - 1)]=_;rw [e1]),hva,aO ok a (by simp),q⟩
   ·replace q:∀ H',Same H H'->Q (.bl (eE (au r) a b && bt c 0 8)) H':=q;refine ⟨_,rfl,_,_,_,hd,rfl,rfl,isS ?_⟩;refine ⟨_,rfl,rfl,_,rfl,iteN (aL (by decide)) ?_⟩;refine ⟨_,rfl,rfl,_,rfl,iteN (aL (by decide)) ?_⟩;refine ⟨_,rfl,rfl,_,rfl,iteN (aL (by decide)) ?_⟩;refine ⟨_,rfl,rfl,_,rfl,iteN (aL (by decide)) ?_⟩;refine ⟨_,rfl,rfl,_,rfl,iteN (aL (by decide)) ?_⟩;refine ⟨_,rfl,_,_,_,hd,rfl,rfl,λva hva=>?_⟩;refine ⟨_,rfl,_,_,_,hd,rfl,rfl,λvb hvb=>?_⟩;refine ⟨_,rfl,_,_,rfl,rfl,r,a,b,va,vb,by lia,(by show [va,vb,V.int (((r+1:Nat):Int) - 1)]=_;rw [e1]),hva,hvb,aO ok a (by simp),aO ok b (by simp),λH1 g1=>⟨_,rfl,?_⟩⟩
    cases hf:eE (au r) a b with
    | false =>
     rw [hf,aAy] at q;exact aI (q H1 g1)
    | true =>
     rw [hf,aAD] at q;refine aq ?_;refine ⟨_,rfl,_,_,_,hd.same g1,rfl,rfl,λvc hvc=>?_⟩;exact ⟨c,vc,0,8,rfl,hvc,aO ok c (by simp),q H1 g1⟩
theorem iV (T:Tx K mg ad) {f ff fr fi:Addr} {fd fdf fdr fdi:FuncData} (A:Gn K mg "is_formed" bx ["thing","room"] f fd) (B:Gn K mg "are_fields" bi ["fields","room"] ff fdf) (C:Gn K mg "are_rows" cr ["key","items","room"] fr fdr) (D:Gn K mg "is_field" cq ["field","room"] fi fdi) :
  ∀ n,FnOk P w K mg base CX0 (3*n+3) f fd ["thing","room"] (nY K n)
 | 0=>il λvs H Q E z=>by obtain ⟨_,_,_,e,_⟩:=z;lia
 | n+1=>by
  have a:=iV T A B C D n;exact lT T n A B C a (jG T n B D (nZ T n D A a)) (og T n C A a)
theorem xf {a c:Nat} {d:Dt} (h:FK a c d):∃ w l,d=.tup (.str w :: l):=by
 cases h <;> exact ⟨_,_,rfl⟩
theorem uT {K:W.Frag} {H:Hp} {z:Str} {d:Dt} {v:V} (h:IsP K H (prD (z,d)) v):∃ b y,v=.ref b/\SqT K H b [.str z,y]/\IsP K H d y:=by
 obtain ⟨b,ys,rfl,hb,pb,rb⟩:=h.unref
 cases rb with
 | cons r1 rb =>
  cases rb with
  | @cons _ _ y2 _ r2 rb =>
   cases rb
   obtain rfl:=bp r1;exact ⟨b,_,rfl,hb,r2⟩
theorem qT {z:Str} (h:bB z=true):okD (.str z)=true:=by
 simp only [bB,aAr,decide_eq_true_eq] at h;exact decide_eq_true (by lia)
theorem fE {ws:List Str} (h:pY ws=true):1<=ws.length/\ws.length<=8/\ws.all bB=true/\ws.Nodup:=by
 simp only [pY,aAr,decide_eq_true_eq] at h;exact ⟨h.1.1.1,h.1.1.2,h.1.2,h.2⟩
theorem qe {ws:List Str} (h:ws.Nodup):nV ws=ws.length:=by
 unfold nV L2.gh;rw [aAB,qL,List.length_reverse,aAe];exact List.pairwise_reverse.mpr (List.Pairwise.map _ (λa b n e=>n (Sum.inr.inj e).symm) h)
theorem qf {a b:Dt} (ha:okD a=true) (hb:okD b=true):okD (.tup [a,b])=true:=by
 show (okD a && (okD b && true))=true;rw [ha,hb]
 rfl
theorem HQ {a c:Nat} {d:Dt} (h:FK a c d):okD d=true:=by
 induction h with
 | text i=>rfl
 | choice ws hw =>
  obtain ⟨_,_,hn,_⟩:=fE hw;refine qf (by decide +kernel) (p9 λd hd=>?_);obtain ⟨z,hz,rfl⟩:=aAN.mp hd;exact qT (aAR.mp hn z hz)
 | number i j=>rfl
 | list g _ _ ih =>
  show (okD (.str "list") && (okD _ && (true && true)))=true;rw [ih]
  decide +kernel
 | @rows a c z l i g hz _ _ ih =>
  have hl:iR l=true:=by
   have:(okD (.str "record") && (iR l && true))=true:=ih;rw [aAr,Bool.and_true] at this;exact this.2
  obtain ⟨w1,l1,hm,_⟩:=hz;have h2:(okD (.str z) && iR [.tup (.str w1 :: l1)])=true:=aO hl _ hm;rw [aAr] at h2;show (okD (.str "rows") && (okD (.str z) && (okD (.tup [.str "record",.tup l]) && (true && true))))=true;rw [h2.1,ih]
  decide +kernel
 | @rcd gs g hs hn hl ih =>
  refine qf (by decide +kernel) (p9 λd hd=>?_);obtain ⟨u,hu,rfl⟩:=aAN.mp hd;exact qf (qT (hn u hu)) (ih u hu)
theorem BB {a c:Nat} {l:List Dt} (h:FK a c (.tup [.str "record",.tup l])):∃ gs:List G4,l=gs.map prG/\a=jD (gs.map (·.2.2.1))+1/\c=sumN (gs.map (·.2.2.2))+1/\(∀ g∈gs,FK g.2.2.1 g.2.2.2 g.2.1)/\(gs.map (·.1)).Pairwise ltS/\(∀ g∈gs,bB g.1=true)/\gs.length<=8:=by
 cases h with
 | rcd h1 h2 h3 h4=>exact ⟨_,rfl,rfl,rfl,h1,h2,(λg hg=>(h3 g hg)),h4⟩
theorem HR {gs:List G4} (nd:(gs.map (·.1)).Pairwise ltS) {g:G4} (h:g∈gs):bq (gs.map prG) (.str g.1)=some g.2.1:=by
 obtain ⟨i,hi,e⟩:=aBh.mp h;have e1:gs[i]?=some g:=by rw [aAp hi,e]
 refine n9 (i:=i) (o:=.str g.1) (by rw [aAt,e1];rfl) (fu _) λj d hj hf=>?_;rw [aAt] at hf;obtain ⟨g',hg',rfl⟩:=aAu.mp hf;have hjl:=(aAg.mp hg').1;have nd':=cj nd;show (g'.1 == g.1)=false;rw [beq_eq_false_iff_ne];intro c;have f1:(gs.map (·.1))[j]'(by simpa using hjl)=g.1:=by
  rw [List.getElem_map,(aAg.mp hg').2];exact c
 have f2:(gs.map (·.1))[i]'(by simpa using hi)=g.1:=by
  rw [List.getElem_map,(aAg.mp e1).2]
 exact List.pairwise_iff_getElem.mp nd' j i (by simpa using hjl) (by simpa using hi) hj (f1.trans f2.symm)
theorem uU:∀ {ns:List Str},ns.Pairwise ltS->sP ns=true
 | [],_=>rfl
 | [_],_=>rfl
 | a :: b :: l,h=>by
  have h':=aBf.mp h;have:=uU h'.2;unfold sP at this ⊢;rw [List.drop_one,List.tail_cons,List.zip_cons_cons,aBm,aAr];exact ⟨decide_eq_true (h'.1 b aAh),this⟩
theorem xh {a c:Nat} {d:Dt} (h:FK a c d):∀ n,au n d=decide (a<=n):=by
 induction h with
 | text i h1 h2 =>
  intro n
  cases n with
  | zero=>rw [bw];rfl
  | succ n =>
   show bt (.int i) 0 60=_;simp [bt,h1,h2]
 | choice ws hw =>
  obtain ⟨h1,h2,hn,nd⟩:=fE hw;intro n
  cases n with
  | zero=>rw [bw];rfl
  | succ n =>
   show (decide (1<=(ws.map Dt.str).length) && decide ((ws.map Dt.str).length<=8) && (ws.map Dt.str).all bd && decide (nV ((ws.map Dt.str).map sO)=(ws.map Dt.str).length))=_;have e1:(ws.map Dt.str).map sO=ws:=by rw [aAz];exact List.map_id _
   have e2:(ws.map Dt.str).all bd=true:=by rw [aA5];exact hn
   rw [e1,e2,aAe,qe nd];simp [h1,h2]
 | number i j h1 h12 h2 =>
  intro n
  cases n with
  | zero=>rw [bw];rfl
  | succ n =>
   show (decide (-1000000000000000000000000000000<=i) && decide (i<=j) && decide (j<=1000000000000000000000000000000))=_;simp [h1,h12,h2]
 | @list a c k i g h1 h2 ih =>
  intro n
  cases n with
  | zero=>rw [bw];simp
  | succ n =>
   show (au n k && (decide ((0:Int)<=i) && decide (i<=8)))=_;rw [ih n];simp [h1,h2]
 | @rows a c z l i g hz h1 h2 ih =>
  intro n
  cases n with
  | zero=>rw [bw];simp
  | succ n =>
   show ((au n (.tup [.str "record",.tup l]) && (decide (Str.ofString "record" = "record") && qR (bq l (.str z)))) && (decide ((0:Int)<=i) && decide (i<=8)))=_;obtain ⟨gs,rfl,_,_,_,nd,_,_⟩:=BB g;obtain ⟨w1,l1,hm,hw⟩:=hz;obtain ⟨u,hu,eu⟩:=aAN.mp hm;have e1:u.1=z:=by injection eu with e;injection e with e _;injection e
   have e2:u.2.1=.tup (.str w1 :: l1):=by injection eu with e;injection e with _ e;injection e
   have e3:=HR nd hu;rw [e1,e2] at e3;rw [ih n,e3,show qR (some (.tup (.str w1 :: l1)))=true by show (decide (w1= "number") || decide (w1= "text"))=true;simpa using hw];simp [h1,h2]
 | @rcd gs g hs hn hl ih =>
  intro n
  cases n with
  | zero=>rw [bw];simp
  | succ n =>
   show (decide ((gs.map prG).length<=8) && (gs.map prG).all (aP (au n)) && sP ((gs.map prG).map nmD))=_;have e1:(gs.map prG).map nmD=gs.map (·.1):=by rw [aAz];rfl
   have e2:(gs.map prG).all (aP (au n))=decide (jD (gs.map (·.2.2.1))<=n):=by
    rw [aA5,aAU,aAR,decide_eq_true_iff]
    constructor
    ·intro h;refine max_le λm hm=>?_;obtain ⟨u,hu,rfl⟩:=aAN.mp hm;have:=h u hu;have h':(bB u.1 && au n u.2.1)=true:=this;rw [aAr,ih u hu n] at h';exact of_decide_eq_true h'.2
    ·intro h u hu;show (bB u.1 && au n u.2.1)=true;rw [(hn u hu),ih u hu n,aAD];exact decide_eq_true (aAx (pZ (aAN.mpr ⟨u,hu,rfl⟩)) h)
   rw [e1,uU hs,e2,aAe,decide_eq_true hl];simp
structure Wi (a c:Nat) (ks:List (Dt×Nat×Nat)):Prop where
 deep:a=jD (ks.map (·.2.1))+1
 many:c=sumN (ks.map (·.2.2))+1
 each:∀ k∈ks,FK k.2.1 k.2.2 k.1
 few:ks.length<=8
def xi (K:W.Frag):Sp:=λvs H Q _=>∃ (a c:Nat) (d:Dt) (x:V),vs=[x]/\IsP K H d x/\FK a c d/\∀ p ys ks H',Same H H'->H p=none->H' p=some (.lst ys)->IsPs K H' (ks.map (·.1)) ys->Wi a c ks->Q (.ref p) H'
abbrev gY (K:W.Frag) (_:Ads):Sp:=xi K
theorem uV {a c:Nat} {k:Dt} (g:FK a c k):Wi (a+1) (c+1) [(k,a,c)]:=⟨by show a+1=max a 0+1;lia,rfl,λk' hk=>by rw [aAv.mp hk];exact g,by show 1<=8;decide⟩
theorem lU:Wi 1 1 []:=⟨rfl,rfl,(λk hk=>by cases hk),by decide⟩
theorem BC {gs:List G4} (g:∀ g∈gs,FK g.2.2.1 g.2.2.2 g.2.1) (hl:gs.length<=8):Wi (jD (gs.map (·.2.2.1))+1) (sumN (gs.map (·.2.2.2))+1) (gs.map (·.2)):=by
 refine ⟨by rw [aAz];rfl,by rw [aAz];rfl,λk hk=>?_,by rw [aAe];exact hl⟩;obtain ⟨g0,h0,rfl⟩:=aAN.mp hk;exact g g0 h0
theorem gZ (T:Tx K mg ad) {f:Addr} {fd:FuncData} (F:Gn K mg "kinds_within" cu ["kind"] f fd):FnOk P w K mg base CX0 2 f fd ["kind"] (gY K ad):=by
 obtain ⟨_,_,Kb⟩:=T.item_kind;have KI:=lQ (P:=P) (w:=w) (base:=base) T Kb;refine F.F.ok dB (λvs H Q E h=>?_) (λcdv A outer s H vs Q E hr h=>?_)
 ·obtain ⟨a0,c0,d,x,rfl,_⟩:=h
  rfl
 obtain ⟨a0,c0,d,x,rfl,hd,pk,q⟩:=h;refine ⟨_,(3,@ps_if _ _ _ _ _ _ _ _ (pt_cmpR op_eq (@pi1 K _ _ _ _ _ _ _ rfl (pv 0)) pe_str (nomark _)) (@pss_one _ _ _ (@ps_ret _ _ _ _ (bA rfl (cs0 (NL:=["name","inner"]) rfl (by decide +kernel) (by decide +kernel)) (bM (K:=K) rfl (@pi1 K _ _ _ _ _ _ _ rfl (pv 0))) (λ_ _ _ _=>(im (K:=K) (n:=2) rfl rfl (aH (ai (i:=0) (show List.Nodup (α:=Str) ["name","inner"] by decide +kernel) rfl (Or.inl rfl)) (aH (ai (i:=1) (show List.Nodup (α:=Str) ["name","inner"] by decide +kernel) rfl (Or.inl rfl)) bW)))) (λ_ _ _ _=>(pv 1))))) pss_nil,(3,@ps_set _ _ 1 _ _ _ _ dB.nd rfl (Or.inl rfl) (pcl Kb KI (hr.mono (by lia)) rfl (@pa1 _ _ _ (pv 0) (0))) (0) (.inl rfl),@pss_one _ _ _ (@ps_ret _ _ _ _ (mI (pt_cmpR op_isN (pv 1) pe_non (nomark _)) (@ao _ _ _ _ cW) (@ao _ _ _ _ (@pa1 _ _ _ (pv 1) (0))))))),?_⟩
 cases pk
 case rcd gs g hs hnm hl =>
  refine ⟨_,rfl,_,_,_,hd,rfl,rfl,isS ?_⟩;refine ⟨rfl,_,rfl,bF ?_⟩;refine ⟨_,rfl,_,_,_,hd,rfl,rfl,λv hv=>?_⟩;obtain ⟨a,xs,rfl,ha,pa,ra⟩:=id hv.unref;have el:=ra.length;rw [aAe] at el;refine ⟨a,rfl,⟨_,ha⟩,λl hln=>?_⟩;refine cP (K:=K) (xs:=xs) (λi ys σ H'=>Same H H'/\H' l=some (.lst ys)/\IsPs K H' ((gs.take i).map (·.2.1)) ys/\σ.length=2) ⟨ae hln _,ac,.nil,rfl⟩ (λi ys σ H' _ r=>r.1.tup ha) ?_ ?_
  ·rintro i y ys σ H1 N hy ⟨g1,e1,hp1,hσ⟩ next;obtain ⟨d1,hdi,hp⟩:=ra.get' hy;rw [aAt] at hdi;obtain ⟨⟨z,k,u1,u2⟩,hfi,rfl⟩:=aAu.mp hdi;obtain ⟨b,y2,rfl,hb,hp2⟩:=uT (hp.same g1);have ly:=hp1.length;rw [aAe,aAQ] at ly
   match σ,hσ with
   | [_,_],_ =>
    refine ⟨b,_,rfl,hb,rfl,_,_,rfl,_,_,rfl,rfl,?_⟩;refine ⟨_,rfl,e1,aj (by lia),next _ _ _ ⟨aS hln g1,ac,?_,rfl⟩⟩;have e:(gs.take (i+1)).map (·.2.1)=(gs.take i).map (·.2.1)++[k]:=by rw [aAM,hfi,aA0];rfl
    rw [e];have bb:But l H1 (upd H1 l (.lst (ys++[y2]))):=But.put;exact (hp1.append (.cons hp2 .nil)).but e1 bb
  ·rintro ys σ H1 ⟨g1,e1,hp1,_⟩;rw [<- el,aAB] at hp1;refine q l ys (gs.map (·.2)) H1 g1 hln e1 (by rw [aAz];exact hp1) (BC g hl)
 case list a1 c1 k i g h1 h2 =>
  refine ⟨_,rfl,_,_,_,hd,rfl,rfl,isS ?_⟩;refine ⟨rfl,_,rfl,iteN (aL (by decide)) ?_⟩;refine ⟨_,rfl,_,_,_,x,rfl,hd,.list g h1 h2,λv hv=>?_⟩;refine ⟨_,rfl,rfl,_,rfl,iteN (by obtain ⟨w0,l,rfl⟩:=xf g;obtain ⟨a,_,rfl,_⟩:=hv.unref;intro e;cases e) ?_⟩;exact ⟨_,rfl,sz1,λp hp=>q p _ [(k,a1,c1)] _ (ae hp _) hp ac (.cons (hv.same (ae hp _)) .nil) (uV g)⟩
 case rows a1 c1 z l i g hz h1 h2 =>
  refine ⟨_,rfl,_,_,_,hd,rfl,rfl,isS ?_⟩;refine ⟨rfl,_,rfl,iteN (aL (by decide)) ?_⟩;refine ⟨_,rfl,_,_,_,x,rfl,hd,.rows g hz h1 h2,λv hv=>?_⟩;refine ⟨_,rfl,rfl,_,rfl,iteN (by obtain ⟨a,_,rfl,_⟩:=hv.unref;intro e;cases e) ?_⟩;exact ⟨_,rfl,sz1,λp hp=>q p _ [(_,a1,c1)] _ (ae hp _) hp ac (.cons (hv.same (ae hp _)) .nil) (uV g)⟩
 case text i h1 h2 =>
  refine ⟨_,rfl,_,_,_,hd,rfl,rfl,isS ?_⟩;refine ⟨rfl,_,rfl,iteN (aL (by decide)) ?_⟩;refine ⟨_,rfl,_,_,_,x,rfl,hd,.text i h1 h2,?_⟩;exact ⟨_,rfl,rfl,_,rfl,bF ⟨(by show 0<=sizeLine;decide),λp hp=>q p _ [] _ (ae hp _) hp ac .nil lU⟩⟩
 case choice ws h1 =>
  refine ⟨_,rfl,_,_,_,hd,rfl,rfl,isS ?_⟩;refine ⟨rfl,_,rfl,iteN (aL (by decide)) ?_⟩;refine ⟨_,rfl,_,_,_,x,rfl,hd,.choice ws h1,?_⟩;exact ⟨_,rfl,rfl,_,rfl,bF ⟨(by show 0<=sizeLine;decide),λp hp=>q p _ [] _ (ae hp _) hp ac .nil lU⟩⟩
 case number i j h1 h12 h2 =>
  refine ⟨_,rfl,_,_,_,hd,rfl,rfl,isS ?_⟩;refine ⟨rfl,_,rfl,iteN (aL (by decide)) ?_⟩;refine ⟨_,rfl,_,_,_,x,rfl,hd,.number i j h1 h12 h2,?_⟩;exact ⟨_,rfl,rfl,_,rfl,bF ⟨(by show 0<=sizeLine;decide),λp hp=>q p _ [] _ (ae hp _) hp ac .nil lU⟩⟩
def uW (K:W.Frag) (n:Nat):Sp:=λvs H Q _=>∃ (a c:Nat) (d:Dt) (x:V),a<=n/\vs=[x]/\IsP K H d x/\FK a c d/\∀ H',Same H H'->Q (.int c) H'
theorem qU:∀ l:List Nat,(l.map λn:Nat=>(n:Int)).sum=((sumN l:Nat):Int)
 | []=>rfl
 | n :: l=>by
  rw [aAH,List.sum_cons,qU l];show _=((n+sumN l:Nat):Int);lia
theorem lV (T:Tx K mg ad) {f:Addr} {fd:FuncData} (n:Nat) (Ju:Gn K mg "kind_many" cC ["kind"] f fd) (JP:FnOk P w K mg base CX0 (n+3) f fd ["kind"] (uW K n)):FnOk P w K mg base CX0 (n+3+1) f fd ["kind"] (uW K (n+1)):=by
 obtain ⟨_,_,JS⟩:=T.kinds_within;have Kl:=gZ (P:=P) (w:=w) (base:=base) T JS;refine Ju.F.ok mC (λvs H Q E h=>?_) (λcdv A outer s H vs Q E hr h=>?_)
 ·obtain ⟨a0,c0,d,x,_,rfl,_⟩:=h
  rfl
 obtain ⟨a0,c0,d,x,hle,rfl,hd,pk,q⟩:=h;refine ⟨_,(@pss_one _ _ _ (@ps_ret _ _ _ _ (@pe_op _ _ _ _ _ _ _ _ op_add pe_int (pe_callB tX rfl T.z_sum boot_sum (@pa1 _ _ _ (bA rfl (cs0 (NL:=["inner"]) rfl (by decide +kernel) (by decide +kernel)) (cg (K:=K) rfl (pcl JS Kl (hr.mono (by lia)) rfl (@pa1 _ _ _ (pv 0) (0)))) (λ_ _ _ _=>(ai (i:=0) (show List.Nodup (α:=Str) ["inner"] by decide +kernel) rfl (Or.inl rfl))) (λ_ _ _ _=>(pcl Ju JP (hr.mono (by lia)) rfl (@pa1 _ _ _ (pv 0) (0))))) (0)))))),?_⟩;refine ⟨_,rfl,a0,c0,d,x,rfl,hd,pk,λp ys ks H1 g1 hpn e1 hks wi=>?_⟩;have ly:=hks.length;rw [aAe] at ly;have few:=wi.few;refine ⟨p,rfl,⟨_,SqL.of e1⟩,λl hln=>?_⟩;refine cf (K:=K) (xs:=ys) (λi us σ H'=>us=((ks.take i).map λk=>V.int (k.2.2:Nat))/\Same H1 H'/\H' l=some (.lst us)/\σ.length=1) ⟨rfl,ae hln _,ac,rfl⟩ (λi us σ H' _ r=>SqL.of (r.2.1 _ _ e1)) ?_ ?_
 ·rintro i y us σ H2 N hy ⟨rfl,g2,e2,hσ⟩ next;obtain ⟨k0,hk0,hp⟩:=hks.get' hy;rw [aAt] at hk0;obtain ⟨k,hk,rfl⟩:=aAu.mp hk0;have mem:=aAw hk;have dl:=pZ (aAN.mpr ⟨k,mem,rfl⟩:k.2.1∈ks.map (·.2.1));have dd:=wi.deep
  match σ,hσ with
  | [_],_ =>
   refine ⟨_,rfl,k.2.1,k.2.2,k.1,y,by lia,rfl,hp.same g2,wi.each k mem,λH3 g3=>⟨g3 _ _ e2,?_,next _ _ _ ⟨b8 (λk:Dt×Nat×Nat=>V.int (k.2.2:Nat)) hk,aS hln (g2.trans g3),ac,rfl⟩⟩⟩;rw [aAe,aAQ];exact aj (by lia)
 ·rintro us σ H2 ⟨rfl,g2,e2,_⟩;rw [<- ly,aAB] at e2;have e2':H2 l=some (.lst (((ks.map (·.2.2)).map λn:Nat=>(n:Int)).map V.int)):=by rw [e2,aAz,aAz];rfl
  refine ⟨l,_,rfl,rfl,SqL.of e2',_,_,rfl,rfl,?_⟩;rw [qU];show Q (.int ((1:Int)+((sumN (ks.map (·.2.2)):Nat):Int))) H2;have e:(1:Int)+((sumN (ks.map (·.2.2)):Nat):Int)=((c0:Nat):Int):=by rw [wi.many];lia
  rw [e];exact q H2 (g1.trans g2)
theorem oi (T:Tx K mg ad) {f:Addr} {fd:FuncData} (A:Gn K mg "kind_many" cC ["kind"] f fd):∀ n,FnOk P w K mg base CX0 (n+3) f fd ["kind"] (uW K n)
 | 0=>il λvs H Q E z=>by obtain ⟨_,_,_,_,h,_,_,pk,_⟩:=z;have:=pk.pos;lia
 | n+1=>lV T n A (oi T A n)
def lW (K:W.Frag) (ad:Ads):Sp:=λvs H Q E=>∃ (d:Dt) (x:V),vs=[x]/\IsP K H d x/\okD d=true /\
 ((au 5 d=false/\∀ H',Same H H'->E (.ref ad.BadKind) none H')\/(∃ a c,FK a c d/\a<=5/\(c<=40->∀ H',Same H H'->Q x H')/\(40 < c->∀ H',Same H H'->E (.ref ad.BadKind) none H')))
theorem c6 (T:Tx K mg ad) {f:Addr} {fd:FuncData} (F:Gn K mg "made_kind" dQ ["kind"] f fd):FnOk P w K mg base (jC P w) 22 f fd ["kind"] (lW K ad):=by
 obtain ⟨_,_,Ja⟩:=T.is_formed;obtain ⟨f1,d1,D1⟩:=T.are_fields;obtain ⟨f2,d2,D2⟩:=T.are_rows;obtain ⟨f3,d3,D3⟩:=T.is_field;have Jj:=iV (P:=P) (w:=w) (base:=base) T Ja D1 D2 D3 6;obtain ⟨_,_,Ju⟩:=T.kind_many;have JP:=oi (P:=P) (w:=w) (base:=base) T Ju 5;obtain ⟨t_DEEPEST,c_DEEPEST⟩:=T.DEEPEST;obtain ⟨t_MOST_KINDS,c_MOST_KINDS⟩:=T.MOST_KINDS;refine F.F.okE2 mx (λvs H Q E h=>?_) (λcdv A outer s H vs Q E hr h=>?_)
 ·obtain ⟨d,x,rfl,_⟩:=h
  rfl
 obtain ⟨d,x,rfl,hd,ok,q⟩:=h;refine ⟨_,(3,@ps_if _ _ _ _ _ _ _ _ (@pt_not _ _ _ _ (@pt_val _ _ _ (pcl Ja Jj (hr.mono (by lia)) rfl (@pa2 _ _ _ _ _ (pv 0) (pe_gint rfl c_DEEPEST) (0) (0))) (by intro _;rfl))) (@pss_one _ _ _ (ps_raise2 xeOf2 rfl rfl rfl rfl T.x_BadKind rfl (@pa1 _ _ _ pe_str (0)))) pss_nil,(3,@ps_if _ _ _ _ _ _ _ _ (pt_cmpR op_gt (pcl Ju JP (hr.mono (by lia)) rfl (@pa1 _ _ _ (pv 0) (0))) (pe_gint rfl c_MOST_KINDS) (nomark _)) (@pss_one _ _ _ (ps_raise2 xeOf2 rfl rfl rfl rfl T.x_BadKind rfl (@pa1 _ _ _ pe_str (0)))) pss_nil,@pss_one _ _ _ (@ps_ret _ _ _ _ (pv 0)))),?_⟩;refine ⟨_,rfl,5,d,x,by decide,rfl,hd,ok,λH1 g1=>⟨_,rfl,?_⟩⟩;rcases q with ⟨bad,q⟩ | ⟨a,c,fk,ha,q1,q2⟩
 ·rw [bad];exact aq ⟨sz1,q H1 g1⟩
 ·rw [xh fk,decide_eq_true ha];refine aI ?_;refine ⟨_,rfl,a,c,d,x,ha,rfl,hd.same g1,fk,λH2 g2=>⟨_,_,rfl,rfl,_,rfl,cx (λc1=>?_) (λc1=>?_)⟩⟩
  ·have c':((c:Nat):Int) > 40:=of_decide_eq_true c1;exact ⟨sz1,q2 (by lia) H2 (g1.trans g2)⟩
  ·have c':¬ ((c:Nat):Int) > 40:=λz=>c1 (decide_eq_true z);exact ⟨_,rfl,q1 (by lia) H2 (g1.trans g2)⟩
def jI (K:W.Frag) (_:Ads):Sp:=λvs H Q _=>∃ (a:Addr) (ns:List Int) (k:Int),vs=[.ref a,.int k]/\SqL K H a (ns.map V.int)/\ns.length<=64/\0<=k/\k < 1000 /\
 ∀ r n H',H r=none->Same H H'->H' r=some (.lst [.int n])->Q (.ref r) H'
theorem lX (T:Tx K mg ad) {f:Addr} {fd:FuncData} (F:Gn K mg "_law_mixed" dZ ["cell","k"] f fd):FnOk P w K mg base CX0 1 f fd ["cell","k"] (lO K ad):=by
 refine F.F.ok fV (λvs H Q E h=>?_) (λcdv A outer s H vs Q E hr h=>?_)
 ·obtain ⟨i,k,rfl,_⟩:=h
  rfl
 obtain ⟨i,k,rfl,q⟩:=h;refine ⟨_,(3,@ps_set _ _ 2 _ _ _ _ fV.nd rfl (Or.inl rfl) (@pe_op _ _ _ _ _ _ _ _ dE (@pe_op _ _ _ _ _ _ _ _ fZ (@pe_op _ _ _ _ _ _ _ _ op_add (@pe_op _ _ _ _ _ _ _ _ op_add (@pe_op _ _ _ _ _ _ _ _ dE (pv 0) pe_int) (@pe_op _ _ _ _ _ _ _ _ fZ pe_int (pv 1))) pe_int) pe_int) pe_int) (0) (.inl rfl),@pss_one _ _ _ (@ps_ret _ _ _ _ (@pe_op _ _ _ _ _ _ _ _ dE (@pe_op _ _ _ _ _ _ _ _ fZ (@pe_op _ _ _ _ _ _ _ _ dE (@pe_op _ _ _ _ _ _ _ _ fZ (pv 2) (pv 2)) pe_int) pe_int) pe_int))),?_⟩;refine ⟨_,rfl,_,_,rfl,rfl,(by show (0:Int) < 1000000007;decide),_,rfl,_,_,rfl,rfl,.inl ⟨by decide,by decide⟩,_,_,rfl,rfl,_,_,rfl,rfl,_,_,rfl,rfl,.inr ⟨by decide,by decide⟩,_,_,rfl,rfl,(by show (0:Int) < 2147483647;decide),?_⟩;have b0:(0:Int)<=(i % 1000000007+7919*k+1)*48271 % 2147483647:=aA7 _ (by decide);have b1:(i % 1000000007+7919*k+1)*48271 % 2147483647 < 2147483647:=aAY _ (by decide);exact ⟨_,rfl,_,rfl,_,_,rfl,rfl,.inl ⟨by lia,by lia⟩,_,_,rfl,rfl,(by show (0:Int) < 2147483629;decide),_,_,rfl,rfl,.inr ⟨by decide,by decide⟩,_,_,rfl,rfl,(by show (0:Int) < 2147483647;decide),q _⟩
theorem fF (T:Tx K mg ad) {f:Addr} {fd:FuncData} (F:Gn K mg "_law_digit" d4 ["row","many"] f fd):FnOk P w K mg base CX0 1 f fd ["row","many"] (lP K ad):=by
 refine F.F.ok fW (λvs H Q E h=>?_) (λcdv A outer s H vs Q E hr h=>?_)
 ·obtain ⟨r,n,m,rfl,_⟩:=h
  rfl
 obtain ⟨r,n,m,rfl,hr0,h0,h1,q⟩:=h;refine ⟨_,(3,@ps_set _ _ 2 _ _ _ _ fW.nd rfl (Or.inl rfl) (@pe_op _ _ _ _ _ _ _ _ dE (@ce _ _ _ _ _ _ _ (aW (K:=K) rfl) (pv 0) pe_int (λ_ _=>rfl)) (pv 1)) (0) (.inl rfl),(3,AV (@pe_op _ _ _ _ _ _ _ _ fA (@ce _ _ _ _ _ _ _ (aW (K:=K) rfl) (pv 0) pe_int (λ_ _=>rfl)) (pv 1)) (AU (pv 0) pe_int tM),@pss_one _ _ _ (@ps_ret _ _ _ _ (pv 2)))),?_⟩;have e0:atI [V.int n] 0=some (.int n):=rfl;exact ⟨_,rfl,r,_,_,_,rfl,rfl,SqL.of hr0,e0,_,rfl,_,_,rfl,rfl,h0,_,rfl,r,_,_,_,rfl,rfl,SqL.of hr0,e0,_,rfl,_,_,rfl,rfl,⟨h0,h1⟩,_,rfl,r,_,_,_,rfl,rfl,hr0,rfl,_,rfl,q⟩
theorem mod_lt (n:Int) {m:Int} (h:0 < m):0<=n % m/\n % m < m:=⟨aA7 _ (by lia),aAY _ h⟩
theorem BD (x:Int):Builtin.Int.intBits (x % 10 ^ (60:Int).toNat)<=200:=by
 have h0:(0:Int) < 10 ^ (60:Int).toNat:=by decide +kernel
 refine wD (aA7 _ (Int.ne_of_gt h0)) (Int.lt_trans (aAY _ h0) ?_)
 decide +kernel
theorem qV:Builtin.Int.intBits ((10:Int) ^ (60:Int).toNat)<=200:=by decide +kernel
theorem qg {lo c:Int} {n:Nat} {g:TG} {tb:TS} {D:Ends} {σ:L2.St} {H:Hp} (Pv:Nat->L2.St->Hp->Prop) (h0:Pv 0 σ H)
  (hs:∀ i σ H,i < n->Pv i σ H->g (.int (lo+i*c)) σ H λσ2 H2=>tb { D with nx:=Pv (i+1),ct:=Pv (i+1),bk:=D.nx } σ2 H2) (hd:∀ σ H,Pv n σ H->D.nx σ H) :
  ∃ W:Nat->Nat->L2.St->Hp->Prop,(∃ m,W 0 m σ H)/\∀ i m σ H,W i m σ H ->
   ((uk lo c n).stop i H/\D.nx σ H)\/((uk lo c n).go i H/\∃ N:L2.St->Hp->Prop,(∀ σ' H',N σ' H'->∃ m',m' < m/\W (i+1) m' σ' H')/\∀ x H',(uk lo c n).yld i H x H'->g x σ H' λσ2 H2=>tb { D with nx:=N,ct:=N,bk:=D.nx } σ2 H2):=by
 refine ⟨λi m σ H=>m=n - i/\i<=n/\Pv i σ H,⟨n,by simp,aAF _,h0⟩,?_⟩;rintro i m σ H ⟨rfl,hi,p⟩
 by_cases hlt:i < n
 ·refine .inr ⟨hlt,Pv (i+1),λσ' H' p'=>⟨n - (i+1),by lia,rfl,hlt,p'⟩,λx H' y=>?_⟩;obtain ⟨e,y⟩:=y;subst e y;exact hs i σ _ hlt p
 ·have e:i=n:=by lia
  subst e;exact .inl ⟨aAo _,hd σ H p⟩
theorem jJ (T:Tx K mg ad) {f:Addr} {fd:FuncData} (F:Gn K mg "_law_stream" du ["script","k"] f fd):FnOk P w K mg base CX0 2 f fd ["script","k"] (jI K ad):=by
 obtain ⟨_,_,J8⟩:=T.law_mixed;have KD:=lX (P:=P) (w:=w) (base:=base) T J8;refine F.F.ok aQ (λvs H Q E h=>?_) (λcdv A outer s H vs Q E hr h=>?_)
 ·obtain ⟨a,ns,k,rfl,_⟩:=h
  rfl
 obtain ⟨a,ns,k,rfl,hS,h63,h0,h1,q⟩:=h;refine ⟨_,(@pss_cons _ _ _ _ _ (@ps_set _ _ 2 _ _ _ _ aQ.nd rfl (Or.inl rfl) pe_int (0) (.inl rfl)) (@pss_cons _ _ _ _ _ (ps_for PassesOwn.never rfl (sr rfl T.z_range (@pa3 _ _ _ _ _ _ _ (pv 1) (pe_callB (call_len_seqN (K:=K) rfl) rfl T.z_len PySem.boot_len (@pa1 _ _ _ (pv 0) (0))) pe_int (0) (0) (0))) (ai (i:=3) aQ.nd rfl (Or.inl rfl))
    (@pss_one _ _ _ (@ps_set _ _ 2 _ _ _ _ aQ.nd rfl (Or.inl rfl) (@pe_op _ _ _ _ _ _ _ _ op_add (@pe_op _ _ _ _ _ _ _ _ wB (pv 2) (@pe_op _ _ _ _ _ _ _ _ op_pow pe_int pe_int)) (@pe_op _ _ _ _ _ _ _ _ dE (@ce _ _ _ _ _ _ _ (aW (K:=K) rfl) (pv 0) (pv 3) (λ_ _=>rfl)) (@pe_op _ _ _ _ _ _ _ _ op_pow pe_int pe_int))) (0) (.inl rfl)))) (@pss_cons _ _ _ _ _ (@ps_if _ _ _ _ _ _ _ _ (pt_cmpR GZ (pv 2) (@pe_op _ _ _ _ _ _ _ _ op_pow pe_int pe_int) (nomark _)) (@pss_one _ _ _ (@ps_ret _ _ _ _ (@ao _ _ _ _ (@pa1 _ _ _ (pv 2) (0))))) pss_nil) (@pss_cons _ _ _ _ _ (@ps_set _ _ 4 _ _ _ _ aQ.nd rfl (Or.inl rfl) pe_int (0) (.inl rfl)) (@pss_cons _ _ _ _ _ (ps_for PassesOwn.never rfl (pi_range1 rfl T.z_range (@pa1 _ _ _ pe_int (0))) (ai (i:=3) aQ.nd rfl (Or.inl rfl))
    (@pss_one _ _ _ (@ps_set _ _ 4 _ _ _ _ aQ.nd rfl (Or.inl rfl) (@pe_op _ _ _ _ _ _ _ _ op_add (@pe_op _ _ _ _ _ _ _ _ fZ (pv 4) pe_int) (pcl J8 KD (hr.mono (by lia)) rfl (@pa2 _ _ _ _ _ (@pe_op _ _ _ _ _ _ _ _ op_add (@pe_op _ _ _ _ _ _ _ _ op_add (pv 2) (@pe_op _ _ _ _ _ _ _ _ fZ pe_int (pv 1))) (pe_callB (call_len_seqN (K:=K) rfl) rfl T.z_len PySem.boot_len (@pa1 _ _ _ (pv 0) (0)))) (pv 3) (0) (0)))) (0) (.inl rfl)))) (@pss_one _ _ _ (@ps_ret _ _ _ _ (@ao _ _ _ _ (@pa1 _ _ _ (@pe_op _ _ _ _ _ _ _ _ fA (pv 4) pe_int) (0)))))))))),?_⟩
 have hlen:(ns.map V.int).length=ns.length:=aAe _;have hn:rngN k ns.length 9<=64:=by
  have:=qK (a:=k) (b:=ns.length) (c:=9) (by decide)
  split at this <;> lia
 refine ⟨_,rfl,_,rfl,a,_,rfl,.inl hS,_,_,_,rfl,⟨h0,by lia,by lia,by rw [hlen];lia,by decide,by decide⟩,?_⟩;rw [hlen];refine qg (lo:=k) (c:=9) (n:=rngN k ns.length 9) (λi σ H'=>H'=H/\∃ x v,Builtin.Int.intBits x<=1+402*i/\σ=[some (.ref a),some (.int k),some (.int x),v,none]) ⟨rfl,0,none,by decide,rfl⟩ ?_ ?_
 ·rintro i σ H' hi ⟨rfl,x,v,hx,rfl⟩;have hlt:=wC (a:=k) (b:=ns.length) (c:=9) (by decide) hi;have hk:(k+i*9).toNat < ns.length:=by lia
  have ek:(((k+i*9).toNat:Nat):Int)=k+i*9:=by lia
  have e:atI (ns.map V.int) (((k+i*9).toNat:Nat):Int)=some (.int ns[(k+i*9).toNat]):=ii (by simp [hk]);rw [ek] at e;refine ⟨_,rfl,_,_,rfl,rfl,⟨by decide,by decide,by decide⟩,_,_,rfl,rfl,mulOk_of_bits (m:=1+402*i) (n:=200) hx qV (by lia),?_⟩;refine ⟨_,rfl,_,rfl,a,_,_,_,rfl,rfl,hS,e,_,_,rfl,rfl,⟨by decide,by decide,by decide⟩,_,_,rfl,rfl,(by show (0:Int) < 10 ^ (60:Int).toNat;decide +kernel),_,_,rfl,rfl,?_⟩;refine ⟨rfl,_,_,?_,rfl⟩;refine aAx (intBits_add_le (intBits_mul_le hx qV) (BD _)) ?_;lia
 ·rintro σ H' ⟨rfl,x,v,hx,rfl⟩;refine ⟨_,rfl,_,_,rfl,rfl,⟨by decide,by decide,by decide⟩,_,_,rfl,rfl,_,rfl,?_⟩;refine cx (λc1=>?_) (λc1=>?_)
  ·exact ⟨_,rfl,sz1,λr hr'=>q r x _ hr' (ae hr' _) ac⟩
  refine ⟨9,rfl,by decide,by decide,fY (lo:=0) (n:=(9:Int).toNat) (λi σ H1=>H1=H'/\∃ y v,σ=[some (.ref a),some (.int k),some (.int x),v,some (.int y)]) ⟨rfl,0,_,rfl⟩ ?_ ?_⟩
  ·rintro i σ H1 hi ⟨rfl,y,v,rfl⟩;refine ⟨_,rfl,_,_,rfl,rfl,.inr ⟨by decide,by decide⟩,?_⟩;refine ⟨_,rfl,_,rfl,_,_,rfl,rfl,.inl ⟨by decide,by decide⟩,_,_,rfl,rfl,_,rfl,a,_,rfl,.inl hS,_,_,rfl,rfl,_,rfl,_,_,rfl,λm=>?_⟩;exact ⟨_,_,rfl,rfl,rfl,_,_,rfl⟩
  ·rintro σ H1 ⟨rfl,y,v,rfl⟩;exact ⟨_,rfl,_,_,rfl,rfl,⟨by decide,by decide⟩,sz1,λr hr'=>q r _ _ hr' (ae hr' _) ac⟩
def okC (c:Nat):Bool:=decide (32<=c) && decide (c<=126) && !decide (c=34) && !decide (c=37)
def okT (z:Str):Prop:=∀ c∈z.cps.toList,okC c=true
theorem HU:(Str.ofString " ")=⟨#[32]⟩:=by decide +kernel
theorem HV:(Str.ofString "\"")=⟨#[34]⟩:=by decide +kernel
theorem xj (c d:Nat):decide (V.str ⟨#[c]⟩=V.str ⟨#[d]⟩)=decide (c=d):=by
 rw [decide_eq_decide];exact ⟨λh=>by injection h with h;injection h with h;simpa using h,λh=>by rw [h]⟩
def qh (_:W.Frag) (_:Ads):Sp:=λvs H Q _=>∃ c:Nat,vs=[.str ⟨#[c]⟩]/\Q (.bl (okC c)) H
theorem uX (a b:Nat):decide (([a]:List Nat) < [b])=decide (a < b):=by
 rw [decide_eq_decide,List.cons_lt_cons_iff];exact ⟨λh=>h.elim id (λh=>absurd h.2 (aBy _)),.inl⟩
theorem HW:(Str.ofString "~")=⟨#[126]⟩:=by decide +kernel
theorem iW (T:Tx K mg ad) {f:Addr} {fd:FuncData} (F:Gn K mg "is_sign" gA ["letter"] f fd):FnOk P w K mg base CX0 1 f fd ["letter"] (qh K ad):=by
 obtain ⟨t_PERCENT,c_PERCENT⟩:=T.PERCENT;refine F.F.ok qz (λvs H Q E h=>?_) (λcdv A outer s H vs Q E hr h=>?_)
 ·obtain ⟨c,rfl,_⟩:=h
  rfl
 obtain ⟨c,rfl,q⟩:=h;refine ⟨_,(@pss_one _ _ _ (@ps_ret _ _ _ _ (pe_and (mL kC kC pe_str (pv 0) pe_str) (pe_and (pe_cmpR op_ne (pv 0) pe_str (nomark _)) (pe_one (pe_cmpR op_ne (pe_callB tI rfl T.z_ord boot_ord (@pa1 _ _ _ (pv 0) (0))) (pe_gint rfl c_PERCENT) (nomark _))))))),?_⟩;refine ⟨_,rfl,_,_,rfl,rfl,_,rfl,?_⟩;rw [HU,show (!decide ((⟨#[c]⟩:Str).cps.toList < (⟨#[32]⟩:Str).cps.toList))=decide (32<=c) from by
  rw [show decide ((⟨#[c]⟩:Str).cps.toList < (⟨#[32]⟩:Str).cps.toList)=decide (c < 32) from uX c 32]
  by_cases h:c < 32 <;> simp [h] <;> lia]
 unfold okC at q;refine cx (λc1=>?_) (λc1=>?_)
 ·rw [c1] at q;refine ⟨_,_,rfl,rfl,?_⟩;rw [HW,show (!decide ((⟨#[126]⟩:Str).cps.toList < (⟨#[c]⟩:Str).cps.toList))=decide (c<=126) from by
   rw [show decide ((⟨#[126]⟩:Str).cps.toList < (⟨#[c]⟩:Str).cps.toList)=decide (126 < c) from uX 126 c]
   by_cases h:c<=126 <;> simp [h] <;> lia]
  refine ⟨_,rfl,cx (λc2=>?_) (λc2=>?_)⟩
  ·rw [c2] at q;refine ⟨_,rfl,rfl,_,rfl,?_⟩;rw [HV,xj];refine cx (λc3=>?_) (λc3=>?_)
   ·rw [c3] at q;refine ⟨_,rfl,_,rfl,rfl,rfl,?_⟩;rw [show decide (V.int ((⟨#[c]⟩:Str).cps.getD 0 0:Nat)=V.int 37)=decide (c=37) from by
     rw [decide_eq_decide];exact ⟨λh=>by injection h with h;exact Int.ofNat.inj h,λh=>by rw [h];rfl⟩]
    exact q
   ·rw [show (!decide (c=34))=false from by simpa using c3] at q;exact q
  ·rw [show decide (c<=126)=false from by simpa using c2] at q;exact q
 ·rw [show decide (32<=c)=false from by simpa using c1] at q;exact ⟨_,rfl,aI q⟩
def oj (K:W.Frag) (_:Ads):Sp:=λvs H Q _=>∃ (gs:List (Str×Dt)) (z:Str) (e:Dt) (x:V),vs=[x,.str z]/\IsP K H (.tup [.str "record",.tup (gs.map prD)]) x/\am gs z=some e/\∀ v,IsP K H e v->Q v H
theorem kL {z:Str} {d:Dt}:∀ {fs:List (Str×Dt)} {i:Nat},fs[i]?=some (z,d)->(∀ j f,j < i->fs[j]?=some f->f.1≠z)->am fs z=some d
 | [],i,h,_=>by simp at h
 | f :: fs,0,h,_=>by
  obtain rfl:f=(z,d):=by simpa using h
  simp [am]
 | f :: fs,i+1,h,pre=>by
  have hz:¬ f.1=z:=pre 0 f (Nat.succ_pos _) rfl;have h2:fs[i]?=some (z,d):=by simpa using h
  have e:am (f :: fs) z=am fs z:=by simp [am,hz]
  rw [e];exact kL h2 λj g hj hg=>pre (j+1) g (Nat.succ_lt_succ hj) (by simpa using hg)
theorem qW {z:Str}:∀ {fs:List (Str×Dt)},(∀ f∈fs,f.1≠z)->am fs z=none
 | [],_=>by simp [am]
 | f :: fs,h=>by
  have hz:¬ f.1=z:=h f aAh;have e:am (f :: fs) z=am fs z:=by simp [am,hz]
  rw [e];exact qW λg hg=>h g (aAj _ hg)
theorem dM (T:Tx K mg ad) {f:Addr} {fd:FuncData} (F:Gn K mg "field_of" eX ["record","name"] f fd):FnOk P w K mg base CX0 1 f fd ["record","name"] (oj K ad):=by
 refine F.F.ok d6 (λvs H Q E h=>?_) (λcdv A outer s H vs Q E hr h=>?_)
 ·obtain ⟨gs,z,e,x,rfl,_⟩:=h
  rfl
 obtain ⟨gs,z,e0,x,rfl,hd,lk,q⟩:=h;refine ⟨_,(@pss_cons _ _ _ _ _ (ps_for PassesOwn.never rfl (bM (K:=K) rfl (@pi1 K _ _ _ _ _ _ _ rfl (pv 0))) (fX rfl (aH (ai (i:=2) d6.nd rfl (Or.inl rfl)) (aH (ai (i:=3) d6.nd rfl (Or.inl rfl)) bW)))
    (@pss_one _ _ _ (@ps_if _ _ _ _ _ _ _ _ (pt_cmpR op_eq (pv 2) (pv 1) (nomark _)) (@pss_one _ _ _ (@ps_ret _ _ _ _ (pv 3))) pss_nil))) (@pss_one _ _ _ (@ps_ret _ _ _ _ pe_non))),?_⟩
 refine ⟨_,rfl,_,_,_,hd,rfl,rfl,λv hv=>?_⟩;obtain ⟨a,xs,rfl,ha,pa,ra⟩:=hv.unref;have el:=ra.length;rw [aAe] at el;refine ⟨a,rfl,⟨xs,ha⟩,ig (xs:=xs) (λi σ H'=>H'=H/\(∀ j f,j < i->gs[j]?=some f->f.1≠z)/\∃ v1 v2,σ=[some x,some (.str z),v1,v2]) ⟨rfl,λj f hj=>absurd hj (aBP _),_,_,rfl⟩ (λi σ H' _ p=>p.1 ▸ ha) ?_ ?_⟩
 ·rintro i y σ H' hy ⟨rfl,pre,v1,v2,rfl⟩;obtain ⟨e,he,hp⟩:=ra.get' hy;rw [aAt] at he;obtain ⟨⟨w,e'⟩,hf,rfl⟩:=aAu.mp he;obtain ⟨b,ys,rfl,hb,pb,rb⟩:=hp.unref
  cases rb with
  | cons r1 rb =>
   cases rb with
   | @cons _ _ y2 _ r2 rb =>
    cases rb
    obtain rfl:=bp r1;refine ⟨b,_,rfl,hb,rfl,_,_,rfl,_,_,rfl,rfl,?_⟩;refine ⟨_,rfl,_,rfl,rfl,_,rfl,?_⟩
    by_cases hz:w=z
    ·subst hz;rw [kL hf pre] at lk;obtain rfl:=Option.some.inj lk;exact bF ⟨_,rfl,q _ r2⟩
    ·refine iteN (aL hz) ⟨rfl,λj f hj hjf=>?_,_,_,rfl⟩;rcases aBJ.mp hj with h1 | h1
     ·exact pre j f h1 hjf
     ·subst h1;rw [hf] at hjf;obtain rfl:=Option.some.inj hjf;exact hz
 ·rintro σ H' ⟨rfl,pre,v1,v2,rfl⟩;rw [qW (λf hf=>by
   obtain ⟨j,hj,e⟩:=aBh.mp hf;exact pre j f (by lia) (by rw [aAp hj,e]))] at lk
  cases lk
theorem ol:∀ {a b:List Str},a.Pairwise ltS->b.Pairwise ltS->a.Perm b->a=b
 | [],b,_,_,h=>(List.nil_perm.mp h).symm
 | x :: a,[],_,_,h=>absurd (List.perm_nil.mp h) (by simp)
 | x :: a,y :: b,ha,hb,h=>by
  have ha':=aBf.mp ha;have hb':=aBf.mp hb;have e:x=y:=by
   rcases aAb.mp (h.mem_iff.mp (aAh:x∈x :: a)) with e | hx
   ·exact e
   ·rcases aAb.mp (h.mem_iff.mpr (aAh:y∈y :: b)) with e | hy
    ·exact e.symm
    ·exact absurd (List.lt_trans (hb'.1 x hx) (ha'.1 y hy)) (aBy _)
  subst e;rw [ol ha'.2 hb'.2 (List.Perm.cons_inv h)]
theorem uY {a b:Str} (h:¬ ltS b a) (n:a≠b):ltS a b:=by
 by_cases c:ltS a b
 ·exact c
 ·refine absurd ?_ n;have e:a.cps.toList=b.cps.toList:=List.le_antisymm (List.not_lt.mp h) (List.not_lt.mp c)
  cases a
  cases b
  simp only at e;rw [Array.toList_inj.mp e]
theorem kM:∀ (l:List Str) (p:Str),risingS p l=true->(p :: l).Nodup->(p :: l).Pairwise ltS
 | [],p,_,_=>aBL _ _
 | x :: l,p,h,nd=>by
  simp only [risingS,ltCps_eq,aAr,aBD,decide_eq_false_iff_not] at h;have nd':=aBb.mp nd;have ih:=kM l x h.2 nd'.2;have px:ltS p x:=uY h.1 λe=>nd'.1 (e ▸ aAh);refine aBf.mpr ⟨λy hy=>?_,ih⟩;rcases aAb.mp hy with rfl | hy
  ·exact px
  ·exact List.lt_trans px ((aBf.mp ih).1 y hy)
theorem sR {l:List Str} (h:sortedS l=true) (nd:l.Nodup):l.Pairwise ltS:=by
 cases l with
 | nil=>exact .nil
 | cons x l=>exact kM l x h nd
mutual
theorem iX {K:W.Frag} {H H':Hp} {p:Addr} {kvs:List (Key×V)} (hp:H p=some (.dK kvs)) (g:But p H H'):∀ {d:Dt} {v:V},IsP K H d v->IsP K H' d v
 | _,_,.non=>.non
 | _,_,.bl=>.bl
 | _,_,.int=>.int
 | _,_,.str=>.str
 | _,_,.tup h pl q=>.tup (g.tup (by obtain ⟨o,u,e,dn⟩:=pl;exact eD e hp (by intro c;cases c)) h) (by
   obtain ⟨o,u,e,dn⟩:=pl;exact ⟨o,u,g _ _ (eD e hp (by intro c;cases c)) e,dn⟩) (gn hp g q)
theorem gn {K:W.Frag} {H H':Hp} {p:Addr} {kvs:List (Key×V)} (hp:H p=some (.dK kvs)) (g:But p H H'):∀ {l:List Dt} {xs:List V},IsPs K H l xs->IsPs K H' l xs
 | _,_,.nil=>.nil
 | _,_,.cons h q=>.cons (iX hp g h) (gn hp g q)
end
abbrev fl (ss:List Str) (f:Str->Dt):List (Str×Dt):=ss.map λz=>(z,f z)
abbrev aF (fs:List (Str×Dt)):Dt:=.tup [.str "record",.tup (fs.map prD)]
theorem xl {ss:List Str} {f:Str->Dt} {j:Nat} {z:Str} (h:ss[j]?=some z):(fl (ss.take (j+1)) f).map prD=(fl (ss.take j) f).map prD++[.tup [.str z,f z]]:=by
 rw [aAM,h];simp
theorem uZ {z:Str} {fs:List (Str×Dt)} (h:z∈fs.map (·.1)):∃ d,am fs z=some d:=by
 induction fs with
 | nil=>simp at h
 | cons g fs ih =>
  by_cases e:g.1=z
  ·exact ⟨g.2,by simp [am,e]⟩
  ·have e2:am (g :: fs) z=am fs z:=by simp [am,e]
   rw [e2];refine ih ?_;rcases aAb.mp h with q | q
   ·exact absurd q.symm e
   ·exact q
theorem u5:∀ {l:List Dt} {B:Nat},(∀ x∈l,x.dep<=B)->er l<=B
 | [],_,_=>aAF _
 | d :: l,B,h=>by
  have h1:=h d aAh;have h2:=u5 (l:=l) (B:=B) λx hx=>h x (aAj _ hx);simp only [er];lia
theorem lY {fs:List (Str×Dt)} {B:Nat} (h:∀ g∈fs,g.2.dep<=B):(aF fs).dep<=B+3:=by
 have:er (fs.map prD)<=B+1:=u5 λx hx=>by
  obtain ⟨g',hg',rfl⟩:=aAN.mp hx;have:=h g' hg';simp only [prD,Dt.dep,er];lia
 simp only [Dt.dep,er];lia
theorem u6 (z:Str):∀ ws:List Str,inV (V.str z) (ws.map V.str)=decide (z∈ws)
 | []=>by simp [inV]
 | w :: ws=>by
  have ih:=u6 z ws;have e:inV (V.str z) ((w :: ws).map V.str)=(eqV (V.str w) (V.str z) || inV (V.str z) (ws.map V.str)):=rfl;have e2:eqV (V.str w) (V.str z)=decide (w=z):=rfl;rw [e,ih,e2,aAU];simp only [Bool.or_eq_true,decide_eq_true_eq,aAb];exact ⟨λh=>h.imp Eq.symm id,λh=>h.imp Eq.symm id⟩
theorem u7 (ws:List Str):(ws.map V.str).all fj=true:=by rw [aA5];exact aAR.mpr λ_ _=>rfl
theorem qX {a b:List Str} (ha:a.Pairwise ltS) (hb:b.Pairwise ltS) (h:∀ z,z∈a↔z∈b):a=b :=
 ol ha hb ((List.perm_ext_iff_of_nodup (cj ha) (cj hb)).mpr h)
def lZ (K:W.Frag) (_:Ads):Sp:=λvs H Q _=>∃ (p:Addr) (ns:List Str) (f:Str->Dt),vs=[.ref p]/\DicN K H p ns f/\ns.Nodup/\ns.length<=60/\∀ v H' ss,Same H H'->ss.Perm ns->ss.Pairwise ltS->IsP K H' (aF (fl ss f)) v->Q v H'
theorem l5 (T:Tx K mg ad) {f:Addr} {fd:FuncData} (F:Gn K mg "record_of" cD ["fields"] f fd):FnOk P w K mg base CX0 1 f fd ["fields"] (lZ K ad):=by
 refine F.F.ok mD (λvs H Q E h=>?_) (λcdv A outer s H vs Q E hr h=>?_)
 ·obtain ⟨p,ns,f,rfl,_⟩:=h
  rfl
 obtain ⟨p,ns,f,rfl,⟨kvs,ep,ek,kv⟩,nd,l60,q⟩:=h;refine ⟨_,(@pss_one _ _ _ (@ps_ret _ _ _ _ (1,@pa2 _ _ _ _ _ pe_str (bh (bY (K:=K) rfl) rfl T.z_tuple boot_tuple (@pa1 _ _ _ (bA rfl (csR (sc:=aa cD) (NL:=["name"]) (N:=["fields"]) (ρ:=[0]) (N':=["name","fields"]) rfl rfl rfl (by decide +kernel) (by decide +kernel) (by decide +kernel) rfl (by decide +kernel)) (cg (K:=K) rfl (pe_callB (ny rfl) rfl T.z_sorted boot_sorted (@pa1 _ _ _ (pv 0) (0)))) (λ_ _ _ _=>(ai (i:=0) (show List.Nodup (α:=Str) ["name","fields"] by decide +kernel) rfl (Or.inl rfl))) (λ_ _ _ _=>(pe_tupPK (K:=K) rfl (@pa2 _ _ _ _ _ (pv 0) (@ww _ _ _ _ _ _ (u1 hr.units) (pv 1) (pv 0) (λ_ _=>rfl)) (0) (0))))) (0))) (0) (0)))),?_⟩;refine ⟨_,rfl,p,kvs,ns,rfl,.inl ep,ek,by lia,λa ss ha pm srt=>?_⟩;have g1:=ae ha (.lst (ss.map V.str));have e1:(upd H a (.lst (ss.map V.str))) a=some (.lst (ss.map V.str)):=ac
 generalize upd H a (.lst (ss.map V.str))=H1 at g1 e1 ⊢
 have ls:ss.length<=60:=by rw [pm.length_eq];exact l60
 refine ⟨a,rfl,⟨_,SqL.of e1⟩,λl hl=>?_⟩;refine cf (K:=K) (xs:=ss.map V.str) (λj ys σ H'=>Same H1 H'/\H' l=some (.lst ys)/\IsPs K H' ((fl (ss.take j) f).map prD) ys/\∃ v1,σ=[v1,some (.ref p)])
  ⟨ae hl _,ac,.nil,none,rfl⟩ (λj ys σ H' _ pv=>SqL.of (pv.1 _ _ e1)) ?_ ?_
 ·rintro j u ys σ H2 N hu ⟨s2,e2,d2,v1,rfl⟩ next;rw [aAt] at hu;obtain ⟨z,hz,rfl⟩:=aAu.mp hu;obtain ⟨v,hv1,hv2⟩:=kv z (pm.mem_iff.mp (aAw hz));have hv3:=hv2.same (g1.trans s2);have ly:ys.length < sizeLine:=by
   rw [<- d2.length,aAe,aAe];exact aj (by have:=aA8 j ss;lia)
  refine ⟨_,rfl,_,rfl,_,rfl,p,v,rfl,.inl ⟨kvs,Sum.inr z,.inl (s2 _ _ (g1 _ _ ep)),rfl,hv1.symm⟩,?_⟩;refine ⟨[.str z,f z],.cons .str (.cons hv3 .nil),sz2,λvt H3 g3 hvt=>?_⟩;have g4:Same H2 (upd H3 l (.lst (ys++[vt])))\/True:=.inr trivial;refine ⟨g3 _ _ e2,ly,next _ _ _ ⟨aS hl (s2.trans g3),ac,?_,_,rfl⟩⟩;rw [xl hz];exact IsPs.but (g3 _ _ e2) But.put ((d2.same g3).append (.cons hvt .nil))
 ·rintro ys σ H2 ⟨s2,e2,d2,v1,rfl⟩;rw [aAe,aAB] at d2;refine ⟨l,ys,_,rfl,SqL.of e2,d2,λvt H3 g3 hvt=>?_⟩;refine ⟨[.str "record",.tup ((fl ss f).map prD)],.cons .str (.cons hvt .nil),sz2,λvr H4 g4 hvr=>?_⟩;exact q vr H4 ss (((g1.trans s2).trans g3).trans g4) pm (sR srt (pm.nodup_iff.mpr nd)) hvr
theorem u8 {K:W.Frag} {H:Hp} {p:Addr} {ns:List Str} {f:Str->Dt} {z:Str} {d:Dt} {v:V} {kvs:List (Key×V)} (ep:H p=some (.dK kvs)) (ek:kvs.map (·.1)=ns.map (Sum.inr:Str->Key)) (kv:∀ z∈ns,∃ v,a8 kvs (Sum.inr z:Key)=some v/\IsP K H (f z) v) (hd:IsP K H d v) :
  DicN K (upd H p (.dK (cZ kvs (Sum.inr z:Key) v))) p (if z∈ns then ns else ns++[z]) (λy=>if y=z then d else f y):=by
 refine ⟨_,ac,sF kvs ns z v ek,λy hy=>?_⟩;show ∃ u,a8 (cZ kvs (Sum.inr z:Key) v) (Sum.inr y)=some u/\IsP K _ (if y=z then d else f y) u;rw [ug]
 by_cases e:y=z
 ·subst e;rw [if_pos rfl,if_pos rfl];exact ⟨v,rfl,iX ep But.put hd⟩
 ·rw [if_neg (λq=>e (Sum.inr.inj q)),if_neg e];have hn:y∈ns:=by
   split at hy
   ·exact hy
   ·rcases aAI.mp hy with h | h
    ·exact h
    ·exact absurd (aAv.mp h) e
  obtain ⟨u,h1,h2⟩:=kv y hn;exact ⟨u,h1,iX ep But.put h2⟩
def iY (K:W.Frag) (_:Ads):Sp:=λvs H Q _=>∃ (tp tq:Bool) (fs:List (Str×Dt)) (ns:List Str) (f:Str->Dt) (x:V) (a b:Addr) (xs:List V),vs=[x,.ref a,.ref b]/\IsP K H (aF fs) x/\(fs.map (·.1)).Nodup/\fs.length<=8/\ns.length<=8 /\
 SqE tp K H a (ns.map V.str)/\SqE tq K H b xs/\IsPs K H (ns.map f) xs/\∀ v H' ss,Same H H'->ss.Pairwise ltS->(∀ z,z∈ss↔z∈fs.map (·.1)\/z∈ns)->IsP K H' (aF (fl ss λz=>if z∈ns then f z else (am fs z).getD .non)) v->Q v H'
theorem iZ {K:W.Frag} {H:Hp} {p:Addr} {ns:List Str} {f g:Str->Dt} (h:DicN K H p ns f) (e:∀ z∈ns,f z=g z):DicN K H p ns g:=by
 obtain ⟨kvs,a,b,c⟩:=h;exact ⟨kvs,a,b,λz hz=>by rw [<- e z hz];exact c z hz⟩
theorem dN (T:Tx K mg ad) {f:Addr} {fd:FuncData} (F:Gn K mg "with_fields" cH ["record","names","values"] f fd):FnOk P w K mg base CX0 2 f fd ["record","names","values"] (iY K ad):=by
 obtain ⟨_,_,J6⟩:=T.record_of;have KF:=l5 (P:=P) (w:=w) (base:=base) T J6;refine F.F.ok bE (λvs H Q E h=>?_) (λcdv A outer s H vs Q E hr h=>?_)
 ·obtain ⟨tp,tq,fs,ns,f,x,a,b,xs,rfl,_⟩:=h
  rfl
 obtain ⟨tp,tq,fs,ns,f,x,a,b,xs,rfl,hd,nd,l8,n8,ha,hb,dx,q⟩:=h;refine ⟨_,(@pss_cons _ _ _ _ _ (@ps_set _ _ 3 _ _ _ _ bE.nd rfl (Or.inl rfl) (bh (nA (K:=K) rfl rfl) rfl T.z_dict boot_dict (@pa1 _ _ _ (@pi1 K _ _ _ _ _ _ _ rfl (pv 0)) (0))) (0) (.inl rfl)) (@pss_cons _ _ _ _ _ (ps_for PassesOwn.never rfl (nQ rfl T.z_zip (@pa2 _ _ _ _ _ (pv 1) (pv 2) (0) (0))) (fX rfl (aH (ai (i:=4) bE.nd rfl (Or.inl rfl)) (aH (ai (i:=5) bE.nd rfl (Or.inl rfl)) bW)))
    (@pss_one _ _ _ (wx (u1 hr.units) (pv 3) (pv 4) (pv 5) rfl))) (@pss_one _ _ _ (@ps_ret _ _ _ _ (pcl J6 KF (hr.mono (by lia)) rfl (@pa1 _ _ _ (pv 3) (0))))))),?_⟩
 refine ⟨_,rfl,_,_,_,hd,rfl,rfl,λv1 hv1=>?_⟩;refine ⟨v1,fs,rfl,hv1,nd,by lia,λp H1 hpn g1 dq=>?_⟩;obtain ⟨kvs,ep,ek,kval⟩:=dq;have dn:DicN K H1 p (fs.map (·.1)) (λz=>(am fs z).getD .non):=⟨kvs,ep,by rw [ek,aAz];rfl,λz hz=>by
  obtain ⟨d,hd⟩:=uZ hz;obtain ⟨v,h1,h2⟩:=(kval z).2 d hd;exact ⟨v,h1,by show IsP K H1 ((am fs z).getD .non) v;rw [hd];exact h2⟩⟩
 have lx:xs.length=ns.length:=by rw [<- dx.length,aAe]
 have lmin:min (ns.map V.str).length xs.length=ns.length:=by rw [aAe,lx,Nat.min_self]
 refine ⟨_,rfl,_,rfl,tp,tq,a,b,rfl,⟨_,ha.same g1⟩,⟨_,hb.same g1⟩,nR (tp:=tp) (tq:=tq) (K:=K) (xs:=ns.map V.str) (ys:=xs) (λi σ H'=>∃ (l:List Str) (v4 v5:Option V),Same H H'/\SqE tp K H' a (ns.map V.str)/\SqE tq K H' b xs/\IsPs K H' (ns.map f) xs/\l.Nodup/\l.length<=fs.length+i/\(∀ z,z∈l↔z∈fs.map (·.1)\/z∈ns.take i)/\DicN K H' p l (λz=>if z∈ns.take i then f z else (am fs z).getD .non)/\i<=ns.length/\σ=[some x,some (.ref a),some (.ref b),some (.ref p),v4,v5])
  ⟨_,none,none,g1,ha.same g1,hb.same g1,dx.same g1,nd,by rw [aAe];lia,λz=>by simp,iZ dn λz _=>by simp,aAF _,rfl⟩ (λi σ H' pv=>by
   obtain ⟨_,_,_,_,h1,h2,_⟩:=pv;exact ⟨h1,h2⟩) ?_ ?_⟩
 ·rintro i u y T σ H2 hu hy hT ⟨l,v4,v5,s2,a2,b2,d2,nl,ll,ml,⟨kvs2,ep2,ek2,kv2⟩,li,rfl⟩;rw [aAt] at hu;obtain ⟨z,hz,rfl⟩:=aAu.mp hu;obtain ⟨d,hdz,hpd⟩:=d2.get' hy;rw [aAt,hz] at hdz;obtain rfl:f z=d:=Option.some.inj hdz;have gT:=ae hT (.tup [V.str z,y]);have eT:(upd H2 T (.tup [V.str z,y])) T=some (.tup [V.str z,y]):=ac
  generalize upd H2 T (.tup [V.str z,y])=H3 at gT eT ⊢
  have hi:=(aAg.mp hz).1;have lk:kvs2.length=l.length:=by have:=congrArg List.length ek2;simpa using this
  refine ⟨T,_,rfl,.inl (.inl eT),rfl,_,_,rfl,_,_,rfl,rfl,?_⟩;refine ⟨_,rfl,_,rfl,_,rfl,p,_,rfl,.inl ⟨kvs2,Sum.inr z,gT _ _ ep2,rfl,aj (by lia),rfl⟩,?_⟩;have ep3:=gT _ _ ep2;have B:But p H3 (upd H3 p (.dK (cZ kvs2 (Sum.inr z:Key) y))):=But.put;have dn3:=u8 (z:=z) ep3 ek2 (λz hz=>by obtain ⟨v,h1,h2⟩:=kv2 z hz;exact ⟨v,h1,h2.same gT⟩) (hpd.same gT);have tk:ns.take (i+1)=ns.take i++[z]:=by rw [aAM,hz];rfl
  refine ⟨_,_,_,λc o ec=>B c o (aw ec hpn) (gT _ _ (s2 _ _ ec)),(a2.same gT).butD ep3 B,(b2.same gT).butD ep3 B,gn ep3 B (d2.same gT),?_,?_,?_,iZ dn3 ?_,hi,rfl⟩
  ·split
   ·exact nl
   ·exact List.nodup_append.mpr ⟨nl,(by simp),λc hc d hd=>by
     obtain rfl:=aAv.mp hd;intro e;subst e
     contradiction⟩
  ·split
   ·lia
   ·rw [aAX,aBr];lia
  ·intro y;rw [tk,aAI,aAv];have:=ml y
   split
   ·rename_i hzl
    rw [this]
    constructor
    ·rintro (h | h)
     ·exact .inl h
     ·exact .inr (.inl h)
    ·rintro (h | h | h)
     ·exact .inl h
     ·exact .inr h
     ·subst h;exact (ml y).mp hzl
   ·rw [aAI,this,aAv,or_assoc]
  ·intro y _;rw [tk]
   by_cases e:y=z
   ·subst e;simp
   ·simp [e]
 ·rintro σ H2 ⟨l,v4,v5,s2,a2,b2,d2,nl,ll,ml,dn2,li,rfl⟩;rw [lmin] at ml dn2 ll;rw [aAB] at ml dn2;refine ⟨_,rfl,p,l,_,rfl,dn2,nl,by lia,λv H3 ss g3 pm asc hv=>?_⟩;exact q v H3 ss (s2.trans g3) asc (λz=>by rw [pm.mem_iff];exact ml z) hv
theorem gM {gs:List (Str×Dt)} {p:Str×Dt->Bool} {j:Nat} {g:Str×Dt} (h:gs[j]?=some g):(gs.take (j+1)).filter p=(gs.take j).filter p++(if p g=true then [g] else []):=by
 rw [aAM,h,List.filter_append]
 congr 1
 by_cases e:p g=true
 ·simp [e]
 ·simp [e]
def fG (K:W.Frag) (_:Ads):Sp:=λvs H Q _=>∃ (gs:List (Str×Dt)) (ns:List Str) (x:V) (a:Addr),vs=[x,.ref a]/\IsP K H (aF gs) x/\gs.length<=8/\(SqL K H a (ns.map V.str)\/SqT K H a (ns.map V.str))/\∀ v H',Same H H'->IsP K H' (aF (gs.filter λg=>!decide (g.1∈ns))) v->Q v H'
theorem cB (T:Tx K mg ad) {f:Addr} {fd:FuncData} (F:Gn K mg "without_fields" bj ["record","names"] f fd):FnOk P w K mg base CX0 1 f fd ["record","names"] (fG K ad):=by
 refine F.F.ok fS (λvs H Q E h=>?_) (λcdv A outer s H vs Q E hr h=>?_)
 ·obtain ⟨gs,ns,x,a,rfl,_⟩:=h
  rfl
 obtain ⟨gs,ns,x,a,rfl,hd,l8,ha,q⟩:=h;refine ⟨_,(@pss_one _ _ _ (@ps_ret _ _ _ _ (1,@pa2 _ _ _ _ _ pe_str (bh (bY (K:=K) rfl) rfl T.z_tuple boot_tuple (@pa1 _ _ _ (rP rfl (csR (sc:=aa bj) (NL:=["pair"]) (N:=["record","names"]) (ρ:=[1]) (N':=["pair","names"]) rfl rfl rfl (by decide +kernel) (by decide +kernel) (by decide +kernel) rfl (by decide +kernel)) (bM (K:=K) rfl (@pi1 K _ _ _ _ _ _ _ rfl (pv 0))) (λ_ _ _ _=>(ai (i:=0) (show List.Nodup (α:=Str) ["pair","names"] by decide +kernel) rfl (Or.inl rfl))) (λ_ _ _ _=>(pt_cmpR (jz (K:=K) rfl) (@pi1 K _ _ _ _ _ _ _ rfl (pv 0)) (pv 1) rfl)) (λ_ _ _ _=>(pv 0))) (0))) (0) (0)))),?_⟩;refine ⟨_,rfl,_,_,_,hd,rfl,rfl,λv1 hv1=>?_⟩;obtain ⟨b,xs,rfl,hb,pb,rb⟩:=hv1.unref;have el:=rb.length;rw [aAe] at el;refine ⟨b,rfl,⟨xs,hb⟩,λl hl=>?_⟩;refine cP (K:=K) (xs:=xs) (λj ys σ H'=>Same H H'/\H' l=some (.lst ys)/\IsPs K H' (((gs.take j).filter λg=>!decide (g.1∈ns)).map prD) ys/\∃ v1,σ=[v1,some (.ref a)])
  ⟨ae hl _,ac,.nil,none,rfl⟩ (λj ys σ H' _ pv=>pv.1.tup hb) ?_ ?_
 ·rintro j u ys σ H2 N hu ⟨s2,e2,d2,v1,rfl⟩ next;obtain ⟨e,he,hp⟩:=rb.get' hu;rw [aAt] at he;obtain ⟨⟨z,d⟩,hf,rfl⟩:=aAu.mp he;have hp2:=hp.same s2;have ha2:SqL K H2 a (ns.map V.str)\/SqT K H2 a (ns.map V.str):=ha.imp s2.seq s2.tup;have ly:ys.length < sizeLine:=by
   rw [<- d2.length,aAe];exact aj (by have:=aBS (λg:Str×Dt=>!decide (g.1∈ns)) (gs.take j);have:=aA8 j gs;lia)
  refine ⟨_,rfl,_,_,_,hp2,rfl,rfl,isS ?_⟩;refine ⟨_,rfl,a,_,rfl,ha2,rfl,u7 _,_,rfl,?_⟩;rw [u6];refine cx (λc=>?_) (λc=>?_)
  ·refine ⟨_,rfl,e2,ly,next _ _ _ ⟨aS hl s2,ac,?_,_,rfl⟩⟩;rw [gM hf];have c':(!decide ((z,d).1∈ns))=true:=c;rw [if_pos c',aA0];exact IsPs.but e2 But.put (d2.append (.cons hp2 .nil))
  ·refine next _ _ _ ⟨s2,e2,?_,_,rfl⟩;rw [gM hf];have c':¬ (!decide ((z,d).1∈ns))=true:=c;rw [if_neg c',aA4];exact d2
 ·rintro ys σ H2 ⟨s2,e2,d2,v1,rfl⟩;rw [<- el,aAB] at d2;refine ⟨l,ys,_,rfl,SqL.of e2,d2,λvt H3 g3 hvt=>?_⟩;refine ⟨[.str "record",.tup ((gs.filter λg=>!decide (g.1∈ns)).map prD)],.cons .str (.cons hvt .nil),sz2,λvr H4 g4 hvr=>?_⟩;exact q vr H4 ((s2.trans g3).trans g4) hvr
theorem xm (z:Str):z.cps.toList.length=z.length:=aA9
theorem ip {A B:Prop} {p:Prop} [Decidable p] (h1:p->A) (h2:¬ p->B):if decide p=true then A else B:=by
 by_cases c:p
 ·rw [if_pos (decide_eq_true c)];exact h1 c
 ·rw [if_neg (λe=>c (of_decide_eq_true e))];exact h2 c
def qi (z:Str):Bool:=match z.cps.toList with
 | [c]=>okC c
 | _=>false
def g9 (_:W.Frag) (_:Ads):Sp:=λvs H Q _=>∃ z:Str,vs=[.str z]/\z.length<=1000/\Q (.bl (qi z)) H
theorem hG (T:Tx K mg ad) {f:Addr} {fd:FuncData} (F:Gn K mg "is_separator" cw ["text"] f fd):FnOk P w K mg base CX0 2 f fd ["text"] (g9 K ad):=by
 obtain ⟨_,_,JI⟩:=T.is_sign;have JW:=iW (P:=P) (w:=w) (base:=base) T JI;refine F.F.ok ie (λvs H Q E h=>?_) (λcdv A outer s H vs Q E hr h=>?_)
 ·obtain ⟨z,rfl,_⟩:=h
  rfl
 obtain ⟨z,rfl,hz,q⟩:=h;refine ⟨_,(@pss_one _ _ _ (@ps_ret _ _ _ _ (pe_and (pe_cmpR op_eq (pe_callB call_len_str rfl T.z_len PySem.boot_len (@pa1 _ _ _ (pv 0) (0))) pe_int (nomark _)) (pe_one (pcl JI JW (hr.mono (by lia)) rfl (@pa1 _ _ _ (pv 0) (0))))))),?_⟩;refine ⟨_,rfl,z,rfl,small hz,rfl,_,rfl,ip (λe=>?_) λe=>?_⟩
 ·have e1:z.length=1:=by have:=V.int.inj e;lia
  obtain ⟨⟨cs⟩⟩:=z
  match cs,e1,q with
  | [c],_,q=>exact ⟨_,rfl,c,rfl,q⟩
 ·have e1:qi z=false:=by
   unfold qi;have hl:=xm z
   split
   ·rename_i c hc
    rw [hc] at hl;exact absurd (show V.int (z.length:Int)=V.int 1 by rw [<- hl];rfl) e
   ·rfl
  rw [<- e1];exact q
theorem af {i:Nat} {u u':Str} {A b:TS} {D:Ends} {σ:L2.St} {H:Hp} (hσ:σ[i]?=some (some (.str u'))) (hn:u'≠u) (h:b D σ H):kU (rC (iA (tOp rEq (eh i) (tC (.str u)))) A kf) b D σ H:=⟨_,hσ,rfl,_,rfl,iteN (aL hn) h⟩
theorem be {i:Nat} {u:Str} {A b:TS} {D:Ends} {σ:L2.St} {H:Hp} (hσ:σ[i]?=some (some (.str u))) (h:A { D with nx:=b D } σ H):kU (rC (iA (tOp rEq (eh i) (tC (.str u)))) A kf) b D σ H:=⟨_,hσ,rfl,_,rfl,bF h⟩
theorem qj {K:W.Frag} {H:Hp} {u1 u2:Str} {v:V} (h:IsP K H (.tup [.str u1,.str u2]) v):∃ p,v=.ref p/\SqT K H p [.str u1,.str u2]:=by
 obtain ⟨p,x,y,rfl,hp,h1,h2⟩:=gm h;rw [bp h1,bp h2] at hp;exact ⟨p,rfl,hp⟩
theorem bH {i:Nat} {u' u1 u2:Str} {K:W.Frag} {A b:TS} {D:Ends} {σ:L2.St} {H:Hp} (hσ:σ[i]?=some (some (.str u'))) (h1:u'≠u1) (h2:u'≠u2) (h:∀ H',Same H H'->b D σ H'):kU (rC (iA (tOp (rIn K false) (eh i) (kA K (bV (tC (.str u1)) (bV (tC (.str u2)) iC))))) A kf) b D σ H:=by
 refine ⟨_,hσ,[.str u1,.str u2],.cons .str (.cons .str .nil),sz2,λv H1 g1 hv=>?_⟩;obtain ⟨p,rfl,hp⟩:=qj hv;refine ⟨p,_,rfl,.inr hp,rfl,rfl,_,rfl,?_⟩;rw [show inV (V.str u') [V.str u1,.str u2]=false from by
  show (decide (u1=u') || (decide (u2=u') || false))=false;rw [decide_eq_false (Ne.symm h1),decide_eq_false (Ne.symm h2)];rfl]
 exact aI (h H1 g1)
theorem om {i:Nat} {u1 u2:Str} {K:W.Frag} {A b:TS} {D:Ends} {σ:L2.St} {H:Hp} (hσ:σ[i]?=some (some (.str u1))) (h:∀ H',Same H H'->A { D with nx:=b D } σ H'):kU (rC (iA (tOp (rIn K false) (eh i) (kA K (bV (tC (.str u1)) (bV (tC (.str u2)) iC))))) A kf) b D σ H:=by
 refine ⟨_,hσ,[.str u1,.str u2],.cons .str (.cons .str .nil),sz2,λv H1 g1 hv=>?_⟩;obtain ⟨p,rfl,hp⟩:=qj hv;refine ⟨p,_,rfl,.inr hp,rfl,rfl,_,rfl,?_⟩;rw [show inV (V.str u1) [V.str u1,.str u2]=true from by
  show (decide (u1=u1) || _)=true;rw [decide_eq_true rfl];rfl]
 exact aq (h H1 g1)
theorem l6 {i:Nat} {u1 u2:Str} {K:W.Frag} {A b:TS} {D:Ends} {σ:L2.St} {H:Hp} (hσ:σ[i]?=some (some (.str u2))) (ne:u1≠u2) (h:∀ H',Same H H'->A { D with nx:=b D } σ H'):kU (rC (iA (tOp (rIn K false) (eh i) (kA K (bV (tC (.str u1)) (bV (tC (.str u2)) iC))))) A kf) b D σ H:=by
 refine ⟨_,hσ,[.str u1,.str u2],.cons .str (.cons .str .nil),sz2,λv H1 g1 hv=>?_⟩;obtain ⟨p,rfl,hp⟩:=qj hv;refine ⟨p,_,rfl,.inr hp,rfl,rfl,_,rfl,?_⟩;rw [show inV (V.str u2) [V.str u1,.str u2]=true from by
  show (decide (u1=u2) || (decide (u2=u2) || false))=true;rw [decide_eq_false ne,decide_eq_true rfl];rfl]
 exact aq (h H1 g1)
theorem vd (a b:Str):eqD (.str a) (.str b)=decide (a=b):=by
 show (a == b)=_
 by_cases h:a=b <;> simp [h]
theorem gp (z:Str):∀ fs:List (Str×Dt),bq (fs.map prD) (.str z)=am fs z
 | []=>by simp [bq,am]
 | (n,k) :: fs=>by
  have ih:=gp z fs
  by_cases e:n=z
  ·have h1:iS (.str z) (prD (n,k))=true:=(vd n z).trans (decide_eq_true e);have h2:bq ((prD (n,k)) :: fs.map prD) (.str z)=some k:=by
    unfold bq;rw [aA6,h1]
   rw [aAH,h2];simp [am,e]
  ·have h1:iS (.str z) (prD (n,k))=false:=(vd n z).trans (decide_eq_false e);have h2:bq ((prD (n,k)) :: fs.map prD) (.str z)=bq (fs.map prD) (.str z):=by simp [bq,aA6,h1]
   rw [aAH,h2,ih];simp [am,e]
theorem xn (fs:List (Str×Dt)):∀ d∈fs.map prD,∃ z k,d=.tup [.str z,k]:=λd hd=>by
 obtain ⟨f,_,rfl⟩:=aAN.mp hd;exact ⟨_,_,rfl⟩
abbrev bf (i j:Int):Dt:=.tup [.str "number",.int i,.int j]
abbrev txD (m:Int):Dt:=.tup [.str "text",.int m]
def ma (K:W.Frag) (_:Ads):Sp:=λvs H Q _=>∃ (d:Dt) (x:V),vs=[x]/\IsP K H d x/\okD d=true/\Q (.bl (bt d 2 1000)) H
theorem fH (T:Tx K mg ad) {f:Addr} {fd:FuncData} (F:Gn K mg "is_factor" dW ["thing"] f fd):FnOk P w K mg base CX0 3 f fd ["thing"] (ma K ad):=by
 obtain ⟨_,_,IS⟩:=T.is_whole_within;have IV:=bv (P:=P) (w:=w) (base:=base) T IS;obtain ⟨t_LEAST_FACTOR,c_LEAST_FACTOR⟩:=T.LEAST_FACTOR;obtain ⟨t_GREATEST_FACTOR,c_GREATEST_FACTOR⟩:=T.GREATEST_FACTOR;refine F.F.ok mE (λvs H Q E h=>?_) (λcdv A outer s H vs Q E hr h=>?_)
 ·obtain ⟨d,x,rfl,_⟩:=h
  rfl
 obtain ⟨d,x,rfl,hd,ok,q⟩:=h;refine ⟨_,(@pss_one _ _ _ (@ps_ret _ _ _ _ (pcl IS IV (hr.mono (by lia)) rfl (@pa3 _ _ _ _ _ _ _ (pv 0) (pe_gint rfl c_LEAST_FACTOR) (pe_gint rfl c_GREATEST_FACTOR) (0) (0) (0))))),?_⟩;exact ⟨_,rfl,d,x,2,1000,rfl,hd,ok,q⟩
def jK (K:W.Frag) (_:Ads):Sp:=λvs H Q _=>∃ i j k:Int,vs=[.int i,.int j,.int k]/\2<=k/\k<=1000/\∀ v H',Same H H'->IsP K H' (.tup [bf (i / k) (j / k),bf 0 (k - 1)]) v->Q v H'
theorem eI (T:Tx K mg ad) {f:Addr} {fd:FuncData} (F:Gn K mg "part_kinds" di ["low","high","factor"] f fd):FnOk P w K mg base CX0 1 f fd ["low","high","factor"] (jK K ad):=by
 refine F.F.ok j9 (λvs H Q E h=>?_) (λcdv A outer s H vs Q E hr h=>?_)
 ·obtain ⟨i,j,k,rfl,_⟩:=h
  rfl
 obtain ⟨i,j,k,rfl,h1,h2,q⟩:=h;refine ⟨_,(@pss_one _ _ _ (@ps_ret _ _ _ _ (1,@pa2 _ _ _ _ _ (1,@pa3 _ _ _ _ _ _ _ pe_str (@pe_op _ _ _ _ _ _ _ _ fA (pv 0) (pv 2)) (@pe_op _ _ _ _ _ _ _ _ fA (pv 1) (pv 2)) (0) (0) (0)) (1,@pa3 _ _ _ _ _ _ _ pe_str pe_int (@pe_op _ _ _ _ _ _ _ _ op_sub (pv 2) pe_int) (0) (0) (0)) (0) (0)))),?_⟩;refine ⟨_,rfl,_,rfl,_,_,rfl,rfl,⟨by lia,by lia⟩,_,rfl,_,rfl,_,_,rfl,rfl,⟨by lia,by lia⟩,[.str "number",.int (i / k),.int (j / k)],.cons .str (.cons .int (.cons .int .nil)),sz3,λv1 H1 g1 hv1=>?_⟩;refine ⟨_,rfl,_,_,rfl,rfl,[.str "number",.int 0,.int (k - 1)],.cons .str (.cons .int (.cons .int .nil)),sz3,λv2 H2 g2 hv2=>?_⟩;exact ⟨[bf (i / k) (j / k),bf 0 (k - 1)],.cons (hv1.same g2) (.cons hv2 .nil),sz2,λv3 H3 g3 hv3=>q v3 H3 ((g1.trans g2).trans g3) hv3⟩
inductive Pc
 | put (z:Str) (t:List Dt) (v:Dt)
 | drop (z:Str) (v:Dt)
 | name (z y:Str)
 | sink (z y:Str)
 | lift (z y:Str)
 | turn (z:Str) (t:List Dt)
 | split (z s x y:Str)
 | join (z y s x:Str)
 | part (z:Str) (k:Int) (x y:Str)
 | whole (z y:Str) (k:Int) (x:Str) (i j:Int)
def pcD:Pc->Dt
 | .put z t v=>.tup [.str "put",.str z,.tup t,v]
 | .drop z v=>.tup [.str "drop",.str z,v]
 | .name z y=>.tup [.str "name",.str z,.str y]
 | .sink z y=>.tup [.str "sink",.str z,.str y]
 | .lift z y=>.tup [.str "lift",.str z,.str y]
 | .turn z t=>.tup [.str "turn",.str z,.tup t]
 | .split z s x y=>.tup [.str "split",.str z,.str s,.str x,.str y]
 | .join z y s x=>.tup [.str "join",.str z,.str y,.str s,.str x]
 | .part z k x y=>.tup [.str "part",.str z,.int k,.str x,.str y]
 | .whole z y k x i j=>.tup [.str "whole",.str z,.str y,.int k,.str x,.int i,.int j]
def bS:Pc->List (List Str)
 | .put _ _ _=>[]
 | .lift z y=>[[z,y]]
 | .join z y _ _=>[[z],[y]]
 | .whole z y _ _ _ _=>[[z],[y]]
 | .drop z _=>[[z]]
 | .name z _=>[[z]]
 | .sink z _=>[[z]]
 | .turn z _=>[[z]]
 | .split z _ _ _=>[[z]]
 | .part z _ _ _=>[[z]]
def mkP:Pc->List (List Str)
 | .drop _ _=>[]
 | .sink z y=>[[y,z]]
 | .name _ y=>[[y]]
 | .lift _ y=>[[y]]
 | .split _ _ x y=>[[x],[y]]
 | .part _ _ x y=>[[x],[y]]
 | .join _ _ _ x=>[[x]]
 | .whole _ _ _ x _ _=>[[x]]
 | .put z _ _=>[[z]]
 | .turn z _=>[[z]]
abbrev fI (ns:List Str):Dt:=.tup (ns.map Dt.str)
abbrev BE (K:W.Frag) (H:Hp) (a:Addr) (ps:List (List Str)):Prop:=∃ vs,H a=some (.lst vs)/\IsPs K H (ps.map fI) vs
def ja (K:W.Frag) (_:Ads):Sp:=λvs H Q _=>∃ (p:Pc) (x:V),vs=[x]/\IsP K H (pcD p) x/\∀ a H',H a=none->Same H H'->BE K H' a (bS p)->Q (.ref a) H'
theorem aX {K:W.Frag} {H H0:Hp} {z:Str} {Q:VK} (g:Same H0 H) (q:∀ a H',H0 a=none->Same H0 H'->BE K H' a [[z]]->Q (.ref a) H') {v:V} (hv:IsP K H (.str z) v):ITup K [v] H (λv2 H2=>[v2].length<=sizeLine/\∀ a,H2 a=none->Q (.ref a) (upd H2 a (.lst [v2]))) :=
 ⟨[.str z],.cons hv .nil,sz1,λv2 H2 g2 hv2=>⟨sz1,λa ha=>q a _ ((g.trans g2).free ha) ((g.trans g2).trans (ae ha _)) ⟨_,ac,.cons (hv2.same (ae ha _)) .nil⟩⟩⟩
theorem dO {K:W.Frag} {H H0:Hp} {z:Str} {v:V} (g:Same H0 H) (hv:IsP K H (.str z) v) {R:V->Hp->Prop} (q:∀ v2 H2,Same H0 H2->Same H H2->IsP K H2 (fI [z]) v2->R v2 H2):ITup K [v] H R :=
 ⟨[.str z],.cons hv .nil,sz1,λv2 H2 g2 hv2=>q v2 H2 (g.trans g2) g2 hv2⟩
theorem ck (T:Tx K mg ad) {f:Addr} {fd:FuncData} (F:Gn K mg "taken_paths" cJ ["piece"] f fd):FnOk P w K mg base CX0 1 f fd ["piece"] (ja K ad):=by
 refine F.F.ok d7 (λvs H Q E h=>?_) (λcdv A outer s H vs Q E hr h=>?_)
 ·obtain ⟨p,x,rfl,_⟩:=h
  rfl
 obtain ⟨p,x,rfl,hp,q⟩:=h;refine ⟨_,(3,@ps_set _ _ 1 _ _ _ _ d7.nd rfl (Or.inl rfl) (@pi1 K _ _ _ _ _ _ _ rfl (pv 0)) (0) (.inl rfl),(3,@ps_if _ _ _ _ _ _ _ _ (pt_cmpR op_eq (pv 1) pe_str (nomark _)) (@pss_one _ _ _ (@ps_ret _ _ _ _ (@ao _ _ _ _ cW))) pss_nil,(3,@ps_if _ _ _ _ _ _ _ _ (pt_cmpR op_eq (pv 1) pe_str (nomark _)) (@pss_one _ _ _ (@ps_ret _ _ _ _ (@ao _ _ _ _ (@pa1 _ _ _ (1,@pa2 _ _ _ _ _ (@pi1 K _ _ _ _ _ _ _ rfl (pv 0)) (@pi1 K _ _ _ _ _ _ _ rfl (pv 0)) (0) (0)) (0))))) pss_nil,(3,@ps_if _ _ _ _ _ _ _ _ (pt_cmpR (op_in_seqK (K:=K) rfl) (pv 1) (1,@pa2 _ _ _ _ _ pe_str pe_str (0) (0)) rfl) (@pss_one _ _ _ (@ps_ret _ _ _ _ (@ao _ _ _ _ (@pa2 _ _ _ _ _ (1,@pa1 _ _ _ (@pi1 K _ _ _ _ _ _ _ rfl (pv 0)) (0)) (1,@pa1 _ _ _ (@pi1 K _ _ _ _ _ _ _ rfl (pv 0)) (0)) (0) (0))))) pss_nil,@pss_one _ _ _ (@ps_ret _ _ _ _ (@ao _ _ _ _ (@pa1 _ _ _ (1,@pa1 _ _ _ (@pi1 K _ _ _ _ _ _ _ rfl (pv 0)) (0)) (0)))))))),?_⟩
 cases p with
 | put z t v =>
  refine ⟨_,rfl,_,_,_,hp,rfl,rfl,isS ?_⟩;refine be rfl ?_;exact ⟨(by show 0<=sizeLine;decide),λa ha=>q a _ ha (ae ha _) ⟨_,ac,.nil⟩⟩
 | lift z y =>
  refine ⟨_,rfl,_,_,_,hp,rfl,rfl,isS ?_⟩;refine af rfl (by decide) ?_;refine be rfl ?_;refine ⟨_,rfl,_,_,_,hp,rfl,rfl,λv1 hv1=>⟨_,rfl,_,_,_,hp,rfl,rfl,λv2 hv2=>?_⟩⟩;exact ⟨[.str z,.str y],.cons hv1 (.cons hv2 .nil),sz2,λv3 H3 g3 hv3=>⟨sz1,λa ha=>q a _ (g3.free ha) (g3.trans (ae ha _)) ⟨_,ac,.cons (hv3.same (ae ha _)) .nil⟩⟩⟩
 | drop z v =>
  refine ⟨_,rfl,_,_,_,hp,rfl,rfl,isS ?_⟩;refine af rfl (by decide) (af rfl (by decide) (bH rfl (by decide) (by decide) λH1 g1=>?_));exact ⟨_,rfl,_,_,_,hp.same g1,rfl,rfl,λv hv=>aX g1 q hv⟩
 | name z y =>
  refine ⟨_,rfl,_,_,_,hp,rfl,rfl,isS ?_⟩;refine af rfl (by decide) (af rfl (by decide) (bH rfl (by decide) (by decide) λH1 g1=>?_));exact ⟨_,rfl,_,_,_,hp.same g1,rfl,rfl,λv hv=>aX g1 q hv⟩
 | sink z y =>
  refine ⟨_,rfl,_,_,_,hp,rfl,rfl,isS ?_⟩;refine af rfl (by decide) (af rfl (by decide) (bH rfl (by decide) (by decide) λH1 g1=>?_));exact ⟨_,rfl,_,_,_,hp.same g1,rfl,rfl,λv hv=>aX g1 q hv⟩
 | turn z t =>
  refine ⟨_,rfl,_,_,_,hp,rfl,rfl,isS ?_⟩;refine af rfl (by decide) (af rfl (by decide) (bH rfl (by decide) (by decide) λH1 g1=>?_));exact ⟨_,rfl,_,_,_,hp.same g1,rfl,rfl,λv hv=>aX g1 q hv⟩
 | split z s x y =>
  refine ⟨_,rfl,_,_,_,hp,rfl,rfl,isS ?_⟩;refine af rfl (by decide) (af rfl (by decide) (bH rfl (by decide) (by decide) λH1 g1=>?_));exact ⟨_,rfl,_,_,_,hp.same g1,rfl,rfl,λv hv=>aX g1 q hv⟩
 | part z k x y =>
  refine ⟨_,rfl,_,_,_,hp,rfl,rfl,isS ?_⟩;refine af rfl (by decide) (af rfl (by decide) (bH rfl (by decide) (by decide) λH1 g1=>?_));exact ⟨_,rfl,_,_,_,hp.same g1,rfl,rfl,λv hv=>aX g1 q hv⟩
 | join z y s x =>
  refine ⟨_,rfl,_,_,_,hp,rfl,rfl,isS ?_⟩;refine af rfl (by decide) (af rfl (by decide) (om rfl λH1 g1=>?_));refine ⟨_,rfl,_,_,_,hp.same g1,rfl,rfl,λv hv=>dO g1 hv λv2 H2 g2 _ hv2=>?_⟩;refine ⟨_,rfl,_,_,_,hp.same g2,rfl,rfl,λv' hv'=>dO g2 hv' λv3 H3 g3 k3 hv3=>?_⟩;exact ⟨sz2,λa ha=>q a _ (g3.free ha) (g3.trans (ae ha _)) ⟨_,ac,.cons ((hv2.same k3).same (ae ha _)) (.cons (hv3.same (ae ha _)) .nil)⟩⟩
 | whole z y k x i j =>
  refine ⟨_,rfl,_,_,_,hp,rfl,rfl,isS ?_⟩;refine af rfl (by decide) (af rfl (by decide) (l6 rfl (by decide) λH1 g1=>?_));refine ⟨_,rfl,_,_,_,hp.same g1,rfl,rfl,λv hv=>dO g1 hv λv2 H2 g2 _ hv2=>?_⟩;refine ⟨_,rfl,_,_,_,hp.same g2,rfl,rfl,λv' hv'=>dO g2 hv' λv3 H3 g3 k3 hv3=>?_⟩;exact ⟨sz2,λa ha=>q a _ (g3.free ha) (g3.trans (ae ha _)) ⟨_,ac,.cons ((hv2.same k3).same (ae ha _)) (.cons (hv3.same (ae ha _)) .nil)⟩⟩
def jL (K:W.Frag) (_:Ads):Sp:=λvs H Q _=>∃ (p:Pc) (x:V),vs=[x]/\IsP K H (pcD p) x/\∀ a H',H a=none->Same H H'->BE K H' a (mkP p)->Q (.ref a) H'
theorem eJ (T:Tx K mg ad) {f:Addr} {fd:FuncData} (F:Gn K mg "made_paths" df ["piece"] f fd):FnOk P w K mg base CX0 1 f fd ["piece"] (jL K ad):=by
 refine F.F.ok eP (λvs H Q E h=>?_) (λcdv A outer s H vs Q E hr h=>?_)
 ·obtain ⟨p,x,rfl,_⟩:=h
  rfl
 obtain ⟨p,x,rfl,hp,q⟩:=h;refine ⟨_,(3,@ps_set _ _ 1 _ _ _ _ eP.nd rfl (Or.inl rfl) (@pi1 K _ _ _ _ _ _ _ rfl (pv 0)) (0) (.inl rfl),(3,@ps_if _ _ _ _ _ _ _ _ (pt_cmpR op_eq (pv 1) pe_str (nomark _)) (@pss_one _ _ _ (@ps_ret _ _ _ _ (@ao _ _ _ _ cW))) pss_nil,(3,@ps_if _ _ _ _ _ _ _ _ (pt_cmpR op_eq (pv 1) pe_str (nomark _)) (@pss_one _ _ _ (@ps_ret _ _ _ _ (@ao _ _ _ _ (@pa1 _ _ _ (1,@pa2 _ _ _ _ _ (@pi1 K _ _ _ _ _ _ _ rfl (pv 0)) (@pi1 K _ _ _ _ _ _ _ rfl (pv 0)) (0) (0)) (0))))) pss_nil,(3,@ps_if _ _ _ _ _ _ _ _ (pt_cmpR (op_in_seqK (K:=K) rfl) (pv 1) (1,@pa2 _ _ _ _ _ pe_str pe_str (0) (0)) rfl) (@pss_one _ _ _ (@ps_ret _ _ _ _ (@ao _ _ _ _ (@pa1 _ _ _ (1,@pa1 _ _ _ (@pi1 K _ _ _ _ _ _ _ rfl (pv 0)) (0)) (0))))) pss_nil,(3,@ps_if _ _ _ _ _ _ _ _ (pt_cmpR (op_in_seqK (K:=K) rfl) (pv 1) (1,@pa2 _ _ _ _ _ pe_str pe_str (0) (0)) rfl) (@pss_one _ _ _ (@ps_ret _ _ _ _ (@ao _ _ _ _ (@pa2 _ _ _ _ _ (1,@pa1 _ _ _ (@pi1 K _ _ _ _ _ _ _ rfl (pv 0)) (0)) (1,@pa1 _ _ _ (@pi1 K _ _ _ _ _ _ _ rfl (pv 0)) (0)) (0) (0))))) pss_nil,(3,@ps_if _ _ _ _ _ _ _ _ (pt_cmpR (op_in_seqK (K:=K) rfl) (pv 1) (1,@pa2 _ _ _ _ _ pe_str pe_str (0) (0)) rfl) (@pss_one _ _ _ (@ps_ret _ _ _ _ (@ao _ _ _ _ (@pa1 _ _ _ (1,@pa1 _ _ _ (@pi1 K _ _ _ _ _ _ _ rfl (pv 0)) (0)) (0))))) pss_nil,@pss_one _ _ _ (@ps_ret _ _ _ _ (@ao _ _ _ _ (@pa1 _ _ _ (1,@pa1 _ _ _ (@pi1 K _ _ _ _ _ _ _ rfl (pv 0)) (0)) (0)))))))))),?_⟩
 cases p with
 | drop z v =>
  refine ⟨_,rfl,_,_,_,hp,rfl,rfl,isS ?_⟩;refine be rfl ?_;exact ⟨(by show 0<=sizeLine;decide),λa ha=>q a _ ha (ae ha _) ⟨_,ac,.nil⟩⟩
 | sink z y =>
  refine ⟨_,rfl,_,_,_,hp,rfl,rfl,isS ?_⟩;refine af rfl (by decide) ?_;refine be rfl ?_;refine ⟨_,rfl,_,_,_,hp,rfl,rfl,λv1 hv1=>⟨_,rfl,_,_,_,hp,rfl,rfl,λv2 hv2=>?_⟩⟩;exact ⟨[.str y,.str z],.cons hv1 (.cons hv2 .nil),sz2,λv3 H3 g3 hv3=>⟨sz1,λa ha=>q a _ (g3.free ha) (g3.trans (ae ha _)) ⟨_,ac,.cons (hv3.same (ae ha _)) .nil⟩⟩⟩
 | name z y =>
  refine ⟨_,rfl,_,_,_,hp,rfl,rfl,isS ?_⟩;refine af rfl (by decide) (af rfl (by decide) (om rfl λH1 g1=>?_));exact ⟨_,rfl,_,_,_,hp.same g1,rfl,rfl,λv hv=>aX g1 q hv⟩
 | lift z y =>
  refine ⟨_,rfl,_,_,_,hp,rfl,rfl,isS ?_⟩;refine af rfl (by decide) (af rfl (by decide) (l6 rfl (by decide) λH1 g1=>?_));exact ⟨_,rfl,_,_,_,hp.same g1,rfl,rfl,λv hv=>aX g1 q hv⟩
 | split z s x y =>
  refine ⟨_,rfl,_,_,_,hp,rfl,rfl,isS ?_⟩;refine af rfl (by decide) (af rfl (by decide) (bH rfl (by decide) (by decide) λH0 g0=>om rfl λH1 k1=>?_));have g1:=g0.trans k1;refine ⟨_,rfl,_,_,_,hp.same g1,rfl,rfl,λv hv=>dO g1 hv λv2 H2 g2 _ hv2=>?_⟩;refine ⟨_,rfl,_,_,_,hp.same g2,rfl,rfl,λv' hv'=>dO g2 hv' λv3 H3 g3 k3 hv3=>?_⟩;exact ⟨sz2,λa ha=>q a _ (g3.free ha) (g3.trans (ae ha _)) ⟨_,ac,.cons ((hv2.same k3).same (ae ha _)) (.cons (hv3.same (ae ha _)) .nil)⟩⟩
 | part z k x y =>
  refine ⟨_,rfl,_,_,_,hp,rfl,rfl,isS ?_⟩;refine af rfl (by decide) (af rfl (by decide) (bH rfl (by decide) (by decide) λH0 g0=>l6 rfl (by decide) λH1 k1=>?_));have g1:=g0.trans k1;refine ⟨_,rfl,_,_,_,hp.same g1,rfl,rfl,λv hv=>dO g1 hv λv2 H2 g2 _ hv2=>?_⟩;refine ⟨_,rfl,_,_,_,hp.same g2,rfl,rfl,λv' hv'=>dO g2 hv' λv3 H3 g3 k3 hv3=>?_⟩;exact ⟨sz2,λa ha=>q a _ (g3.free ha) (g3.trans (ae ha _)) ⟨_,ac,.cons ((hv2.same k3).same (ae ha _)) (.cons (hv3.same (ae ha _)) .nil)⟩⟩
 | join z y s x =>
  refine ⟨_,rfl,_,_,_,hp,rfl,rfl,isS ?_⟩;refine af rfl (by decide) (af rfl (by decide) (bH rfl (by decide) (by decide) λH0 g0=>bH rfl (by decide) (by decide) λH1 k1=>om rfl λH2 k2=>?_));have g2:=(g0.trans k1).trans k2;exact ⟨_,rfl,_,_,_,hp.same g2,rfl,rfl,λv hv=>aX g2 q hv⟩
 | whole z y k x i j =>
  refine ⟨_,rfl,_,_,_,hp,rfl,rfl,isS ?_⟩;refine af rfl (by decide) (af rfl (by decide) (bH rfl (by decide) (by decide) λH0 g0=>bH rfl (by decide) (by decide) λH1 k1=>l6 rfl (by decide) λH2 k2=>?_));have g2:=(g0.trans k1).trans k2;exact ⟨_,rfl,_,_,_,hp.same g2,rfl,rfl,λv hv=>aX g2 q hv⟩
 | put z t v =>
  refine ⟨_,rfl,_,_,_,hp,rfl,rfl,isS ?_⟩;refine af rfl (by decide) (af rfl (by decide) (bH rfl (by decide) (by decide) λH0 g0=>bH rfl (by decide) (by decide) λH1 k1=>bH rfl (by decide) (by decide) λH2 k2=>?_));have g2:=(g0.trans k1).trans k2;exact ⟨_,rfl,_,_,_,hp.same g2,rfl,rfl,λv hv=>aX g2 q hv⟩
 | turn z t =>
  refine ⟨_,rfl,_,_,_,hp,rfl,rfl,isS ?_⟩;refine af rfl (by decide) (af rfl (by decide) (bH rfl (by decide) (by decide) λH0 g0=>bH rfl (by decide) (by decide) λH1 k1=>bH rfl (by decide) (by decide) λH2 k2=>?_));have g2:=(g0.trans k1).trans k2;exact ⟨_,rfl,_,_,_,hp.same g2,rfl,rfl,λv hv=>aX g2 q hv⟩
inductive KT:Dt->Prop
 | rc {gs:List (Str×Dt)}:(gs.map (·.1)).Pairwise ltS->gs.length<=7->(∀ g∈gs,KT g.2)->(aF gs).dep<=50->KT (aF gs)
 | lf {u:Str} {l:List Dt}:u≠ "record" ->(Dt.tup (.str u :: l)).dep<=50->KT (.tup (.str u :: l))
def eC (d:Dt) (z:Str):Option Dt:=match d with
 | .tup (.str w :: .tup fs :: _)=>if w= "record" then bq fs (.str z) else none
 | _=>none
theorem qk (gs:List (Str×Dt)) (z:Str):eC (aF gs) z=am gs z:=by
 show (if (Str.ofString "record")= "record" then bq (gs.map prD) (.str z) else none)=_;rw [if_pos rfl,gp]
theorem ql {u:Str} {l:List Dt} (h:u≠ "record") (z:Str):eC (.tup (.str u :: l)) z=none:=by
 unfold eC
 split
 ·rename_i heq
  simp only [Dt.tup.injEq,List.cons.injEq,Dt.str.injEq] at heq;rw [if_neg (heq.1 ▸ h)]
 ·rfl
theorem md {z:Str} {d:Dt}:∀ {gs:List (Str×Dt)},am gs z=some d->(z,d)∈gs
 | [],h=>by simp [am] at h
 | g :: gs,h=>by
  by_cases e:g.1=z
  ·have e2:am (g :: gs) z=some g.2:=by simp [am,e]
   rw [e2] at h
   cases h
   subst e;exact aAh
  ·have e2:am (g :: gs) z=am gs z:=by simp [am,e]
   rw [e2] at h;exact aAj _ (md h)
theorem KT.fld {d e:Dt} {z:Str} (h:KT d) (hf:eC d z=some e):KT e:=by
 cases h with
 | rc _ _ hk _=>rw [qk] at hf;exact hk _ (md hf)
 | lf hu _=>rw [ql hu] at hf;cases hf
theorem KT.tup {d:Dt} (h:KT d):∃ u l,d=.tup (.str u :: l)/\d.dep<=50:=by
 cases h with
 | rc _ _ _ h=>exact ⟨_,_,rfl,h⟩
 | lf _ h=>exact ⟨_,_,rfl,h⟩
theorem xR {P:Program} {w:World} {K:W.Frag} {mg:Str->Option Value} {base:Heap} {CX:CXT} {k:Nat} {f:Addr} {fd:FuncData} {ps:List Str} {s1 s2:Sp} (F:FnOk P w K mg base CX k f fd ps s1) (G:FnOk P w K mg base CX k f fd ps s2):FnOk P w K mg base CX k f fd ps (λvs H Q E=>s1 vs H Q E\/s2 vs H Q E) :=
 ⟨λvs H Q E h=>h.elim (F.len vs H Q E) (G.len vs H Q E),λA outer s H args us vs Q E hr he hb hv hs=>hs.elim (F.run A outer s H args us vs Q E hr he hb hv) (G.run A outer s H args us vs Q E hr he hb hv)⟩
def HX (K:W.Frag):Sp:=λvs H Q _=>∃ (d:Dt) (z:Str) (x:V),vs=[x,.str z]/\IsP K H d x/\KT d/\Br K H (eC d z) Q
def BF (K:W.Frag):Sp:=λvs H Q _=>∃ (u:Str) (l:List Dt) (z:Str) (x:V),vs=[x,.str z]/\IsP K H (.tup (.str u :: l)) x/\u≠ "record" /\Q .non H
theorem BG (T:Tx K mg ad) {f:Addr} {fd:FuncData} (F:Gn K mg "field_kind" bD ["kind","name"] f fd):FnOk P w K mg base CX0 1 f fd ["kind","name"] (BF K):=by
 refine F.F.ok aZ (λvs H Q E h=>?_) (λcdv A outer s H vs Q E hr h=>?_)
 ·obtain ⟨u,l,z,x,rfl,_⟩:=h
  rfl
 obtain ⟨u,l,z,x,rfl,hx,hu,q⟩:=h;refine ⟨_,(@pss_cons _ _ _ _ _ (@ps_if _ _ _ _ _ _ _ _ (pt_cmpR op_ne (@pi1 K _ _ _ _ _ _ _ rfl (pv 0)) pe_str (nomark _)) (@pss_one _ _ _ (@ps_ret _ _ _ _ pe_non)) pss_nil) (@pss_cons _ _ _ _ _ (ps_for PassesOwn.never rfl (bM (K:=K) rfl (@pi1 K _ _ _ _ _ _ _ rfl (pv 0))) (fX rfl (aH (ai (i:=2) aZ.nd rfl (Or.inl rfl)) (aH (ai (i:=3) aZ.nd rfl (Or.inl rfl)) bW)))
    (@pss_one _ _ _ (@ps_if _ _ _ _ _ _ _ _ (pt_cmpR (io (K:=K) rfl hr.units) (pv 2) (pv 1) (nomark _)) (@pss_one _ _ _ (@ps_ret _ _ _ _ (pv 3))) pss_nil))) (@pss_one _ _ _ (@ps_ret _ _ _ _ pe_non)))),?_⟩
 refine ⟨_,rfl,_,_,_,hx,rfl,at0 _ _,isS ?_⟩;exact ⟨rfl,_,rfl,nX (aL hu) q⟩
theorem xS (T:Tx K mg ad) {f:Addr} {fd:FuncData} (F:Gn K mg "field_kind" bD ["kind","name"] f fd):FnOk P w K mg base CX0 1 f fd ["kind","name"] (HX K):=by
 refine (xR (eG (P:=P) (w:=w) (base:=base) T F) (BG T F)).imp λvs H Q E h=>?_;obtain ⟨d,z,x,rfl,hx,kt,q⟩:=h
 cases kt with
 | rc _ _ _ _ =>
  rename_i gs _ _ _ _
  refine .inl ⟨gs.map prD,.str z,x,.str z,rfl,hx,.str,xn gs,?_⟩;rw [qk] at q;rw [gp];exact q
 | lf hu _ =>
  rw [ql hu] at q;exact .inr ⟨_,_,z,x,rfl,hx,hu,q⟩
def aT (o:Option Dt) (ns:List Str):Option Dt:=ns.foldl (λo z=>o.bind λd=>eC d z) o
theorem kN (ns:List Str):aT none ns=none:=by
 induction ns with
 | nil=>rfl
 | cons z ns ih=>exact ih
theorem iq {d:Dt} (h:KT d):∀ {ns:List Str} {e:Dt},aT (some d) ns=some e->KT e:=by
 intro ns
 induction ns generalizing d with
 | nil=>intro e h2;cases h2;exact h
 | cons z ns ih =>
  intro e h2;have h3:aT (eC d z) ns=some e:=h2
  cases hf:eC d z with
  | none=>rw [hf,kN] at h3;cases h3
  | some d'=>rw [hf] at h3;exact ih (h.fld hf) h3
theorem kO {o:Option Dt} {ns:List Str} {i:Nat} {z:Str} (h:ns[i]?=some z):aT o (ns.take (i+1))=(aT o (ns.take i)).bind λd=>eC d z:=by
 rw [aAM,h];unfold aT;rw [List.foldl_append]
 rfl
def me (K:W.Frag) (_:Ads):Sp:=λvs H Q _=>∃ (d:Dt) (ns:List Str) (x y:V),vs=[x,y]/\IsP K H d x/\IsP K H (fI ns) y/\KT d/\∀ v,IsO K H (aT (some d) ns) v->Q v H
theorem fJ (T:Tx K mg ad) {f:Addr} {fd:FuncData} (F:Gn K mg "kind_down" dX ["kind","path"] f fd):FnOk P w K mg base CX0 2 f fd ["kind","path"] (me K ad):=by
 obtain ⟨_,_,Jb⟩:=T.field_kind;have Jr:=xS (P:=P) (w:=w) (base:=base) T Jb;refine F.F.ok b6 (λvs H Q E h=>?_) (λcdv A outer s H vs Q E hr h=>?_)
 ·obtain ⟨d,ns,x,y,rfl,_⟩:=h
  rfl
 obtain ⟨d,ns,x,y,rfl,hx,hy,kt,q⟩:=h;refine ⟨_,(@pss_cons _ _ _ _ _ (@ps_set _ _ 2 _ _ _ _ b6.nd rfl (Or.inl rfl) (pv 0) (0) (.inl rfl)) (@pss_cons _ _ _ _ _ (ps_for PassesOwn.never rfl (bM (K:=K) rfl (pv 1)) (ai (i:=3) b6.nd rfl (Or.inl rfl))
    (@pss_one _ _ _ (@ps_set _ _ 2 _ _ _ _ b6.nd rfl (Or.inl rfl) (mI (pt_cmpR op_isN (pv 2) pe_non (nomark _)) pe_non (pcl Jb Jr (hr.mono (by lia)) rfl (@pa2 _ _ _ _ _ (pv 2) (pv 3) (0) (0)))) (0) (.inl rfl)))) (@pss_one _ _ _ (@ps_ret _ _ _ _ (pv 2))))),?_⟩
 obtain ⟨a,xs,rfl,ha,pa,ra⟩:=hy.unref;have el:=ra.length;rw [aAe] at el;refine ⟨_,rfl,_,rfl,a,rfl,⟨xs,ha⟩,ig (xs:=xs) (λi σ H'=>H'=H/\∃ v v1,IsO K H (aT (some d) (ns.take i)) v/\σ=[some x,some (.ref a),some v,v1]) ⟨rfl,_,_,hx,rfl⟩ (λi σ H' _ p=>p.1 ▸ ha) ?_ ?_⟩
 ·rintro i u σ H' hu ⟨rfl,v,v1,hv,rfl⟩;obtain ⟨e,he,hp⟩:=ra.get' hu;rw [aAt] at he;obtain ⟨z,hz,rfl⟩:=aAu.mp he;obtain rfl:=bp hp;have nx:=kO (o:=some d) hz;refine ⟨_,rfl,rfl,_,rfl,?_⟩
  cases hd:aT (some d) (ns.take i) with
  | none =>
   rw [hd] at hv nx;obtain rfl:v=.non:=hv;refine bF ⟨rfl,.non,_,?_,rfl⟩;rw [nx]
   rfl
  | some e =>
   rw [hd] at hv nx;have ke:=iq kt hd;obtain ⟨u',l',rfl,_⟩:=ke.tup;obtain ⟨b,ys,rfl,_⟩:=id (IsP.unref (show IsP K _ (.tup (.str u' :: l')) v from hv));refine iteN (by intro c;cases c) ?_;refine ⟨_,rfl,_,rfl,_,z,.ref b,rfl,hv,ke,?_⟩;have nx':aT (some d) (ns.take (i+1))=eC (.tup (.str u' :: l')) z:=nx
   cases hf:eC (.tup (.str u' :: l')) z with
   | none=>exact ⟨rfl,.non,_,by rw [nx',hf];rfl,rfl⟩
   | some e'=>exact λv' hv'=>⟨rfl,v',_,by rw [nx',hf];exact hv',rfl⟩
 ·rintro σ H' ⟨rfl,v,v1,hv,rfl⟩;rw [<- el,aAB] at hv;exact ⟨_,rfl,q v hv⟩
def jM (K:W.Frag) (_:Ads):Sp:=λvs H Q _=>∃ (d e:Dt) (ns:List Str) (x y:V),vs=[x,y]/\IsP K H d x/\IsP K H (fI ns) y/\KT d/\aT (some d) ns=some e/\∀ v,IsP K H e v->Q v H
theorem ve {d e:Dt} {ns:List Str} (h:aT (some d) ns=some e) {i:Nat} {z:Str} (hz:ns[i]?=some z):∃ d1 d2,aT (some d) (ns.take i)=some d1/\eC d1 z=some d2/\aT (some d) (ns.take (i+1))=some d2:=by
 have e1:ns=ns.take (i+1)++ns.drop (i+1):=(List.take_append_drop _ _).symm;have nx:=kO (o:=some d) hz;have h2:aT (aT (some d) (ns.take (i+1))) (ns.drop (i+1))=some e:=by
  rw [e1] at h;unfold aT at h ⊢;rw [List.foldl_append] at h;exact h
 cases h3:aT (some d) (ns.take (i+1)) with
 | none=>rw [h3,kN] at h2;cases h2
 | some d2 =>
  rw [h3] at nx
  cases h4:aT (some d) (ns.take i) with
  | none=>rw [h4] at nx;cases nx
  | some d1=>rw [h4] at nx;exact ⟨d1,d2,rfl,nx.symm,rfl⟩
theorem jN (T:Tx K mg ad) {f:Addr} {fd:FuncData} (F:Gn K mg "value_down" dm ["record","path"] f fd):FnOk P w K mg base CX0 2 f fd ["record","path"] (jM K ad):=by
 obtain ⟨_,_,Ji⟩:=T.field_of;have JE:=dM (P:=P) (w:=w) (base:=base) T Ji;refine F.F.ok bN (λvs H Q E h=>?_) (λcdv A outer s H vs Q E hr h=>?_)
 ·obtain ⟨d,e,ns,x,y,rfl,_⟩:=h
  rfl
 obtain ⟨d,e,ns,x,y,rfl,hx,hy,kt,hd,q⟩:=h;refine ⟨_,(@pss_cons _ _ _ _ _ (@ps_set _ _ 2 _ _ _ _ bN.nd rfl (Or.inl rfl) (pv 0) (0) (.inl rfl)) (@pss_cons _ _ _ _ _ (ps_for PassesOwn.never rfl (bM (K:=K) rfl (pv 1)) (ai (i:=3) bN.nd rfl (Or.inl rfl))
    (@pss_one _ _ _ (@ps_set _ _ 2 _ _ _ _ bN.nd rfl (Or.inl rfl) (pcl Ji JE (hr.mono (by lia)) rfl (@pa2 _ _ _ _ _ (pv 2) (pv 3) (0) (0))) (0) (.inl rfl)))) (@pss_one _ _ _ (@ps_ret _ _ _ _ (pv 2))))),?_⟩
 obtain ⟨a,xs,rfl,ha,pa,ra⟩:=hy.unref;have el:=ra.length;rw [aAe] at el;refine ⟨_,rfl,_,rfl,a,rfl,⟨xs,ha⟩,ig (xs:=xs) (λi σ H'=>H'=H/\∃ v v1,IsO K H (aT (some d) (ns.take i)) v/\σ=[some x,some (.ref a),some v,v1]) ⟨rfl,_,_,hx,rfl⟩ (λi σ H' _ p=>p.1 ▸ ha) ?_ ?_⟩
 ·rintro i u σ H' hu ⟨rfl,v,v1,hv,rfl⟩;obtain ⟨e,he,hp⟩:=ra.get' hu;rw [aAt] at he;obtain ⟨z,hz,rfl⟩:=aAu.mp he;obtain rfl:=bp hp;obtain ⟨d1,d2,h1,h2,h3⟩:=ve hd hz;rw [h1] at hv;have k1:=iq kt h1
  cases k1 with
  | lf hu _=>rw [ql hu] at h2;cases h2
  | rc _ _ _ _ =>
   rename_i gs _ _ _ _
   rw [qk] at h2;exact ⟨_,rfl,_,rfl,gs,z,d2,v,rfl,hv,h2,λv' hv'=>⟨rfl,v',_,by rw [h3];exact hv',rfl⟩⟩
 ·rintro σ H' ⟨rfl,v,v1,hv,rfl⟩;rw [<- el,aAB,hd] at hv;exact ⟨_,rfl,q v hv⟩
def qm (K:W.Frag) (_:Ads):Sp:=λvs H Q _=>∃ (d:Dt) (x:V),vs=[x]/\IsP K H d x/\okD d=true/\((au 5 d=false/\∀ H',Same H H'->Q (.bl false) H')\/∃ a c,FK a c d/\a<=5/\c<=40/\∀ H',Same H H'->Q (.bl true) H')
theorem qo (T:Tx K mg ad) {f:Addr} {fd:FuncData} (F:Gn K mg "is_kind" gC ["thing"] f fd):FnOk P w K mg base CX0 23 f fd ["thing"] (qm K ad):=by
 obtain ⟨_,_,IT⟩:=T.made_kind;have Jw:=c6 (P:=P) (w:=w) (base:=base) T IT;refine F.F.ok qB (λvs H Q E h=>?_) (λcdv A outer s H vs Q E hr h=>?_)
 ·obtain ⟨d,x,rfl,_⟩:=h
  rfl
 obtain ⟨d,x,rfl,hd,ok,q⟩:=h;refine ⟨_,(3,wR rfl rfl (lB (HM Jw) (hr.mono (by first | decide | lia)) rfl IT.m IT.F.kp IT.b (@pa1 _ _ _ (pv 0) (0))) (HS.cons T.x_BadKind.m rfl (λ_=>(@pss_one _ _ _ (@ps_ret _ _ _ _ pe_bl))) HS.nil),@pss_one _ _ _ (@ps_ret _ _ _ _ pe_bl)),?_⟩;rcases q with ⟨bad,q⟩ | ⟨a,c,fk,ha,hc,q⟩
 ·refine ⟨_,rfl,d,x,rfl,hd,ok,.inl ⟨bad,λH1 g1=>?_⟩⟩;exact ⟨ad.BadKind,rfl,true,T.exk,λ_=>q H1 g1,λz=>by cases z⟩
 ·exact ⟨_,rfl,d,x,rfl,hd,ok,.inr ⟨a,c,fk,ha,λ_ H1 g1=>q H1 g1,λz=>by lia⟩⟩
theorem xp (n:Nat):(List.replicate n true).all id=true:=aAR.mpr λb hb=>(List.mem_replicate.mp hb).2 ▸ rfl
def vf (v:Dt) (m:Int):Prop:=(∃ i,v=.int i)\/∃ z:Str,v=.str z/\z.length<=1000/\((z.length:Int)<=m->okT z)
def qp (v:Dt) (m:Int):Bool:=match v with
 | .str z=>decide ((z.length:Int)<=m)
 | _=>false
def jO (K:W.Frag) (_:Ads):Sp:=λvs H Q _=>∃ (v:Dt) (x:V) (m:Int),vs=[x,.int m]/\IsP K H v x/\vf v m/\m<=60/\∀ H',Same H H'->Q (.bl (qp v m)) H'
theorem jP (T:Tx K mg ad) {f:Addr} {fd:FuncData} (F:Gn K mg "is_text_of" c9 ["value","most"] f fd):FnOk P w K mg base CX0 2 f fd ["value","most"] (jO K ad):=by
 obtain ⟨_,_,JI⟩:=T.is_sign;have JW:=iW (P:=P) (w:=w) (base:=base) T JI;refine F.F.ok j7 (λvs H Q E h=>?_) (λcdv A outer s H vs Q E hr h=>?_)
 ·obtain ⟨v,x,m,rfl,_⟩:=h
  rfl
 obtain ⟨v,x,m,rfl,hv,lf,m60,q⟩:=h;refine ⟨_,(3,@ps_if _ _ _ _ _ _ _ _ (PW.pt (@pw_or _ _ _ _ _ _ _ (@pt_not _ _ _ _ (@pt_val _ _ _ (pe_callB (ay (K:=K) rfl) rfl T.z_isinstance boot_isinstance (@pa2 _ _ _ _ _ (pv 0) (bo rfl T.z_str boot_str) (0) (0))) (by intro _;rfl))) (@pw_or1 _ _ _ _ (pt_cmpR op_gt (pe_callB call_len_str rfl T.z_len PySem.boot_len (@pa1 _ _ _ (pv 0) (0))) (pv 1) (nomark _))))) (@pss_one _ _ _ (@ps_ret _ _ _ _ pe_bl)) pss_nil,@pss_one _ _ _ (@ps_ret _ _ _ _ (pe_callB (call_allN (K:=K) rfl rfl) rfl T.z_all boot_all (@pa1 _ _ _ (bA rfl (cs0 (NL:=["letter"]) rfl (by decide +kernel) (by decide +kernel)) (tV (pv 0)) (λ_ _ _ _=>(ai (i:=0) (show List.Nodup (α:=Str) ["letter"] by decide +kernel) rfl (Or.inl rfl))) (λ_ _ _ _=>(pcl JI JW (hr.mono (by lia)) rfl (@pa1 _ _ _ (pv 0) (0))))) (0))))),?_⟩;rcases lf with ⟨i,rfl⟩ | ⟨z,rfl,lz,ok⟩
 ·cases hv
  exact ⟨_,rfl,_,_,_,rfl,.int_str,_,rfl,aq (aq (q H (Same.refl H)))⟩
 ·obtain rfl:=bp hv;refine ⟨_,rfl,_,_,_,rfl,.str_str,_,rfl,aI ?_⟩;refine ⟨_,rfl,z,rfl,small lz,_,rfl,_,_,rfl,rfl,_,rfl,?_⟩
  by_cases c:(z.length:Int)<=m
  ·rw [decide_eq_false (by lia)];refine aI ?_;have ok:=ok c;have e1:qp (.str z) m=true:=decide_eq_true c;rw [e1] at q;refine ⟨_,rfl,_,rfl,λl hln=>?_⟩;refine sy (λj ys σ H'=>ys=bls (List.replicate j true)/\j<=60/\Same H H'/\H' l=some (.lst ys)/\∃ v1,σ=[v1]) ⟨rfl,aAF _,ae hln _,ac,none,rfl⟩ ?_ ?_
   ·rintro j c ys σ H1 N hc ⟨rfl,hj,g1,e1,v1,rfl⟩ next;have hj2:j < z.cps.size:=(aAS.mp hc).1;have hz:z.cps.size=z.length:=rfl;have hm:c∈z.cps.toList:=Array.mem_toList_iff.mpr (Array.mem_of_getElem? hc);refine ⟨_,rfl,c,rfl,?_⟩;rw [ok c hm];refine ⟨e1,?_,next _ _ _ ⟨?_,by lia,aS hln g1,ac,_,rfl⟩⟩
    ·rw [bls,aAe,aBq];exact aj (by lia)
    ·unfold bls;rw [List.replicate_succ',aA0]
     rfl
   ·rintro ys σ H1 ⟨rfl,hj,g1,e1,v1,rfl⟩;refine ⟨l,_,rfl,rfl,SqL.of e1,?_⟩;rw [xp];exact q H1 g1
  ·rw [decide_eq_true (by lia)];have e1:qp (.str z) m=false:=decide_eq_false c;rw [e1] at q;exact aq (q H (Same.refl H))
inductive OfK:Dt->Dt->Bool->Prop
 | num {i j:Int} {v:Dt}:okD v=true->OfK v (bf i j) (bt v i j)
 | txt {m:Int} {v:Dt}:vf v m->m<=60->OfK v (txD m) (qp v m)
def vg (K:W.Frag) (_:Ads):Sp:=λvs H Q _=>∃ (v d:Dt) (b:Bool) (x y:V),vs=[x,y]/\IsP K H v x/\IsP K H d y/\OfK v d b/\∀ H',Same H H'->Q (.bl b) H'
theorem cG {K:W.Frag} {H:Hp} {i:Int} {v:V} (h:IsP K H (.int i) v):v=.int i:=by cases h;rfl
theorem vh (T:Tx K mg ad) {f:Addr} {fd:FuncData} (F:Gn K mg "is_of" mq ["value","kind"] f fd):FnOk P w K mg base CX0 3 f fd ["value","kind"] (vg K ad):=by
 obtain ⟨_,_,IS⟩:=T.is_whole_within;have IV:=bv (P:=P) (w:=w) (base:=base) T IS;obtain ⟨_,_,JV⟩:=T.is_text_of;have Kw:=jP (P:=P) (w:=w) (base:=base) T JV;refine F.F.ok pf (λvs H Q E h=>?_) (λcdv A outer s H vs Q E hr h=>?_)
 ·obtain ⟨v,d,b,x,y,rfl,_⟩:=h
  rfl
 obtain ⟨v,d,b,x,y,rfl,hv,hd,ok,q⟩:=h;refine ⟨_,(3,@ps_set _ _ 2 _ _ _ _ pf.nd rfl (Or.inl rfl) (@pi1 K _ _ _ _ _ _ _ rfl (pv 1)) (0) (.inl rfl),(3,@ps_if _ _ _ _ _ _ _ _ (pt_cmpR op_eq (pv 2) pe_str (nomark _)) (@pss_one _ _ _ (@ps_ret _ _ _ _ (pcl IS IV (hr.mono (by lia)) rfl (@pa3 _ _ _ _ _ _ _ (pv 0) (@pi1 K _ _ _ _ _ _ _ rfl (pv 1)) (@pi1 K _ _ _ _ _ _ _ rfl (pv 1)) (0) (0) (0))))) pss_nil,(3,@ps_if _ _ _ _ _ _ _ _ (pt_cmpR op_eq (pv 2) pe_str (nomark _)) (@pss_one _ _ _ (@ps_ret _ _ _ _ (pcl JV Kw (hr.mono (by lia)) rfl (@pa2 _ _ _ _ _ (pv 0) (@pi1 K _ _ _ _ _ _ _ rfl (pv 1)) (0) (0))))) pss_nil,aM))),?_⟩
 cases ok with
 | num ok =>
  refine ⟨_,rfl,_,_,_,hd,rfl,rfl,isS ?_⟩;refine be rfl ?_;refine ⟨_,rfl,_,rfl,_,_,_,hd,rfl,rfl,λu1 h1=>⟨_,rfl,_,_,_,hd,rfl,rfl,λu2 h2=>?_⟩⟩;obtain rfl:=cG h1;obtain rfl:=cG h2;exact ⟨v,x,_,_,rfl,hv,ok,q H (Same.refl H)⟩
 | txt lf m60 =>
  refine ⟨_,rfl,_,_,_,hd,rfl,rfl,isS ?_⟩;refine af rfl (by decide) ?_;refine be rfl ?_;refine ⟨_,rfl,_,rfl,_,_,_,hd,rfl,rfl,isI ?_⟩;exact ⟨v,x,_,rfl,hv,lf,m60,q⟩
def formsL:List (Str×Addr×List Str):=[("put",316,["text","tuple","any"]),("drop",317,["text","any"]),("name",318,["text","text"]),("sink",319,["text","text"]),("lift",320,["text","text"]),("turn",321,["text","tuple"]),("split",322,["text","text","text","text"]),("join",323,["text","text","text","text"]),("part",324,["text","number","text","text"]),("whole",325,["text","text","number","text","number","number"])]
def eK (w:Str):List (Str×Addr×List Str)->Option (Addr×List Str)
 | []=>none
 | (x,r) :: l=>if w=x then some r else eK w l
theorem qY (w:Str):∀ l:List (Str×Addr×List Str),fB w (l.map λp=>(p.1,p.2.1))=(eK w l).map (·.1)
 | []=>rfl
 | (x,a,ws) :: l=>by
  show (if w=x then some a else fB w (l.map λp=>(p.1,p.2.1)))=_;rw [qY w l];show _=(if w=x then some (a,ws) else eK w l).map (·.1)
  split <;> rfl
theorem gq {w:Str} {r:Addr×List Str}:∀ {l:List (Str×Addr×List Str)},eK w l=some r->(r.1,r.2)∈l.map λp=>(p.2.1,p.2.2)
 | [],h=>by cases h
 | (x,r') :: l,h=>by
  have h':(if w=x then some r' else eK w l)=some r:=h
  split at h'
  ·cases h';exact aAh
  ·exact aAj _ (gq h')
def IK:Dt->Bool
 | .str _=>true
 | _=>false
def IL:Dt->Bool
 | .tup _=>true
 | _=>false
def qq (d:Dt) (so:Str):Bool:=if so= "text" then IK d else if so= "number" then uN d else decide (so= "any") || IL d
def vi (o:Option (Addr×List Str)) (r:List Dt):Bool:=match o with
 | some p=>decide (p.2.length=r.length) && (r.zip p.2).all λp=>qq p.1 p.2
 | none=>false
def oq (t:Dt):Bool:=match t with
 | .tup (.str w :: r)=>vi (eK w formsL) r
 | _=>false
def qr (K:W.Frag) (_:Ads):Sp:=λvs H Q _=>∃ (d:Dt) (x:V) (so:Str),vs=[x,.str so]/\IsP K H d x/\okD d=true/\Q (.bl (qq d so)) H
theorem qu (T:Tx K mg ad) {f:Addr} {fd:FuncData} (F:Gn K mg "is_part" gB ["part","sort"] f fd):FnOk P w K mg base CX0 2 f fd ["part","sort"] (qr K ad):=by
 obtain ⟨_,_,IW⟩:=T.is_whole;have Jg:=cA (P:=P) (w:=w) (base:=base) T IW;refine F.F.ok qA (λvs H Q E h=>?_) (λcdv A outer s H vs Q E hr h=>?_)
 ·obtain ⟨d,x,so,rfl,_⟩:=h
  rfl
 obtain ⟨d,x,so,rfl,hd,ok,q⟩:=h;refine ⟨_,(3,@ps_if _ _ _ _ _ _ _ _ (pt_cmpR op_eq (pv 1) pe_str (nomark _)) (@pss_one _ _ _ (@ps_ret _ _ _ _ (pe_callB (ay (K:=K) rfl) rfl T.z_isinstance boot_isinstance (@pa2 _ _ _ _ _ (pv 0) (bo rfl T.z_str boot_str) (0) (0))))) pss_nil,(3,@ps_if _ _ _ _ _ _ _ _ (pt_cmpR op_eq (pv 1) pe_str (nomark _)) (@pss_one _ _ _ (@ps_ret _ _ _ _ (pcl IW Jg (hr.mono (by lia)) rfl (@pa1 _ _ _ (pv 0) (0))))) pss_nil,@pss_one _ _ _ (@ps_ret _ _ _ _ (GQ (pe_cmpR op_eq (pv 1) pe_str (nomark _)) (pe_one (pe_callB (ay (K:=K) rfl) rfl T.z_isinstance boot_isinstance (@pa2 _ _ _ _ _ (pv 0) (bo rfl T.z_tuple boot_tuple) (0) (0)))))))),?_⟩;unfold qq at q
 by_cases h1:so= "text"
 ·subst h1;rw [if_pos rfl] at q;refine be rfl ?_
  cases hd with
  | non=>cases ok
  | bl=>cases ok
  | int=>exact ⟨_,rfl,_,_,_,rfl,.int_str,q⟩
  | str=>exact ⟨_,rfl,_,_,_,rfl,.str_str,q⟩
  | tup h _ _=>exact ⟨_,rfl,_,_,_,rfl,.tup_str h,q⟩
 rw [if_neg h1] at q;refine af rfl h1 ?_
 by_cases h2:so= "number"
 ·subst h2;rw [if_pos rfl] at q;refine be rfl ?_;exact ⟨_,rfl,d,x,rfl,hd,ok,q⟩
 rw [if_neg h2] at q;refine af rfl h2 ?_;refine ⟨_,rfl,rfl,?_⟩
 by_cases h3:so= "any"
 ·subst h3;rw [decide_eq_true rfl] at q;exact ⟨_,rfl,bF q⟩
 ·rw [decide_eq_false h3] at q;refine ⟨_,rfl,iteN (aL h3) ?_⟩
  cases hd with
  | non=>cases ok
  | bl=>cases ok
  | int=>exact ⟨_,rfl,_,_,_,rfl,.int_tuple,q⟩
  | str=>exact ⟨_,rfl,_,_,_,rfl,.str_tuple,q⟩
  | tup h _ _=>exact ⟨_,rfl,_,_,_,rfl,.tup_tuple h,q⟩
def fK (K:W.Frag) (_:Ads):Sp:=λvs H Q _=>∃ (t:Dt) (x:V),vs=[x]/\IsP K H t x/\okD t=true/\∀ H',Same H H'->Q (.bl (oq t)) H'
theorem IM (e:Dt) (r:List Dt):L2.rZ (e :: r) (some 1) none=r:=by
 simp [L2.rZ,HT.sIx]
theorem fM (T:Tx K mg ad) {f:Addr} {fd:FuncData} (F:Gn K mg "has_piece_form" bL ["piece"] f fd):FnOk P w K mg base CX0 3 f fd ["piece"] (fK K ad):=by
 obtain ⟨_,_,Km⟩:=T.is_part;have K0:=qu (P:=P) (w:=w) (base:=base) T Km;obtain ⟨c_PIECE_FORMS,d_PIECE_FORMS,s_PIECE_FORMS⟩:=T.PIECE_FORMS;refine F.F.ok sc_has_piece_form (λvs H Q E h=>?_) (λcdv A outer s H vs Q E hr h=>?_)
 ·obtain ⟨t,x,rfl,_⟩:=h
  rfl
 obtain ⟨t,x,rfl,ht,ok,q⟩:=h;refine ⟨_,(3,@ps_if _ _ _ _ _ _ _ _ (PW.pt (@pw_or _ _ _ _ _ _ _ (@pt_not _ _ _ _ (@pt_val _ _ _ (pe_callB (ay (K:=K) rfl) rfl T.z_isinstance boot_isinstance (@pa2 _ _ _ _ _ (pv 0) (bo rfl T.z_tuple boot_tuple) (0) (0))) (by intro _;rfl))) (@pw_or _ _ _ _ _ _ _ (pt_cmpR op_eq (pe_callB (call_lenDN (K:=K) rfl) rfl T.z_len PySem.boot_len (@pa1 _ _ _ (pv 0) (0))) pe_int (nomark _)) (@pw_or1 _ _ _ _ (@pt_not _ _ _ _ (@pt_val _ _ _ (pe_callB (ay (K:=K) rfl) rfl T.z_isinstance boot_isinstance (@pa2 _ _ _ _ _ (@pi1 K _ _ _ _ _ _ _ rfl (pv 0)) (bo rfl T.z_str boot_str) (0) (0))) (by intro _;rfl))))))) (@pss_one _ _ _ (@ps_ret _ _ _ _ pe_bl)) pss_nil,(3,@ps_set _ _ 1 _ _ _ _ sc_has_piece_form.nd rfl (Or.inl rfl) (pe_kget1 d_PIECE_FORMS rfl c_PIECE_FORMS (@pa1 _ _ _ (@pi1 K _ _ _ _ _ _ _ rfl (pv 0)) (0))) (0) (.inl rfl),(3,@ps_if _ _ _ _ _ _ _ _ (PW.pt (@pw_or _ _ _ _ _ _ _ (pt_cmpR op_isN (pv 1) pe_non (nomark _)) (@pw_or1 _ _ _ _ (pt_cmpR op_ne (pe_callB (call_len_seqN (K:=K) rfl) rfl T.z_len PySem.boot_len (@pa1 _ _ _ (pv 1) (0))) (@pe_op _ _ _ _ _ _ _ _ op_sub (pe_callB (call_lenDN (K:=K) rfl) rfl T.z_len PySem.boot_len (@pa1 _ _ _ (pv 0) (0))) pe_int) (nomark _))))) (@pss_one _ _ _ (@ps_ret _ _ _ _ pe_bl)) pss_nil,@pss_one _ _ _ (@ps_ret _ _ _ _ (pe_callB (call_allN (K:=K) rfl rfl) rfl T.z_all boot_all (@pa1 _ _ _ (bA rfl (cs0 (NL:=["part","sort"]) rfl (by decide +kernel) (by decide +kernel)) (wI rfl T.z_zip (@pa2 _ _ _ _ _ (bO (cQ (K:=K) rfl) (pv 0) (bX pe_int) cX) (pv 1) (0) (0))) (λ_ _ _ _=>(im (K:=K) (n:=2) rfl rfl (aH (ai (i:=0) (show List.Nodup (α:=Str) ["part","sort"] by decide +kernel) rfl (Or.inl rfl)) (aH (ai (i:=1) (show List.Nodup (α:=Str) ["part","sort"] by decide +kernel) rfl (Or.inl rfl)) bW)))) (λ_ _ _ _=>(pcl Km K0 (hr.mono (by lia)) rfl (@pa2 _ _ _ _ _ (pv 0) (pv 1) (0) (0))))) (0))))))),?_⟩
 cases t with
 | non=>cases ok
 | bl=>cases ok
 | int i =>
  cases ht
  exact ⟨_,rfl,_,_,_,rfl,.int_tuple,_,rfl,aq (aq (q H (Same.refl H)))⟩
 | str z =>
  cases ht
  exact ⟨_,rfl,_,_,_,rfl,.str_tuple,_,rfl,aq (aq (q H (Same.refl H)))⟩
 | tup l =>
  obtain ⟨a,xs,rfl,ha,pa,ra⟩:=id ht.unref;refine ⟨_,rfl,_,_,_,rfl,.tup_tuple ha,_,rfl,aI ?_⟩;refine ⟨_,rfl,_,_,rfl,ht.d,rfl,_,rfl,?_⟩
  cases l with
  | nil=>exact bF (aq (q H (Same.refl H)))
  | cons e r =>
   refine iteN (λz=>?_) ?_
   ·injection z with z
    rw [aAs] at z;lia
   have oke:=aO ok e aAh;refine ⟨_,rfl,_,_,_,ht,rfl,at0 _ _,λv hv=>?_⟩
   cases e with
   | non=>cases oke
   | bl=>cases oke
   | int i =>
    cases hv
    exact ⟨_,_,_,rfl,.int_str,_,rfl,aq (q H (Same.refl H))⟩
   | tup l =>
    obtain ⟨a1,xs1,rfl,ha1,_,_⟩:=id hv.unref;exact ⟨_,_,_,rfl,.tup_str ha1,_,rfl,aq (q H (Same.refl H))⟩
   | str u =>
    obtain rfl:=bp hv;refine ⟨_,_,_,rfl,.str_str,_,rfl,aI ?_⟩;refine ⟨_,rfl,_,_,_,ht,rfl,at0 _ _,isS ?_⟩;refine ⟨_,rfl,?_⟩;have eA:fB u [("put",316),("drop",317),("name",318),("sink",319),("lift",320),("turn",321),("split",322),("join",323),("part",324),("whole",325)]=(eK u formsL).map (·.1):=qY u formsL;rw [eA]
    cases hF:eK u formsL with
    | none =>
     have e1:oq (.tup (.str u :: r))=false:=by show vi (eK u formsL) r=false;rw [hF];rfl
     rw [e1] at q;exact ⟨_,rfl,rfl,_,rfl,bF (aq (q H (Same.refl H)))⟩
    | some p =>
     obtain ⟨ad',ws⟩:=p;have e1:oq (.tup (.str u :: r))=(decide (ws.length=r.length) && (r.zip ws).all λp=>qq p.1 p.2):=by show vi (eK u formsL) r=_;rw [hF];rfl
     rw [e1] at q;have hf:SqT K H ad' (ws.map V.str):=s_PIECE_FORMS (ad',ws) (gq hF) _;refine ⟨_,rfl,rfl,_,rfl,iteN (by intro z;cases z) ?_⟩;refine ⟨_,rfl,ad',_,rfl,.inr hf,_,rfl,_,_,rfl,ht.d,_,_,rfl,rfl,rfl,_,rfl,?_⟩
     by_cases hl:ws.length=r.length
     rotate_left
     ·rw [decide_eq_false hl] at q;refine nX (λz=>hl ?_) (q H (Same.refl H));have:=V.int.inj z;rw [aAe,aAs] at this;lia
     rw [decide_eq_true hl,aAD] at q;have e2:V.int (((ws.map V.str).length:Nat):Int)=V.int (((Dt.str u :: r).length:Nat) - 1:Int):=by
      rw [aAe,aAs]
      congr 1
      lia
     rw [e2];refine eF ?_;refine ⟨_,rfl,_,rfl,_,ht,λv1 H1 g1 hv1=>?_⟩;rw [IM] at hv1;obtain ⟨b,xs2,rfl,hb,pb,rb⟩:=id hv1.unref;have el2:=rb.length;have hf1:=g1.tup hf;have l7:ws.length<=7:=by
      have hm:=gq hF;have:∀ p∈formsL.map (λp=>(p.2.1,p.2.2)),p.2.length<=7:=by decide +kernel
      exact this _ hm
     refine ⟨_,rfl,b,ad',rfl,⟨_,hb⟩,⟨_,hf1⟩,λl hln=>?_⟩;have lz:(r.zip ws).length=r.length:=by rw [aBO];lia
     refine pP (K:=K) (xs:=xs2) (ys:=ws.map V.str) (λi us σ H'=>us=bls (((r.zip ws).take i).map λp=>qq p.1 p.2)/\Same H1 H'/\H' l=some (.lst us)/\∃ v1 v2,σ=[v1,v2]) ⟨rfl,ae hln _,ac,none,none,rfl⟩ (λi us σ H' r=>⟨r.2.1.tup hb,r.2.1.tup hf1⟩) ?_ ?_
     ·rintro i y1 y2 T1 us σ H2 N hu hy hT ⟨rfl,g2,e2,v1,v2,rfl⟩ next;obtain ⟨d,hd,hpd⟩:=rb.get' hu;rw [aAt] at hy;obtain ⟨so,hso,rfl⟩:=aAu.mp hy;have gT:=ae hT (.tup [y1,V.str so]);have okd:=aO ok d (aAj _ (aAw hd));have hz:(r.zip ws)[i]?=some (d,so):=by rw [aBF];exact ⟨hd,hso⟩
      have hi:=(aAg.mp hd).1;refine ⟨T1,_,rfl,.inl (.inl ac),rfl,_,_,rfl,_,_,rfl,rfl,?_⟩;refine ⟨_,rfl,_,rfl,d,y1,so,rfl,(hpd.same g2).same gT,okd,?_⟩;refine ⟨gT _ _ e2,?_,next _ _ _ ⟨?_,aS hln (g2.trans gT),ac,_,_,rfl⟩⟩
      ·rw [bls,aAe,aAe];exact aj (by have:=aA8 i (r.zip ws);lia)
      ·rw [aAM,hz];simp [bls]
     ·rintro us σ H2 ⟨rfl,g2,e2,v1,v2,rfl⟩;have lm:min xs2.length (ws.map V.str).length=(r.zip ws).length:=by rw [aAe,<- el2,lz,hl];lia
      rw [lm,aAB] at e2;refine ⟨l,_,rfl,rfl,SqL.of e2,?_⟩;have e3:(((r.zip ws).map λp=>qq p.1 p.2).all id)=(r.zip ws).all λp=>qq p.1 p.2:=by rw [aA5];rfl
      rw [e3];exact q H2 (g1.trans g2)
theorem qZ (a b:Int):decide (V.int a=V.int b)=decide (a=b):=by
 rw [decide_eq_decide];exact ⟨V.int.inj,λh=>by rw [h]⟩
def hdB (d:Dt) (u:Str):Bool:=match d with
 | .tup (.str w :: _)=>decide (w=u)
 | _=>false
def vj (p:Pc) (ds:List Dt) (b:Bool):Bool:=match p with
 | .put _ _ _=>b
 | .drop _ _=>b
 | .split _ s _ _=>hdB (ds.getD 0 .non) "text" && qi s
 | .join _ _ s _=>hdB (ds.getD 0 .non) "text" && eqD (ds.getD 0 .non) (ds.getD 1 .non) && qi s
 | .part _ k _ _=>hdB (ds.getD 0 .non) "number" && (decide (2<=k) && decide (k<=1000))
 | .whole _ _ k _ i j=>(decide (2<=k) && decide (k<=1000)) && eqD (.tup ds) (.tup [bf (i / k) (j / k),bf 0 (k - 1)])
 | _=>true
def CT (p:Pc) (ds:List Dt) (b:Bool):Prop:=match p with
 | .put _ t v=>okD (.tup t)=true/\((au 5 (.tup t)=false/\b=false)\/∃ m,.tup t=txD m/\0<=m/\OfK v (txD m) b)
 | .drop _ v=>∃ d,ds=[d]/\OfK v d b
 | .split _ s _ _=>(∃ d,ds=[d])/\s.length<=1000
 | .join _ _ s _=>(∃ d e,ds=[d,e])/\s.length<=1000
 | .part _ _ _ _=>∃ d,ds=[d]
 | .whole _ _ _ _ _ _=>∃ d e,ds=[d,e]
 | _=>True
def jb (K:W.Frag) (_:Ads):Sp:=λvs H Q _=>∃ (p:Pc) (ds:List Dt) (b:Bool) (x:V) (l:Addr) (us:List V),vs=[x,.ref l]/\IsP K H (pcD p) x/\H l=some (.lst us)/\IsPs K H ds us/\(∀ d∈ds,KT d)/\CT p ds b/\∀ H',Same H H'->Q (.bl (vj p ds b)) H'
theorem ou {d:Dt} (h:KT d):∃ u l,d=.tup (.str u :: l)/\d.dep<=50/\∀ z,hdB d z=decide (u=z):=by
 obtain ⟨u,l,rfl,dp⟩:=h.tup;exact ⟨u,l,rfl,dp,λz=>rfl⟩
theorem jc (T:Tx K mg ad) {f:Addr} {fd:FuncData} (F:Gn K mg "takes_kinds" cK ["piece","kinds"] f fd):FnOk P w K mg base CX0 24 f fd ["piece","kinds"] (jb K ad):=by
 obtain ⟨_,_,Kn⟩:=T.is_kind;have KY:=qo (P:=P) (w:=w) (base:=base) T Kn;obtain ⟨_,_,Kj⟩:=T.is_of;have KL:=vh (P:=P) (w:=w) (base:=base) T Kj;obtain ⟨_,_,JG⟩:=T.is_separator;have JR:=hG (P:=P) (w:=w) (base:=base) T JG;obtain ⟨_,_,Jq⟩:=T.is_factor;have JH:=fH (P:=P) (w:=w) (base:=base) T Jq;obtain ⟨_,_,Js⟩:=T.part_kinds;have JN:=eI (P:=P) (w:=w) (base:=base) T Js;refine F.F.ok d9 (λvs H Q E h=>?_) (λcdv A outer s H vs Q E hr h=>?_)
 ·obtain ⟨p,ds,b,x,l,us,rfl,_⟩:=h
  rfl
 obtain ⟨p,ds,b,x,l,us,rfl,hp,hl,hd,kt,ct,q⟩:=h;refine ⟨_,(3,@ps_set _ _ 2 _ _ _ _ d9.nd rfl (Or.inl rfl) (@pi1 K _ _ _ _ _ _ _ rfl (pv 0)) (0) (.inl rfl),(3,@ps_if _ _ _ _ _ _ _ _ (pt_cmpR op_eq (pv 2) pe_str (nomark _)) (@pss_one _ _ _ (@ps_ret _ _ _ _ (pe_and (pcl Kn KY (hr.mono (by lia)) rfl (@pa1 _ _ _ (@pi1 K _ _ _ _ _ _ _ rfl (pv 0)) (0))) (pe_one (pcl Kj KL (hr.mono (by lia)) rfl (@pa2 _ _ _ _ _ (@pi1 K _ _ _ _ _ _ _ rfl (pv 0)) (@pi1 K _ _ _ _ _ _ _ rfl (pv 0)) (0) (0))))))) pss_nil,(3,@ps_if _ _ _ _ _ _ _ _ (pt_cmpR op_eq (pv 2) pe_str (nomark _)) (@pss_one _ _ _ (@ps_ret _ _ _ _ (pcl Kj KL (hr.mono (by lia)) rfl (@pa2 _ _ _ _ _ (@pi1 K _ _ _ _ _ _ _ rfl (pv 0)) (@ce _ _ _ _ _ _ _ (aW (K:=K) rfl) (pv 1) pe_int (λ_ _=>rfl)) (0) (0))))) pss_nil,(3,@ps_if _ _ _ _ _ _ _ _ (pt_cmpR op_eq (pv 2) pe_str (nomark _)) (@pss_one _ _ _ (@ps_ret _ _ _ _ (pe_and (pe_cmpR op_eq (@pi1 K _ _ _ _ _ _ _ rfl (@ce _ _ _ _ _ _ _ (aW (K:=K) rfl) (pv 1) pe_int (λ_ _=>rfl))) pe_str (nomark _)) (pe_one (pcl JG JR (hr.mono (by lia)) rfl (@pa1 _ _ _ (@pi1 K _ _ _ _ _ _ _ rfl (pv 0)) (0))))))) pss_nil,(3,@ps_if _ _ _ _ _ _ _ _ (pt_cmpR op_eq (pv 2) pe_str (nomark _)) (@pss_one _ _ _ (@ps_ret _ _ _ _ (pe_and (pe_cmpR op_eq (@pi1 K _ _ _ _ _ _ _ rfl (@ce _ _ _ _ _ _ _ (aW (K:=K) rfl) (pv 1) pe_int (λ_ _=>rfl))) pe_str (nomark _)) (pe_and (pe_cmpR (io (K:=K) rfl hr.units) (@ce _ _ _ _ _ _ _ (aW (K:=K) rfl) (pv 1) pe_int (λ_ _=>rfl)) (@ce _ _ _ _ _ _ _ (aW (K:=K) rfl) (pv 1) pe_int (λ_ _=>rfl)) (nomark _)) (pe_one (pcl JG JR (hr.mono (by lia)) rfl (@pa1 _ _ _ (@pi1 K _ _ _ _ _ _ _ rfl (pv 0)) (0)))))))) pss_nil,(3,@ps_if _ _ _ _ _ _ _ _ (pt_cmpR op_eq (pv 2) pe_str (nomark _)) (@pss_one _ _ _ (@ps_ret _ _ _ _ (pe_and (pe_cmpR op_eq (@pi1 K _ _ _ _ _ _ _ rfl (@ce _ _ _ _ _ _ _ (aW (K:=K) rfl) (pv 1) pe_int (λ_ _=>rfl))) pe_str (nomark _)) (pe_one (pcl Jq JH (hr.mono (by lia)) rfl (@pa1 _ _ _ (@pi1 K _ _ _ _ _ _ _ rfl (pv 0)) (0))))))) pss_nil,(3,@ps_if _ _ _ _ _ _ _ _ (pt_cmpR op_eq (pv 2) pe_str (nomark _)) (@pss_one _ _ _ (@ps_ret _ _ _ _ (pe_and (pcl Jq JH (hr.mono (by lia)) rfl (@pa1 _ _ _ (@pi1 K _ _ _ _ _ _ _ rfl (pv 0)) (0))) (pe_one (pe_cmpR (io (K:=K) rfl hr.units) (bh (bY (K:=K) rfl) rfl T.z_tuple boot_tuple (@pa1 _ _ _ (pv 1) (0))) (pcl Js JN (hr.mono (by lia)) rfl (@pa3 _ _ _ _ _ _ _ (@pi1 K _ _ _ _ _ _ _ rfl (pv 0)) (@pi1 K _ _ _ _ _ _ _ rfl (pv 0)) (@pi1 K _ _ _ _ _ _ _ rfl (pv 0)) (0) (0) (0))) (nomark _)))))) pss_nil,@pss_one _ _ _ (@ps_ret _ _ _ _ pe_bl)))))))),?_⟩;have fac:∀ c:Int,bt (.int c) 2 1000=(decide (2<=c) && decide (c<=1000)):=λc=>rfl
 cases p with
 | put z t v =>
  obtain ⟨ok,ct⟩:=ct;refine ⟨_,rfl,_,_,_,hp,rfl,rfl,isS ?_⟩;refine be rfl ?_;refine ⟨_,rfl,_,_,_,hp,rfl,rfl,λu1 hu1=>?_⟩;rcases ct with ⟨bad,rfl⟩ | ⟨m,et,m0,of⟩
  ·exact ⟨.tup t,u1,rfl,hu1,ok,.inl ⟨bad,λH1 g1=>⟨_,rfl,aI (q H1 g1)⟩⟩⟩
  ·have m60:m<=60:=by cases of;assumption
   refine ⟨.tup t,u1,rfl,hu1,ok,.inr ⟨1,1,by rw [et];exact .text m m0 m60,by decide,by decide,λH1 g1=>⟨_,rfl,aq ?_⟩⟩⟩;refine ⟨_,rfl,_,_,_,hp.same g1,rfl,rfl,λu2 hu2=>⟨_,rfl,_,_,_,hp.same g1,rfl,rfl,λu3 hu3=>?_⟩⟩;rw [et] at hu3;exact ⟨v,txD m,b,u2,u3,rfl,hu2,hu3,of,λH2 g2=>q H2 (g1.trans g2)⟩
 | drop z v =>
  obtain ⟨d,rfl,of⟩:=ct
  cases hd with
  | @cons _ y _ _ hd rb =>
  cases rb
  refine ⟨_,rfl,_,_,_,hp,rfl,rfl,isS ?_⟩;refine af rfl (by decide) ?_;refine be rfl ?_;refine ⟨_,rfl,_,_,_,hp,rfl,rfl,λu1 hu1=>⟨_,rfl,l,_,_,_,rfl,rfl,SqL.of hl,at0 _ _,?_⟩⟩;exact ⟨v,d,b,u1,_,rfl,hu1,hd,of,q⟩
 | name z y =>
  refine ⟨_,rfl,_,_,_,hp,rfl,rfl,isS ?_⟩;exact af rfl (by decide) (af rfl (by decide) (af rfl (by decide) (af rfl (by decide) (af rfl (by decide) (af rfl (by decide) (q H (Same.refl H)))))))
 | sink z y =>
  refine ⟨_,rfl,_,_,_,hp,rfl,rfl,isS ?_⟩;exact af rfl (by decide) (af rfl (by decide) (af rfl (by decide) (af rfl (by decide) (af rfl (by decide) (af rfl (by decide) (q H (Same.refl H)))))))
 | lift z y =>
  refine ⟨_,rfl,_,_,_,hp,rfl,rfl,isS ?_⟩;exact af rfl (by decide) (af rfl (by decide) (af rfl (by decide) (af rfl (by decide) (af rfl (by decide) (af rfl (by decide) (q H (Same.refl H)))))))
 | turn z t =>
  refine ⟨_,rfl,_,_,_,hp,rfl,rfl,isS ?_⟩;exact af rfl (by decide) (af rfl (by decide) (af rfl (by decide) (af rfl (by decide) (af rfl (by decide) (af rfl (by decide) (q H (Same.refl H)))))))
 | split z s x y =>
  obtain ⟨⟨d,rfl⟩,ls⟩:=ct;obtain ⟨u0,l0,rfl,dp,hdb⟩:=ou (kt d aAh)
  cases hd with
  | @cons _ y _ _ hd rb =>
  cases rb
  replace q:∀ H',Same H H'->Q (.bl (decide (u0= "text") && qi s)) H':=q;refine ⟨_,rfl,_,_,_,hp,rfl,rfl,isS ?_⟩;refine af rfl (by decide) (af rfl (by decide) (be rfl ?_));refine ⟨_,rfl,l,_,_,_,rfl,rfl,SqL.of hl,at0 _ _,_,_,_,hd,rfl,at0 _ _,isS ?_⟩;refine ⟨rfl,_,rfl,?_⟩
  by_cases e:u0= "text"
  ·subst e;rw [decide_eq_true rfl,aAD] at q;refine bF ⟨_,rfl,_,_,_,hp,rfl,rfl,isS ?_⟩;exact ⟨s,rfl,ls,q H (Same.refl H)⟩
  ·rw [decide_eq_false e,aAy] at q;exact iteN (aL e) (q H (Same.refl H))
 | join z y s x =>
  obtain ⟨⟨d,e,rfl⟩,ls⟩:=ct;obtain ⟨u0,l0,rfl,dp,hdb⟩:=ou (kt d aAh)
  cases hd with
  | @cons _ y1 _ _ hd rb =>
  cases rb with
  | @cons _ y2 _ _ he rb =>
  cases rb
  replace q:∀ H',Same H H'->Q (.bl (decide (u0= "text") && eqD (.tup (.str u0 :: l0)) e && qi s)) H':=q;refine ⟨_,rfl,_,_,_,hp,rfl,rfl,isS ?_⟩;refine af rfl (by decide) (af rfl (by decide) (af rfl (by decide) (be rfl ?_)));refine ⟨_,rfl,l,_,_,_,rfl,rfl,SqL.of hl,at0 _ _,_,_,_,hd,rfl,at0 _ _,isS ?_⟩;refine ⟨rfl,_,rfl,?_⟩
  by_cases e1:u0= "text"
  rotate_left
  ·rw [decide_eq_false e1] at q;exact iteN (aL e1) (q H (Same.refl H))
  subst e1;rw [decide_eq_true rfl,aAD] at q;refine bF ⟨_,rfl,l,_,_,_,rfl,rfl,SqL.of hl,at0 _ _,_,rfl,l,_,_,_,rfl,rfl,SqL.of hl,rfl,?_⟩;refine ⟨_,_,hd.d,he.d,by lia,_,rfl,?_⟩
  cases e2:eqD (.tup (.str "text" :: l0)) e
  ·rw [e2] at q;exact aI (q H (Same.refl H))
  ·rw [e2,aAD] at q;refine aq ⟨_,rfl,_,_,_,hp,rfl,rfl,isS ?_⟩;exact ⟨s,rfl,ls,q H (Same.refl H)⟩
 | part z k x y =>
  obtain ⟨d,rfl⟩:=ct;obtain ⟨u0,l0,rfl,dp,hdb⟩:=ou (kt d aAh)
  cases hd with
  | @cons _ y _ _ hd rb =>
  cases rb
  replace q:∀ H',Same H H'->Q (.bl (decide (u0= "number") && (decide (2<=k) && decide (k<=1000)))) H':=q;refine ⟨_,rfl,_,_,_,hp,rfl,rfl,isS ?_⟩;refine af rfl (by decide) (af rfl (by decide) (af rfl (by decide) (af rfl (by decide) (be rfl ?_))));refine ⟨_,rfl,l,_,_,_,rfl,rfl,SqL.of hl,at0 _ _,_,_,_,hd,rfl,at0 _ _,isS ?_⟩;refine ⟨rfl,_,rfl,?_⟩
  by_cases e:u0= "number"
  ·subst e;rw [decide_eq_true rfl,aAD] at q;refine bF ⟨_,rfl,_,_,_,hp,rfl,rfl,λu2 hu2=>?_⟩;exact ⟨.int k,u2,rfl,hu2,rfl,q H (Same.refl H)⟩
  ·rw [decide_eq_false e,aAy] at q;exact iteN (aL e) (q H (Same.refl H))
 | whole z y k x i j =>
  obtain ⟨d,e,rfl⟩:=ct;obtain ⟨u0,l0,rfl,dp,hdb⟩:=ou (kt d aAh);obtain ⟨u9,l9,rfl,dp9,_⟩:=ou (kt e (aAj _ aAh));replace q:∀ H',Same H H'->Q (.bl ((decide (2<=k) && decide (k<=1000)) && eqD (.tup [.tup (.str u0 :: l0),.tup (.str u9 :: l9)]) (.tup [bf (i / k) (j / k),bf 0 (k - 1)]))) H':=q;refine ⟨_,rfl,_,_,_,hp,rfl,rfl,isS ?_⟩;refine af rfl (by decide) (af rfl (by decide) (af rfl (by decide) (af rfl (by decide) (af rfl (by decide) (be rfl ?_)))));refine ⟨_,rfl,_,_,_,hp,rfl,rfl,λu2 hu2=>⟨.int k,u2,rfl,hu2,rfl,?_⟩⟩;rw [fac]
  cases ef:(decide (2<=k) && decide (k<=1000))
  ·rw [ef] at q;exact ⟨_,rfl,aI (q H (Same.refl H))⟩
  rw [ef,aAD] at q;simp only [aAr,decide_eq_true_eq] at ef;refine ⟨_,rfl,aq ?_⟩;refine ⟨_,rfl,l,us,_,rfl,SqL.of hl,hd,λvt H1 g1 hvt=>?_⟩;have hp1:=hp.same g1;refine ⟨_,rfl,_,_,_,hp1,rfl,rfl,λa1 ha1=>⟨_,rfl,_,_,_,hp1,rfl,rfl,λa2 ha2=>⟨_,rfl,_,_,_,hp1,rfl,rfl,λa3 ha3=>?_⟩⟩⟩;obtain rfl:=cG ha1;obtain rfl:=cG ha2;obtain rfl:=cG ha3;refine ⟨i,j,k,rfl,ef.1,ef.2,λv2 H2 g2 hv2=>?_⟩;refine ⟨_,_,(hvt.same g2).d,hv2.d,?_,q H2 (g1.trans g2)⟩;simp only [Dt.dep,er] at dp dp9 ⊢;lia
theorem IsO.same {K:W.Frag} {H H':Hp} {o:Option Dt} {v:V} (g:Same H H') (h:IsO K H o v):IsO K H' o v:=by
 cases o with
 | none=>exact h
 | some d=>exact IsP.same g h
theorem IsO.but {K:W.Frag} {H H':Hp} {o:Option Dt} {v:V} {l:Addr} {ys:List V} (hl:H l=some (.lst ys)) (g:But l H H') (h:IsO K H o v):IsO K H' o v:=by
 cases o with
 | none=>exact h
 | some d=>exact IsP.but hl g h
theorem IsOs.same {K:W.Frag} {H H':Hp} {os:List (Option Dt)} {vs:List V} (g:Same H H') (h:IsOs K H os vs):IsOs K H' os vs:=by
 induction h with
 | nil=>exact .nil
 | cons h _ ih=>exact .cons (IsO.same g h) ih
theorem IsOs.but {K:W.Frag} {H H':Hp} {os:List (Option Dt)} {vs:List V} {l:Addr} {ys:List V} (hl:H l=some (.lst ys)) (g:But l H H') (h:IsOs K H os vs):IsOs K H' os vs:=by
 induction h with
 | nil=>exact .nil
 | cons h _ ih=>exact .cons (IsO.but hl g h) ih
theorem IsOs.snoc {K:W.Frag} {H:Hp} {os:List (Option Dt)} {vs:List V} {o:Option Dt} {v:V} (h:IsOs K H os vs) (h1:IsO K H o v):IsOs K H (os++[o]) (vs++[v]):=by
 induction h with
 | nil=>exact .cons h1 .nil
 | cons h _ ih=>exact .cons h ih
theorem IsOs.length {K:W.Frag} {H:Hp} {os:List (Option Dt)} {vs:List V} (h:IsOs K H os vs):os.length=vs.length:=by
 induction h with
 | nil=>rfl
 | cons _ _ ih=>rw [aAs,aAs,ih]
theorem IsOs.all {K:W.Frag} {H:Hp} {os:List (Option Dt)} {vs:List V} (h:IsOs K H os vs) (hs:os.any Option.isNone=false):IsPs K H (os.filterMap id) vs:=by
 induction h with
 | nil=>exact .nil
 | @cons o v os vs h _ ih =>
  rw [aAV,Bool.or_eq_false_iff] at hs
  cases o with
  | none=>cases hs.1
  | some d=>exact .cons h (ih hs.2)
abbrev fN (ps:List (List Str)):List (List Key):=ps.map λns=>ns.map Sum.inr
theorem q9 (ps:List (List Str)):((fN ps).map λt=>Dt.tup (t.map kDt))=ps.map fI:=by
 rw [aAz];refine aBd λns _=>?_;show Dt.tup ((ns.map Sum.inr).map kDt)=Dt.tup (ns.map Dt.str);rw [aAz]
 rfl
theorem rd (p:Pc):(bS p).length<=2:=by cases p <;> simp [bS]
theorem BH (p:Pc):(mkP p).length<=2:=by cases p <;> simp [mkP]
theorem re (ts:List (List Key)) (h:ts.length<=2):dA ts<=2:=by
 unfold dA
 split
 ·split <;> decide
 ·exact h
abbrev osP (p:Pc) (fs:List (Str×Dt)):List (Option Dt):=(bS p).map λns=>aT (some (aF fs)) ns
def cS (ps:List (List Str)):Bool:=!decide (dA (fN ps)=ps.length)
def aV (p:Pc) (fs:List (Str×Dt)) (b:Bool):Bool:=!(cS (bS p) || (osP p fs).any Option.isNone) && vj p ((osP p fs).filterMap id) b
def ow (K:W.Frag) (_:Ads):Sp:=λvs H Q _=>∃ (p:Pc) (fs:List (Str×Dt)) (b:Bool) (x y:V),vs=[x,y]/\IsP K H (pcD p) x/\IsP K H (aF fs) y/\KT (aF fs)/\((cS (bS p) || (osP p fs).any Option.isNone)=false->CT p ((osP p fs).filterMap id) b)/\∀ H',Same H H'->Q (.bl (aV p fs b)) H'
theorem xT {p:Pc} {fs:List (Str×Dt)} (h:KT (aF fs)):∀ o∈osP p fs,∀ d,o=some d->KT d:=λo ho d e=>by
 obtain ⟨ns,_,rfl⟩:=aAN.mp ho;exact iq h e
theorem ox (T:Tx K mg ad) {f:Addr} {fd:FuncData} (F:Gn K mg "can_take" dh ["piece","kind"] f fd):FnOk P w K mg base CX0 25 f fd ["piece","kind"] (ow K ad):=by
 obtain ⟨_,_,IY⟩:=T.taken_paths;have Jo:=ck (P:=P) (w:=w) (base:=base) T IY;obtain ⟨_,_,Jv⟩:=T.kind_down;have JQ:=fJ (P:=P) (w:=w) (base:=base) T Jv;obtain ⟨_,_,JU⟩:=T.takes_kinds;have Ks:=jc (P:=P) (w:=w) (base:=base) T JU;refine F.F.ok d8 (λvs H Q E h=>?_) (λcdv A outer s H vs Q E hr h=>?_)
 ·obtain ⟨p,fs,b,x,y,rfl,_⟩:=h
  rfl
 obtain ⟨p,fs,b,x,y,rfl,hx,hy,kt,ct,q⟩:=h;refine ⟨_,(3,@ps_set _ _ 2 _ _ _ _ d8.nd rfl (Or.inl rfl) (pcl IY Jo (hr.mono (by lia)) rfl (@pa1 _ _ _ (pv 0) (0))) (0) (.inl rfl),(3,ps_setC (j:=3) d8.nd rfl (Or.inl rfl) rfl (csR (sc:=aa dh) (NL:=["path"]) (N:=["piece","kind","paths","kinds"]) (ρ:=[1]) (N':=["path","kind"]) rfl rfl rfl (by decide +kernel) (by decide +kernel) (by decide +kernel) rfl (by decide +kernel)) (cg (K:=K) rfl (pv 2)) (λ_ _ _ _=>(ai (i:=0) (show List.Nodup (α:=Str) ["path","kind"] by decide +kernel) rfl (Or.inl rfl))) (λ_ _ _ _=>(pcl Jv JQ (hr.mono (by lia)) rfl (@pa2 _ _ _ _ _ (pv 1) (pv 0) (0) (0)))),(3,@ps_if _ _ _ _ _ _ _ _ (PW.pt (@pw_or _ _ _ _ _ _ _ (pt_cmpR op_ne (pe_callB kK rfl T.z_len PySem.boot_len (@pa1 _ _ _ (bh (kJ (K:=K) rfl rfl hr.units) rfl T.z_set boot_set (@pa1 _ _ _ (pv 2) (0))) (0))) (pe_callB (call_len_seqN (K:=K) rfl) rfl T.z_len PySem.boot_len (@pa1 _ _ _ (pv 2) (0))) (nomark _)) (@pw_or1 _ _ _ _ (pt_cmpR (Bq (K:=K) rfl hr.units) pe_non (pv 3) rfl)))) (@pss_one _ _ _ (@ps_ret _ _ _ _ pe_bl)) pss_nil,@pss_one _ _ _ (@ps_ret _ _ _ _ (pcl JU Ks (hr.mono (by lia)) rfl (@pa2 _ _ _ _ _ (pv 0) (pv 3) (0) (0))))))),?_⟩;refine ⟨_,rfl,p,x,rfl,hx,λa H1 ha g1 ⟨us,e1,hus⟩=>?_⟩;have lu:us.length=(bS p).length:=by rw [<- hus.length,aAe]
 have l2:=rd p;refine ⟨_,rfl,a,rfl,⟨_,SqL.of e1⟩,λl hl=>?_⟩;refine cf (K:=K) (xs:=us) (λj ys σ H'=>Same H1 H'/\H' l=some (.lst ys)/\IsOs K H' ((osP p fs).take j) ys/\∃ v1,σ=[v1,some y]) ⟨ae hl _,ac,.nil,none,rfl⟩ (λj ys σ H' _ pv=>SqL.of (pv.1 _ _ e1)) ?_ ?_
 ·rintro j u ys σ H2 N hu ⟨s2,e2,d2,v1,rfl⟩ next;obtain ⟨d,hd,hpd⟩:=hus.get' hu;rw [aAt] at hd;obtain ⟨ns,hns,rfl⟩:=aAu.mp hd;refine ⟨_,rfl,_,rfl,aF fs,ns,y,u,rfl,(hy.same g1).same s2,hpd.same s2,kt,λv hv=>?_⟩;refine ⟨e2,?_,next _ _ _ ⟨aS hl s2,ac,?_,_,rfl⟩⟩
  ·rw [<- IsOs.length d2];exact aj (by have:=aA8 j (osP p fs);rw [aAe] at this;lia)
  ·rw [aAM,aAt,hns];exact IsOs.but e2 But.put (IsOs.snoc d2 hv)
 ·rintro ys σ H2 ⟨s2,e2,d2,v1,rfl⟩;have d3:IsOs K H2 (osP p fs) ys:=by
   rw [lu,show (bS p).length=(osP p fs).length from (aAe _).symm,aAB] at d2;exact d2
  refine ⟨_,rfl,a,fN (bS p),us,rfl,SqL.of (s2 _ _ e1),by rw [q9];exact hus.same s2,by rw [aAe];exact l2,λps hps=>?_⟩;have g3:=ae hps (kI ps (dA (fN (bS p))));refine ⟨ps,_,rfl,ac,re _ (by rw [aAe];exact l2),_,rfl,a,us,rfl,.inl (SqL.of (g3 _ _ (s2 _ _ e1))),rfl,_,rfl,?_⟩;rw [qZ,lu];have g13:=(g1.trans s2).trans g3;have eL:(!decide (((dA (fN (bS p)):Nat):Int)=(((bS p).length:Nat):Int)))=cS (bS p):=by
   unfold cS
   congr 1
   rw [decide_eq_decide];lia
  rw [eL]
  cases hL:cS (bS p)
  rotate_left
  ·refine aq (aq ?_);have e:aV p fs b=false:=by unfold aV;rw [hL];rfl
   rw [e] at q;exact q _ g13
  refine aI ?_;refine ⟨_,rfl,rfl,l,osP p fs,ys,rfl,SqL.of (g3 _ _ e2),IsOs.same g3 d3,?_,_,rfl,?_⟩
  ·intro o ho d e;obtain ⟨u,l',e',dp⟩:=(xT kt o ho d e).tup;exact ⟨_,e',by lia⟩
  cases hN:(osP p fs).any Option.isNone
  rotate_left
  ·refine aq ?_;have e:aV p fs b=false:=by unfold aV;rw [hL,hN];rfl
   rw [e] at q;exact q _ g13
  refine aI ?_;have e:aV p fs b=vj p ((osP p fs).filterMap id) b:=by unfold aV;rw [hL,hN];rfl
  rw [e] at q;refine ⟨_,rfl,_,rfl,p,_,b,x,l,ys,rfl,hx.same g13,g3 _ _ e2,(IsOs.all d3 hN).same g3,?_,ct (by rw [hL,hN];rfl),λH' g=>q H' (g13.trans g)⟩;intro d hd;obtain ⟨o,ho,e⟩:=aAn.mp hd;exact xT kt o ho d e
def xr:List (Str×Int):=[("bounds",3),("scale",2),("shrink",2),("figures",2),("number",3),("words",3),("cut",2),("first",2),("one",2),("out",1),("items",2)]
def xu:Dt->Bool
 | .tup (.str u :: l)=>decide (bG u xr=.int ((l.length+1:Nat):Int))
 | _=>false
def figN (n:Int):Nat:=(su n).length
theorem ir (n:Int):(Str.ofString (toString n)).length=figN n:=by
 unfold figN;rw [<- str_int]
 rfl
def cT (n:Int):Prop:=-1000000000000000000000000000000<=n/\n<=1000000000000000000000000000000
theorem vm {n:Int} (h:cT n):figN n<=32:=by
 obtain ⟨h1,h2⟩:=h;have:(dg n.natAbs).length<=30+1:=um 30 n.natAbs (by
  have:n.natAbs<=1000000000000000000000000000000:=by lia
  exact aBB this (by decide))
 unfold figN su
 split
 ·rw [aAs];lia
 ·lia
theorem BI {n:Int} (h:cT n):n.natAbs.log2 < 1920:=by
 obtain ⟨h1,h2⟩:=h
 by_cases z:n.natAbs=0
 ·rw [z];decide
 ·rw [Nat.log2_lt z];have:n.natAbs<=1000000000000000000000000000000:=by lia
  exact aBB this (by decide +kernel)
def vo (i j:Int):Int:=if ((figN j:Nat):Int) > ((figN i:Nat):Int) then ((figN j:Nat):Int) else ((figN i:Nat):Int)
def jQ (_:W.Frag) (_:Ads):Sp:=λvs H Q _=>∃ i:Int,vs=[.int i]/\cT i/\Q (.str (Str.ofString (toString i))) H
def hV (_:W.Frag) (_:Ads):Sp:=λvs H Q _=>∃ i j:Int,vs=[.int i,.int j]/\cT i/\cT j/\Q (.int (vo i j)) H
def fP (K:W.Frag) (_:Ads):Sp:=λvs H Q _=>∃ (d:Dt) (x:V),vs=[x]/\IsP K H d x/\okD d=true/\Q (.bl (xu d)) H
theorem jR (T:Tx K mg ad) {f:Addr} {fd:FuncData} (F:Gn K mg "figures_of" da ["number"] f fd):FnOk P w K mg base CX0 1 f fd ["number"] (jQ K ad):=by
 refine F.F.ok j8 (λvs H Q E h=>?_) (λcdv A outer s H vs Q E hr h=>?_)
 ·obtain ⟨i,rfl,_⟩:=h
  rfl
 obtain ⟨i,rfl,hi,q⟩:=h;refine ⟨_,(@pss_one _ _ _ (@ps_ret _ _ _ _ (bh kX rfl T.z_str boot_str (@pa1 _ _ _ (pv 0) (0))))),?_⟩;exact ⟨_,rfl,i,rfl,BI hi,q⟩
theorem hZ (T:Tx K mg ad) {f:Addr} {fd:FuncData} (F:Gn K mg "most_figures" cv ["low","high"] f fd):FnOk P w K mg base CX0 2 f fd ["low","high"] (hV K ad):=by
 obtain ⟨_,_,JM⟩:=T.figures_of;have JY:=jR (P:=P) (w:=w) (base:=base) T JM;refine F.F.ok ic (λvs H Q E h=>?_) (λcdv A outer s H vs Q E hr h=>?_)
 ·obtain ⟨i,j,rfl,_⟩:=h
  rfl
 obtain ⟨i,j,rfl,hi,hj,q⟩:=h;refine ⟨_,(@pss_one _ _ _ (@ps_ret _ _ _ _ (pe_callB (rJ rfl) rfl T.z_max boot_max (@pa2 _ _ _ _ _ (pe_callB call_len_str rfl T.z_len PySem.boot_len (@pa1 _ _ _ (pcl JM JY (hr.mono (by lia)) rfl (@pa1 _ _ _ (pv 0) (0))) (0))) (pe_callB call_len_str rfl T.z_len PySem.boot_len (@pa1 _ _ _ (pcl JM JY (hr.mono (by lia)) rfl (@pa1 _ _ _ (pv 1) (0))) (0))) (0) (0))))),?_⟩;have li:=vm hi;have lj:=vm hj;refine ⟨_,rfl,i,rfl,hi,_,rfl,(by rw [ir];exact aAL (aj (by lia))),?_⟩;refine ⟨_,rfl,j,rfl,hj,_,rfl,(by rw [ir];exact aAL (aj (by lia))),?_⟩;refine ⟨_,_,rfl,?_⟩;rw [ir,ir];exact q
theorem fQ (T:Tx K mg ad) {f:Addr} {fd:FuncData} (F:Gn K mg "has_turn_parts" bK ["thing"] f fd):FnOk P w K mg base CX0 1 f fd ["thing"] (fP K ad):=by
 obtain ⟨t_TURN_COUNTS,c_TURN_COUNTS,d_TURN_COUNTS⟩:=T.TURN_COUNTS;refine F.F.ok fU (λvs H Q E h=>?_) (λcdv A outer s H vs Q E hr h=>?_)
 ·obtain ⟨d,x,rfl,_⟩:=h
  rfl
 obtain ⟨d,x,rfl,hd,ok,q⟩:=h;refine ⟨_,(3,@ps_if _ _ _ _ _ _ _ _ (PW.pt (@pw_or _ _ _ _ _ _ _ (@pt_not _ _ _ _ (@pt_val _ _ _ (pe_callB (ay (K:=K) rfl) rfl T.z_isinstance boot_isinstance (@pa2 _ _ _ _ _ (pv 0) (bo rfl T.z_tuple boot_tuple) (0) (0))) (by intro _;rfl))) (@pw_or _ _ _ _ _ _ _ (pt_cmpR op_eq (pe_callB (call_lenDN (K:=K) rfl) rfl T.z_len PySem.boot_len (@pa1 _ _ _ (pv 0) (0))) pe_int (nomark _)) (@pw_or1 _ _ _ _ (@pt_not _ _ _ _ (@pt_val _ _ _ (pe_callB (ay (K:=K) rfl) rfl T.z_isinstance boot_isinstance (@pa2 _ _ _ _ _ (@pi1 K _ _ _ _ _ _ _ rfl (pv 0)) (bo rfl T.z_str boot_str) (0) (0))) (by intro _;rfl))))))) (@pss_one _ _ _ (@ps_ret _ _ _ _ pe_bl)) pss_nil,@pss_one _ _ _ (@ps_ret _ _ _ _ (pe_cmpR op_eq (pe_kget d_TURN_COUNTS rfl c_TURN_COUNTS (@pa1 _ _ _ (@pi1 K _ _ _ _ _ _ _ rfl (pv 0)) (0))) (pe_callB (call_lenDN (K:=K) rfl) rfl T.z_len PySem.boot_len (@pa1 _ _ _ (pv 0) (0))) (nomark _)))),?_⟩
 cases d with
 | non=>cases ok
 | bl=>cases ok
 | int i =>
  cases hd
  exact ⟨_,rfl,_,_,_,rfl,.int_tuple,_,rfl,aq (aq q)⟩
 | str z =>
  cases hd
  exact ⟨_,rfl,_,_,_,rfl,.str_tuple,_,rfl,aq (aq q)⟩
 | tup l =>
  obtain ⟨a,xs,rfl,ha,pa,ra⟩:=id hd.unref;refine ⟨_,rfl,_,_,_,rfl,.tup_tuple ha,_,rfl,aI ?_⟩;refine ⟨_,rfl,_,_,rfl,hd.d,rfl,_,rfl,?_⟩
  cases l with
  | nil=>exact bF (aq q)
  | cons e l =>
   refine iteN (λz=>?_) ?_
   ·injection z with z
    rw [aAs] at z;lia
   have oke:=aO ok e aAh;refine ⟨_,rfl,_,_,_,hd,rfl,at0 _ _,λv hv=>?_⟩
   cases e with
   | non=>cases oke
   | bl=>cases oke
   | int i =>
    cases hv
    exact ⟨_,_,_,rfl,.int_str,_,rfl,aq q⟩
   | tup l =>
    obtain ⟨a1,xs1,rfl,ha1,_,_⟩:=id hv.unref;exact ⟨_,_,_,rfl,.tup_str ha1,_,rfl,aq q⟩
   | str u =>
    obtain rfl:=bp hv;refine ⟨_,_,_,rfl,.str_str,_,rfl,aI ?_⟩;refine ⟨_,rfl,_,_,_,hd,rfl,at0 _ _,isS ?_⟩;refine ⟨_,rfl,_,rfl,_,_,rfl,hd.d,gl u _ _,q⟩
theorem rf (n:Int):1<=figN n:=by
 unfold figN su;have:1<=(dg n.natAbs).length:=by
  unfold dg;rw [aAe];have:Nat.toDigits 10 n.natAbs≠[]:=Nat.toDigits_ne_nil;exact List.length_pos_iff.mpr this
 split
 ·rw [aAs];lia
 ·exact this
theorem vp (i j:Int):1<=vo i j:=by
 have:=rf i;have:=rf j;unfold vo
 split <;> lia
inductive TB:List Dt->Bool->Prop
 | none:TB [] false
 | out:TB [.str "out"] false
 | cut:TB [.str "cut",.int 1] false
 | shrink:TB [.str "shrink",.int 1001] false
 | first:TB [.str "first",.int 1] false
 | figures:TB [.str "figures",.int 0] false
 | bounds:TB [.str "bounds",.int 5,.int 4] true
def jS (K:W.Frag) (_:Ads):Sp:=λvs H Q _=>∃ (t:List Dt) (b:Bool) (i j:Int) (x y:V),vs=[x,y]/\IsP K H (.tup t) x/\IsP K H (bf i j) y/\cT i/\cT j/\TB t b/\∀ H',Same H H'->Q (.bl b) H'
theorem jT (T:Tx K mg ad) {f:Addr} {fd:FuncData} (F:Gn K mg "is_turn_of" de ["turn","kind"] f fd):FnOk P w K mg base CX0 4 f fd ["turn","kind"] (jS K ad):=by
 obtain ⟨_,_,JO⟩:=T.has_turn_parts;have Kc:=fQ (P:=P) (w:=w) (base:=base) T JO;obtain ⟨_,_,Jq⟩:=T.is_factor;have JH:=fH (P:=P) (w:=w) (base:=base) T Jq;obtain ⟨_,_,IW⟩:=T.is_whole;have Jg:=cA (P:=P) (w:=w) (base:=base) T IW;obtain ⟨_,_,JT⟩:=T.most_figures;have Kk:=hZ (P:=P) (w:=w) (base:=base) T JT;obtain ⟨c_TURN_SORTS,d_TURN_SORTS,s_TURN_SORTS⟩:=T.TURN_SORTS;refine F.F.ok eO (λvs H Q E h=>?_) (λcdv A outer s H vs Q E hr h=>?_)
 ·obtain ⟨t,b,i,j,x,y,rfl,_⟩:=h
  rfl
 obtain ⟨t,b,i,j,x,y,rfl,ht,hd,hi,hj,tb,q⟩:=h;refine ⟨_,(3,@ps_if _ _ _ _ _ _ _ _ (PW.pt (@pw_or _ _ _ _ _ _ _ (@pt_not _ _ _ _ (@pt_val _ _ _ (pcl JO Kc (hr.mono (by lia)) rfl (@pa1 _ _ _ (pv 0) (0))) (by intro _;rfl))) (@pw_or1 _ _ _ _ (pt_cmpR op_notIn_seq (@pi1 K _ _ _ _ _ _ _ rfl (pv 1)) (pe_kgetA d_TURN_SORTS rfl c_TURN_SORTS (@pi1 K _ _ _ _ _ _ _ rfl (pv 0)) (1,@pa1 _ _ _ (@pi1 K _ _ _ _ _ _ _ rfl (pv 1)) (0)) ⟨rfl,rfl,rfl,rfl⟩) rfl)))) (@pss_one _ _ _ (@ps_ret _ _ _ _ pe_bl)) pss_nil,(3,@ps_set _ _ 2 _ _ _ _ eO.nd rfl (Or.inl rfl) (@pi1 K _ _ _ _ _ _ _ rfl (pv 0)) (0) (.inl rfl),(3,@ps_if _ _ _ _ _ _ _ _ (pt_cmpR op_eq (pv 2) pe_str (nomark _)) aM pss_nil,(3,@ps_if _ _ _ _ _ _ _ _ (pt_cmpR op_eq (pv 2) pe_str (nomark _)) (@pss_one _ _ _ (@ps_ret _ _ _ _ (pe_and (pcl Jq JH (hr.mono (by lia)) rfl (@pa1 _ _ _ (@pi1 K _ _ _ _ _ _ _ rfl (pv 0)) (0))) (pe_and (pe_cmpR op_eq (@pe_op _ _ _ _ _ _ _ _ dE (@pi1 K _ _ _ _ _ _ _ rfl (pv 1)) (@pi1 K _ _ _ _ _ _ _ rfl (pv 0))) pe_int (nomark _)) (pe_one (pe_cmpR op_eq (@pe_op _ _ _ _ _ _ _ _ dE (@pi1 K _ _ _ _ _ _ _ rfl (pv 1)) (@pi1 K _ _ _ _ _ _ _ rfl (pv 0))) pe_int (nomark _))))))) pss_nil,(3,@ps_if _ _ _ _ _ _ _ _ (pt_cmpR op_eq (pv 2) pe_str (nomark _)) (@pss_one _ _ _ (@ps_ret _ _ _ _ (pe_and (pcl IW Jg (hr.mono (by lia)) rfl (@pa1 _ _ _ (@pi1 K _ _ _ _ _ _ _ rfl (pv 0)) (0))) (pe_one (pe_cmpR op_le (pcl JT Kk (hr.mono (by lia)) rfl (@pa2 _ _ _ _ _ (@pi1 K _ _ _ _ _ _ _ rfl (pv 1)) (@pi1 K _ _ _ _ _ _ _ rfl (pv 1)) (0) (0))) (@pi1 K _ _ _ _ _ _ _ rfl (pv 0)) (nomark _)))))) pss_nil,(3,@ps_if _ _ _ _ _ _ _ _ (pt_cmpR op_eq (pv 2) pe_str (nomark _)) aM pss_nil,(3,@ps_if _ _ _ _ _ _ _ _ (pt_cmpR op_eq (pv 2) pe_str (nomark _)) aM pss_nil,(3,@ps_if _ _ _ _ _ _ _ _ (pt_cmpR op_eq (pv 2) pe_str (nomark _)) aM pss_nil,(3,@ps_if _ _ _ _ _ _ _ _ (pt_cmpR op_eq (pv 2) pe_str (nomark _)) aM pss_nil,(3,@ps_if _ _ _ _ _ _ _ _ (pt_cmpR op_eq (pv 2) pe_str (nomark _)) aM pss_nil,@pss_one _ _ _ (@ps_ret _ _ _ _ pe_bl))))))))))),?_⟩;refine ⟨_,rfl,.tup t,x,rfl,ht,(by cases tb <;> rfl),?_⟩
 cases tb with
 | none=>exact ⟨_,rfl,aq (aq (q H (Same.refl H)))⟩
 | out =>
  refine ⟨_,rfl,aI ?_⟩;refine ⟨_,rfl,_,_,_,hd,rfl,at0 _ _,isS ?_⟩;refine ⟨_,rfl,_,_,_,ht,rfl,at0 _ _,isS ?_⟩;refine ⟨_,rfl,_,_,_,hd,rfl,at0 _ _,isS ?_⟩;refine ⟨[.str _],.cons .str .nil,sz1,λv4 H4 g4 hv4=>?_⟩;exact ⟨_,rfl,242,_,rfl,.inr (s_TURN_SORTS (242,["list"]) (by simp) _),rfl,rfl,_,rfl,cx (λc=>q _ g4) (λc=>absurd (by decide +kernel) c)⟩
 | cut =>
  refine ⟨_,rfl,aI ?_⟩;refine ⟨_,rfl,_,_,_,hd,rfl,at0 _ _,isS ?_⟩;refine ⟨_,rfl,_,_,_,ht,rfl,at0 _ _,isS ?_⟩;refine ⟨_,rfl,_,_,_,hd,rfl,at0 _ _,isS ?_⟩;refine ⟨[.str _],.cons .str .nil,sz1,λv4 H4 g4 hv4=>?_⟩;exact ⟨_,rfl,240,_,rfl,.inr (s_TURN_SORTS (240,["text"]) (by simp) _),rfl,rfl,_,rfl,cx (λc=>q _ g4) (λc=>absurd (by decide +kernel) c)⟩
 | first =>
  refine ⟨_,rfl,aI ?_⟩;refine ⟨_,rfl,_,_,_,hd,rfl,at0 _ _,isS ?_⟩;refine ⟨_,rfl,_,_,_,ht,rfl,at0 _ _,isS ?_⟩;refine ⟨_,rfl,_,_,_,hd,rfl,at0 _ _,isS ?_⟩;refine ⟨[.str _],.cons .str .nil,sz1,λv4 H4 g4 hv4=>?_⟩;exact ⟨_,rfl,241,_,rfl,.inr (s_TURN_SORTS (241,["list","rows"]) (by simp) _),rfl,rfl,_,rfl,cx (λc=>q _ g4) (λc=>absurd (by decide +kernel) c)⟩
 | shrink =>
  refine ⟨_,rfl,aI ?_⟩;refine ⟨_,rfl,_,_,_,hd,rfl,at0 _ _,isS ?_⟩;refine ⟨_,rfl,_,_,_,ht,rfl,at0 _ _,isS ?_⟩;refine ⟨_,rfl,_,_,_,hd,rfl,at0 _ _,isS ?_⟩;refine ⟨[.str _],.cons .str .nil,sz1,λv4 H4 g4 hv4=>?_⟩;refine ⟨_,rfl,236,_,rfl,.inr (s_TURN_SORTS (236,["number"]) (by simp) _),rfl,rfl,_,rfl,cx (λc=>absurd c (by decide +kernel)) (λ_=>?_)⟩;refine ⟨_,rfl,_,_,_,ht.same g4,rfl,at0 _ _,isS ?_⟩;refine af rfl (by decide) (be rfl ?_);refine ⟨_,rfl,_,_,_,ht.same g4,rfl,rfl,λv6 hv6=>⟨.int 1001,v6,rfl,hv6,rfl,?_⟩⟩;exact ⟨_,rfl,aI (q _ g4)⟩
 | figures =>
  refine ⟨_,rfl,aI ?_⟩;refine ⟨_,rfl,_,_,_,hd,rfl,at0 _ _,isS ?_⟩;refine ⟨_,rfl,_,_,_,ht,rfl,at0 _ _,isS ?_⟩;refine ⟨_,rfl,_,_,_,hd,rfl,at0 _ _,isS ?_⟩;refine ⟨[.str _],.cons .str .nil,sz1,λv4 H4 g4 hv4=>?_⟩;refine ⟨_,rfl,237,_,rfl,.inr (s_TURN_SORTS (237,["number"]) (by simp) _),rfl,rfl,_,rfl,cx (λc=>absurd c (by decide +kernel)) (λ_=>?_)⟩;refine ⟨_,rfl,_,_,_,ht.same g4,rfl,at0 _ _,isS ?_⟩;refine af rfl (by decide) (af rfl (by decide) (be rfl ?_));refine ⟨_,rfl,_,_,_,ht.same g4,rfl,rfl,λv6 hv6=>⟨.int 0,v6,rfl,hv6,rfl,?_⟩⟩;refine ⟨_,rfl,aq ?_⟩;refine ⟨_,rfl,_,_,_,hd.same g4,rfl,rfl,λa1 h1=>⟨_,rfl,_,_,_,hd.same g4,rfl,rfl,λa2 h2=>?_⟩⟩;obtain rfl:=cG h1;obtain rfl:=cG h2;refine ⟨i,j,rfl,hi,hj,_,rfl,_,_,_,ht.same g4,rfl,rfl,isI ?_⟩;have:=vp i j;refine ⟨_,_,rfl,rfl,?_⟩;rw [decide_eq_false (by lia)];exact q _ g4
 | bounds =>
  refine ⟨_,rfl,aI ?_⟩;refine ⟨_,rfl,_,_,_,hd,rfl,at0 _ _,isS ?_⟩;refine ⟨_,rfl,_,_,_,ht,rfl,at0 _ _,isS ?_⟩;refine ⟨_,rfl,_,_,_,hd,rfl,at0 _ _,isS ?_⟩;refine ⟨[.str _],.cons .str .nil,sz1,λv4 H4 g4 hv4=>?_⟩;refine ⟨_,rfl,234,_,rfl,.inr (s_TURN_SORTS (234,["number"]) (by simp) _),rfl,rfl,_,rfl,cx (λc=>absurd c (by decide +kernel)) (λ_=>?_)⟩;refine ⟨_,rfl,_,_,_,ht.same g4,rfl,at0 _ _,isS ?_⟩;exact af rfl (by decide) (af rfl (by decide) (af rfl (by decide) (af rfl (by decide) (af rfl (by decide) (af rfl (by decide) (af rfl (by decide) (af rfl (by decide) (q _ g4))))))))
def oy (K:W.Frag) (_:Ads):Sp:=λvs H Q _=>∃ (i j:Int) (x y:V),vs=[x,y]/\IsP K H (.tup [.str "bounds",.int i,.int j]) x/\∀ v H',Same H H'->IsP K H' (bf i j) v->Q v H'
theorem oz (T:Tx K mg ad) {f:Addr} {fd:FuncData} (F:Gn K mg "led_kind" eY ["turn","kind"] f fd):FnOk P w K mg base CX0 1 f fd ["turn","kind"] (oy K ad):=by
 refine F.F.ok gP (λvs H Q E h=>?_) (λcdv A outer s H vs Q E hr h=>?_)
 ·obtain ⟨i,j,x,y,rfl,_⟩:=h
  rfl
 obtain ⟨i,j,x,y,rfl,ht,q⟩:=h;refine ⟨_,(3,@ps_set _ _ 2 _ _ _ _ gP.nd rfl (Or.inl rfl) (@pi1 K _ _ _ _ _ _ _ rfl (pv 0)) (0) (.inl rfl),(3,@ps_if _ _ _ _ _ _ _ _ (pt_cmpR (op_in_seqK (K:=K) rfl) (pv 2) (1,@pa2 _ _ _ _ _ pe_str pe_str (0) (0)) rfl) (@pss_one _ _ _ (@ps_ret _ _ _ _ (1,@pa3 _ _ _ _ _ _ _ pe_str (@pi1 K _ _ _ _ _ _ _ rfl (pv 0)) (@pi1 K _ _ _ _ _ _ _ rfl (pv 0)) (0) (0) (0)))) pss_nil,aM)),?_⟩;refine ⟨_,rfl,_,_,_,ht,rfl,rfl,isS ?_⟩;refine om rfl λH1 g1=>?_;refine ⟨_,rfl,_,_,_,ht.same g1,rfl,rfl,λa1 h1=>⟨_,rfl,_,_,_,ht.same g1,rfl,rfl,λa2 h2=>?_⟩⟩;exact ⟨[.str "number",.int i,.int j],.cons .str (.cons h1 (.cons h2 .nil)),sz3,λv H2 g2 hv=>q v H2 (g1.trans g2) hv⟩
def jd (K:W.Frag) (ad:Ads):Sp:=λvs H Q E=>∃ (t:List Dt) (b:Bool) (i j:Int) (x y:V),vs=[x,y]/\IsP K H (.tup t) x/\IsP K H (bf i j) y/\cT i/\cT j/\TB t b/\∀ H',Same H H'->E (.ref ad.BadTurn) none H'
theorem je (T:Tx K mg ad) {f:Addr} {fd:FuncData} (F:Gn K mg "kind_behind" cI ["turn","kind"] f fd):FnOk P w K mg base (CXE P w) 24 f fd ["turn","kind"] (jd K ad):=by
 obtain ⟨_,_,J3⟩:=T.is_turn_of;have Ky:=jT (P:=P) (w:=w) (base:=base) T J3;obtain ⟨_,_,IT⟩:=T.made_kind;have Jw:=c6 (P:=P) (w:=w) (base:=base) T IT;obtain ⟨_,_,Kf⟩:=T.led_kind;have KS:=oz (P:=P) (w:=w) (base:=base) T Kf;refine F.F.okE ju (λvs H Q E h=>?_) (λcdv A outer s H vs Q E hr h=>?_)
 ·obtain ⟨t,b,i,j,x,y,rfl,_⟩:=h
  rfl
 obtain ⟨t,b,i,j,x,y,rfl,ht,hd,hi,hj,tb,q⟩:=h;refine ⟨_,(3,@ps_if _ _ _ _ _ _ _ _ (@pt_not _ _ _ _ (@pt_val _ _ _ (pcl J3 Ky (hr.mono (by lia)) rfl (@pa2 _ _ _ _ _ (pv 0) (pv 1) (0) (0))) (by intro _;rfl))) (@pss_one _ _ _ (ps_raise xeOf rfl rfl rfl rfl T.x_BadTurn rfl (@pa1 _ _ _ pe_str (0)))) pss_nil,@pss_one _ _ _ (ps_tryRF xeOf rfl rfl rfl (px_call2 Jw (hr.mono (by first | decide | lia)) rfl IT.m IT.F.kp IT.b (@pa1 _ _ _ (pcl Kf KS (hr.mono (by lia)) rfl (@pa2 _ _ _ _ _ (pv 0) (pv 1) (0) (0))) (0))) T.x_BadKind.m rfl T.x_BadTurn rfl (λ_=>(@pa1 _ _ _ pe_str (0))))),?_⟩;refine ⟨_,rfl,_,rfl,t,b,i,j,x,y,rfl,ht,hd,hi,hj,tb,λH1 g1=>⟨_,rfl,?_⟩⟩;have no:b=false->E (.ref ad.BadTurn) none H1:=λ_=>q H1 g1
 cases b
 ·exact aq ⟨sz1,q H1 g1⟩
 refine aI ?_
 cases tb
 refine ⟨_,rfl,_,rfl,5,4,x,y,rfl,ht.same g1,λv H2 g2 hv=>?_⟩;exact ⟨_,v,rfl,hv,rfl,.inl ⟨by decide,λH3 g3=>⟨ad.BadKind,rfl,T.exk,sz1,q H3 ((g1.trans g2).trans g3)⟩⟩⟩
abbrev dsP (p:Pc) (fs:List (Str×Dt)):List Dt:=(osP p fs).filterMap id
def jU (K:W.Frag) (_:Ads):Sp:=λvs H Q _=>∃ (p:Pc) (fs:List (Str×Dt)) (x y:V),vs=[x,y]/\IsP K H (pcD p) x/\IsP K H (aF fs) y/\KT (aF fs)/\(osP p fs).any Option.isNone=false/\∀ v H',Same H H'->IsP K H' (.tup (dsP p fs)) v->Q v H'
theorem jV (T:Tx K mg ad) {f:Addr} {fd:FuncData} (F:Gn K mg "old_values" bZ ["piece","record"] f fd):FnOk P w K mg base CX0 3 f fd ["piece","record"] (jU K ad):=by
 obtain ⟨_,_,J0⟩:=T.value_down;have KA:=jN (P:=P) (w:=w) (base:=base) T J0;obtain ⟨_,_,IY⟩:=T.taken_paths;have Jo:=ck (P:=P) (w:=w) (base:=base) T IY;refine F.F.ok kb (λvs H Q E h=>?_) (λcdv A outer s H vs Q E hr h=>?_)
 ·obtain ⟨p,fs,x,y,rfl,_⟩:=h
  rfl
 obtain ⟨p,fs,x,y,rfl,hx,hy,kt,hN,q⟩:=h;refine ⟨_,(@pss_one _ _ _ (@ps_ret _ _ _ _ (bh (bY (K:=K) rfl) rfl T.z_tuple boot_tuple (@pa1 _ _ _ (bA rfl (csR (sc:=aa bZ) (NL:=["path"]) (N:=["piece","record"]) (ρ:=[1]) (N':=["path","record"]) rfl rfl rfl (by decide +kernel) (by decide +kernel) (by decide +kernel) rfl (by decide +kernel)) (cg (K:=K) rfl (pcl IY Jo (hr.mono (by lia)) rfl (@pa1 _ _ _ (pv 0) (0)))) (λ_ _ _ _=>(ai (i:=0) (show List.Nodup (α:=Str) ["path","record"] by decide +kernel) rfl (Or.inl rfl))) (λ_ _ _ _=>(pcl J0 KA (hr.mono (by lia)) rfl (@pa2 _ _ _ _ _ (pv 1) (pv 0) (0) (0))))) (0))))),?_⟩;refine ⟨_,rfl,p,x,rfl,hx,λa H1 ha g1 ⟨us,e1,hus⟩=>?_⟩;have lu:us.length=(bS p).length:=by rw [<- hus.length,aAe]
 have l2:=rd p;refine ⟨a,rfl,⟨_,SqL.of e1⟩,λl hl=>?_⟩;refine cf (K:=K) (xs:=us) (λj ys σ H'=>Same H1 H'/\H' l=some (.lst ys)/\IsOs K H' ((osP p fs).take j) ys/\∃ v1,σ=[v1,some y]) ⟨ae hl _,ac,.nil,none,rfl⟩ (λj ys σ H' _ pv=>SqL.of (pv.1 _ _ e1)) ?_ ?_
 ·rintro j u ys σ H2 N hu ⟨s2,e2,d2,v1,rfl⟩ next;obtain ⟨d,hd,hpd⟩:=hus.get' hu;rw [aAt] at hd;obtain ⟨ns,hns,rfl⟩:=aAu.mp hd;obtain ⟨e,he⟩:∃ e,aT (some (aF fs)) ns=some e:=by
   cases hd:aT (some (aF fs)) ns with
   | some e=>exact ⟨e,rfl⟩
   | none =>
    have:(osP p fs).any Option.isNone=true:=List.any_eq_true.mpr ⟨none,aAN.mpr ⟨ns,aAw hns,hd⟩,rfl⟩;rw [hN] at this
    cases this
  refine ⟨_,rfl,_,rfl,aF fs,e,ns,y,u,rfl,(hy.same g1).same s2,hpd.same s2,kt,he,λv hv=>?_⟩;refine ⟨e2,?_,next _ _ _ ⟨aS hl s2,ac,?_,_,rfl⟩⟩
  ·rw [<- IsOs.length d2];exact aj (by have:=aA8 j (osP p fs);rw [aAe] at this;lia)
  ·rw [aAM,aAt,hns];refine IsOs.but e2 But.put (IsOs.snoc d2 ?_);show IsO K H2 (aT (some (aF fs)) ns) v;rw [he];exact hv
 ·rintro ys σ H2 ⟨s2,e2,d2,v1,rfl⟩;have d3:IsOs K H2 (osP p fs) ys:=by
   rw [lu,show (bS p).length=(osP p fs).length from (aAe _).symm,aAB] at d2;exact d2
  exact ⟨l,ys,_,rfl,SqL.of e2,IsOs.all d3 hN,λvt H3 g3 hvt=>q vt H3 ((g1.trans s2).trans g3) hvt⟩
def mkK (p:Pc) (ds:List Dt):List Dt:=match p with
 | .put _ t _=>[.tup t]
 | .drop _ _=>[]
 | .split _ _ _ _=>[ds.getD 0 .non,ds.getD 0 .non]
 | .part _ k _ _=>match ds with
  | [.tup [_,.int i,.int j]]=>[bf (i / k) (j / k),bf 0 (k - 1)]
  | _=>[]
 | .whole _ _ _ _ i j=>[bf i j]
 | _=>[ds.getD 0 .non]
def CM (p:Pc) (ds:List Dt):Prop:=match p with
 | .put _ _ _=>True
 | .drop _ _=>True
 | .whole _ _ _ _ _ _=>True
 | .part _ k _ _=>(∃ i j,ds=[bf i j])/\2<=k/\k<=1000
 | .turn _ t=>∃ i j b,ds=[bf i j]/\cT i/\cT j/\TB t b
 | _=>∃ d r,ds=d :: r
def jW (K:W.Frag) (ad:Ads):Sp:=λvs H Q E=>∃ (p:Pc) (ds:List Dt) (x y:V),vs=[x,y]/\IsP K H (pcD p) x/\IsP K H (.tup ds) y/\CM p ds/\((∃ z t,p=.turn z t)->∀ H',Same H H'->E (.ref ad.BadTurn) none H')/\((∀ z t,p≠.turn z t)->∀ v H',Same H H'->IsP K H' (.tup (mkK p ds)) v->Q v H')
theorem jX (T:Tx K mg ad) {f:Addr} {fd:FuncData} (F:Gn K mg "made_kinds" dj ["piece","kinds"] f fd):FnOk P w K mg base (CXE P w) 25 f fd ["piece","kinds"] (jW K ad):=by
 obtain ⟨_,_,Jx⟩:=T.kind_behind;have Kq:=je (P:=P) (w:=w) (base:=base) T Jx;obtain ⟨_,_,Js⟩:=T.part_kinds;have JN:=eI (P:=P) (w:=w) (base:=base) T Js;refine F.F.okW eQ (λvs H Q E h=>?_) (λcdv A outer s H vs Q E hr h=>?_)
 ·obtain ⟨p,ds,x,y,rfl,_⟩:=h
  rfl
 obtain ⟨p,ds,x,y,rfl,hx,hy,cm,qt,q⟩:=h;refine ⟨_,(3,@ps_set _ _ 2 _ _ _ _ eQ.nd rfl (Or.inl rfl) (@pi1 K _ _ _ _ _ _ _ rfl (pv 0)) (0) (.inl rfl),(3,@ps_if _ _ _ _ _ _ _ _ (pt_cmpR op_eq (pv 2) pe_str (nomark _)) (@pss_one _ _ _ (@ps_ret _ _ _ _ (1,@pa1 _ _ _ (@pi1 K _ _ _ _ _ _ _ rfl (pv 0)) (0)))) pss_nil,(3,@ps_if _ _ _ _ _ _ _ _ (pt_cmpR op_eq (pv 2) pe_str (nomark _)) (@pss_one _ _ _ (@ps_ret _ _ _ _ (1,cW))) pss_nil,(3,@ps_if _ _ _ _ _ _ _ _ (pt_cmpR op_eq (pv 2) pe_str (nomark _)) (@pss_one _ _ _ (@ps_ret _ _ _ _ (1,@pa1 _ _ _ (pe_call Kq (hr.mono (by first | decide | lia)) rfl Jx.m Jx.F.kp Jx.b .nil (wing_on rfl rfl rfl) (@pa2 _ _ _ _ _ (@pi1 K _ _ _ _ _ _ _ rfl (pv 0)) (@pi1 K _ _ _ _ _ _ _ rfl (pv 1)) (0) (0))) (0)))) pss_nil,(3,@ps_if _ _ _ _ _ _ _ _ (pt_cmpR op_eq (pv 2) pe_str (nomark _)) (@pss_one _ _ _ (@ps_ret _ _ _ _ (1,@pa2 _ _ _ _ _ (@pi1 K _ _ _ _ _ _ _ rfl (pv 1)) (@pi1 K _ _ _ _ _ _ _ rfl (pv 1)) (0) (0)))) pss_nil,(3,@ps_if _ _ _ _ _ _ _ _ (pt_cmpR op_eq (pv 2) pe_str (nomark _)) (@pss_one _ _ _ (@ps_ret _ _ _ _ (pcl Js JN (hr.mono (by lia)) rfl (@pa3 _ _ _ _ _ _ _ (@pi1 K _ _ _ _ _ _ _ rfl (@pi1 K _ _ _ _ _ _ _ rfl (pv 1))) (@pi1 K _ _ _ _ _ _ _ rfl (@pi1 K _ _ _ _ _ _ _ rfl (pv 1))) (@pi1 K _ _ _ _ _ _ _ rfl (pv 0)) (0) (0) (0))))) pss_nil,(3,@ps_if _ _ _ _ _ _ _ _ (pt_cmpR op_eq (pv 2) pe_str (nomark _)) (@pss_one _ _ _ (@ps_ret _ _ _ _ (1,@pa1 _ _ _ (1,@pa3 _ _ _ _ _ _ _ pe_str (@pi1 K _ _ _ _ _ _ _ rfl (pv 0)) (@pi1 K _ _ _ _ _ _ _ rfl (pv 0)) (0) (0) (0)) (0)))) pss_nil,@pss_one _ _ _ (@ps_ret _ _ _ _ (1,@pa1 _ _ _ (@pi1 K _ _ _ _ _ _ _ rfl (pv 1)) (0)))))))))),?_⟩;have one:∀ {u:V} {d:Dt} {H1:Hp},(∀ z t,p≠.turn z t)->mkK p ds=[d]->Same H H1->IsP K H1 d u->ITup K [u] H1 (λv H'=>Q v H'):=λnt e g hu=>⟨[_],.cons hu .nil,sz1,λv H2 g2 hv=>q nt v H2 (g.trans g2) (by rw [e];exact hv)⟩
 cases p with
 | put z t v =>
  refine ⟨_,rfl,_,_,_,hx,rfl,rfl,isS ?_⟩;refine be rfl ?_;exact ⟨_,rfl,_,_,_,hx,rfl,rfl,λu1 hu1=>one (λz t=>nofun) rfl (Same.refl H) hu1⟩
 | drop z v =>
  refine ⟨_,rfl,_,_,_,hx,rfl,rfl,isS ?_⟩;refine af rfl (by decide) (be rfl ?_);exact ⟨[],.nil,(by show 0<=sizeLine;decide),λv H2 g2 hv=>q (λz t=>nofun) v H2 g2 hv⟩
 | turn z t =>
  obtain ⟨i,j,b,rfl,hi,hj,tb⟩:=cm;refine ⟨_,rfl,_,_,_,hx,rfl,rfl,isS ?_⟩;refine af rfl (by decide) (af rfl (by decide) (be rfl ?_));refine ⟨_,rfl,_,_,_,hx,rfl,rfl,λu1 hu1=>⟨_,rfl,_,_,_,hy,rfl,at0 _ _,λu2 hu2=>?_⟩⟩;exact ⟨t,b,i,j,u1,u2,rfl,hu1,hu2,hi,hj,tb,qt ⟨z,t,rfl⟩⟩
 | split z s x1 y1 =>
  obtain ⟨d,r,rfl⟩:=cm;refine ⟨_,rfl,_,_,_,hx,rfl,rfl,isS ?_⟩;refine af rfl (by decide) (af rfl (by decide) (af rfl (by decide) (be rfl ?_)));refine ⟨_,rfl,_,_,_,hy,rfl,at0 _ _,λu1 hu1=>⟨_,rfl,_,_,_,hy,rfl,at0 _ _,λu2 hu2=>?_⟩⟩;exact ⟨[d,d],.cons hu1 (.cons hu2 .nil),sz2,λv H2 g2 hv=>q (λz t=>nofun) v H2 g2 hv⟩
 | part z k x1 y1 =>
  obtain ⟨⟨i,j,rfl⟩,k2,k1⟩:=cm;refine ⟨_,rfl,_,_,_,hx,rfl,rfl,isS ?_⟩;refine af rfl (by decide) (af rfl (by decide) (af rfl (by decide) (af rfl (by decide) (be rfl ?_))));refine ⟨_,rfl,_,_,_,hy,rfl,at0 _ _,λu1 hu1=>⟨_,_,_,hu1,rfl,rfl,λu2 hu2=>?_⟩⟩;obtain rfl:=cG hu2;refine ⟨_,rfl,_,_,_,hy,rfl,at0 _ _,λu3 hu3=>⟨_,_,_,hu3,rfl,rfl,λu4 hu4=>?_⟩⟩;obtain rfl:=cG hu4;refine ⟨_,rfl,_,_,_,hx,rfl,rfl,isI ?_⟩;exact ⟨i,j,k,rfl,k2,k1,λv H2 g2 hv=>q (λz t=>nofun) v H2 g2 hv⟩
 | whole z y1 k x1 i j =>
  refine ⟨_,rfl,_,_,_,hx,rfl,rfl,isS ?_⟩;refine af rfl (by decide) (af rfl (by decide) (af rfl (by decide) (af rfl (by decide) (af rfl (by decide) (be rfl ?_)))));refine ⟨_,rfl,_,_,_,hx,rfl,rfl,λu1 hu1=>⟨_,rfl,_,_,_,hx,rfl,rfl,λu2 hu2=>?_⟩⟩;exact ⟨[.str "number",.int i,.int j],.cons .str (.cons hu1 (.cons hu2 .nil)),sz3,λv H2 g2 hv=>one (λz t=>nofun) rfl g2 hv⟩
 | name z y1 =>
  obtain ⟨d,r,rfl⟩:=cm;refine ⟨_,rfl,_,_,_,hx,rfl,rfl,isS ?_⟩;refine af rfl (by decide) (af rfl (by decide) (af rfl (by decide) (af rfl (by decide) (af rfl (by decide) (af rfl (by decide) ?_)))));exact ⟨_,rfl,_,_,_,hy,rfl,at0 _ _,λu1 hu1=>one (λz t=>nofun) rfl (Same.refl H) hu1⟩
 | sink z y1 =>
  obtain ⟨d,r,rfl⟩:=cm;refine ⟨_,rfl,_,_,_,hx,rfl,rfl,isS ?_⟩;refine af rfl (by decide) (af rfl (by decide) (af rfl (by decide) (af rfl (by decide) (af rfl (by decide) (af rfl (by decide) ?_)))));exact ⟨_,rfl,_,_,_,hy,rfl,at0 _ _,λu1 hu1=>one (λz t=>nofun) rfl (Same.refl H) hu1⟩
 | lift z y1 =>
  obtain ⟨d,r,rfl⟩:=cm;refine ⟨_,rfl,_,_,_,hx,rfl,rfl,isS ?_⟩;refine af rfl (by decide) (af rfl (by decide) (af rfl (by decide) (af rfl (by decide) (af rfl (by decide) (af rfl (by decide) ?_)))));exact ⟨_,rfl,_,_,_,hy,rfl,at0 _ _,λu1 hu1=>one (λz t=>nofun) rfl (Same.refl H) hu1⟩
 | join z y1 s x1 =>
  obtain ⟨d,r,rfl⟩:=cm;refine ⟨_,rfl,_,_,_,hx,rfl,rfl,isS ?_⟩;refine af rfl (by decide) (af rfl (by decide) (af rfl (by decide) (af rfl (by decide) (af rfl (by decide) (af rfl (by decide) ?_)))));exact ⟨_,rfl,_,_,_,hy,rfl,at0 _ _,λu1 hu1=>one (λz t=>nofun) rfl (Same.refl H) hu1⟩
theorem gu {f:Str×Dt}:∀ {fs:List (Str×Dt)},(fs.map (·.1)).Nodup->f∈fs->am fs f.1=some f.2
 | [],_,h=>by simp at h
 | g :: fs,nd,h=>by
  have nd':=aBb.mp nd;rcases aAb.mp h with rfl | h
  ·simp [am]
  ·have e:¬ g.1=f.1:=λq=>nd'.1 (aAN.mpr ⟨f,h,q.symm⟩);have e2:am (g :: fs) f.1=am fs f.1:=by simp [am,e]
   rw [e2];exact gu nd'.2 h
def Gd (n:Nat) (fs:List (Str×Dt)):Prop:=(fs.map (·.1)).Pairwise ltS/\fs.length<=7/\∀ g∈fs,KT g.2/\g.2.dep<=n
theorem Gd.kt {n:Nat} {fs:List (Str×Dt)} (h:Gd n fs) (hn:n<=47):KT (aF fs) :=
 .rc h.1 h.2.1 (λg hg=>(h.2.2 g hg).1) (by have:=lY (fs:=fs) λg hg=>(h.2.2 g hg).2;lia)
abbrev mf (fs:List (Str×Dt)) (z:Str):List (Str×Dt):=fs.filter λg=>!decide (g.1∈[z])
theorem Gd.out {n:Nat} {fs:List (Str×Dt)} (h:Gd n fs) (z:Str):Gd n (mf fs z) :=
 ⟨h.1.sublist (List.Sublist.map _ List.filter_sublist),aAx (aBS _ _) h.2.1,λg hg=>h.2.2 g (aBM.mp hg).1⟩
inductive Drp:List (Str×Dt)->List Str->List (Str×Dt)->Prop
 | one {fs:List (Str×Dt)} {z:Str}:Drp fs [z] (mf fs z)
 | two {fs gs:List (Str×Dt)} {z y:Str}:am fs z=some (aF gs)->Gd 37 gs->Drp fs [z,y] (fs.map λg=>if g.1=z then (z,aF (mf gs y)) else g)
theorem Drp.gd {fs rs:List (Str×Dt)} {ns:List Str} (h:Drp fs ns rs) (g:Gd 40 fs):Gd 40 rs:=by
 cases h with
 | one=>exact g.out _
 | two hl hg =>
  rename_i gs z y
  refine ⟨?_,by rw [aAe];exact g.2.1,λe he=>?_⟩
  ·have e:(fs.map λg=>if g.1=z then (z,aF (mf gs y)) else g).map (·.1)=fs.map (·.1):=by
    rw [aAz];refine aBd λf _=>?_;show (if f.1=z then (z,aF (mf gs y)) else f).1=f.1
    split
    ·rename_i e;exact e.symm
    ·rfl
   rw [e];exact g.1
  ·obtain ⟨f,hf,rfl⟩:=aAN.mp he
   split
   ·have go:=hg.out y;exact ⟨go.kt (by decide),lY λg hg=>(go.2.2 g hg).2⟩
   ·exact g.2.2 f hf
theorem gv {K:W.Frag} {H:Hp} {z:Str} {v:V} (h:IsP K H (fI [z]) v):∃ a,v=.ref a/\SqT K H a [.str z]:=by
 obtain ⟨a,xs,rfl,ha,pa,ra⟩:=h.unref
 cases ra with
 | cons r1 rb =>
  cases rb
  obtain rfl:=bp r1;exact ⟨a,rfl,ha⟩
def BJ (K:W.Frag):Sp:=λvs H Q _=>∃ (fs:List (Str×Dt)) (z:Str) (x y:V),vs=[x,y]/\IsP K H (aF fs) x/\fs.length<=8/\IsP K H (fI [z]) y/\∀ v H',Same H H'->IsP K H' (aF (mf fs z)) v->Q v H'
theorem vq (n:Nat) (T:Tx K mg ad) {f:Addr} {fd:FuncData} (F:Gn K mg "without_down" bg ["record","path"] f fd):FnOk P w K mg base CX0 (n+2) f fd ["record","path"] (BJ K):=by
 obtain ⟨_,_,Jf⟩:=T.without_fields;have JA:=cB (P:=P) (w:=w) (base:=base) T Jf;obtain ⟨f1,d1,IZ⟩:=T.without_down;have Jk:FnOk P w K mg base CX0 1 f1 d1 ["record","path"] (λ_ _ _ _=>False):=il λ_ _ _ _ z=>z;obtain ⟨f2,d2,Jc⟩:=T.with_fields;have Jn:FnOk P w K mg base CX0 1 f2 d2 ["record","names","values"] (λ_ _ _ _=>False):=il λ_ _ _ _ z=>z;obtain ⟨_,_,Ji⟩:=T.field_of;have JE:=dM (P:=P) (w:=w) (base:=base) T Ji;refine F.F.ok bu (λvs H Q E h=>?_) (λcdv A outer s H vs Q E hr h=>?_)
 ·obtain ⟨fs,z,x,y,rfl,_⟩:=h
  rfl
 obtain ⟨fs,z,x,y,rfl,hx,l8,hy,q⟩:=h;refine ⟨_,(3,@ps_if _ _ _ _ _ _ _ _ (pt_cmpR op_eq (pe_callB (call_lenDN (K:=K) rfl) rfl T.z_len PySem.boot_len (@pa1 _ _ _ (pv 1) (0))) pe_int (nomark _)) (@pss_one _ _ _ (@ps_ret _ _ _ _ (pcl Jf JA (hr.mono (by lia)) rfl (@pa2 _ _ _ _ _ (pv 0) (pv 1) (0) (0))))) pss_nil,(3,@ps_set _ _ 2 _ _ _ _ bu.nd rfl (Or.inl rfl) (pcl IZ Jk (hr.mono (by lia)) rfl (@pa2 _ _ _ _ _ (pcl Ji JE (hr.mono (by lia)) rfl (@pa2 _ _ _ _ _ (pv 0) (@pi1 K _ _ _ _ _ _ _ rfl (pv 1)) (0) (0))) (bO (cQ (K:=K) rfl) (pv 1) (bX pe_int) cX) (0) (0))) (0) (.inl rfl),@pss_one _ _ _ (@ps_ret _ _ _ _ (pcl Jc Jn (hr.mono (by lia)) rfl (@pa3 _ _ _ _ _ _ _ (pv 0) (bO (cQ (K:=K) rfl) (pv 1) cX (bX pe_int)) (@ao _ _ _ _ (@pa1 _ _ _ (pv 2) (0))) (0) (0) (0)))))),?_⟩;obtain ⟨a,rfl,ha⟩:=gv hy;refine ⟨_,rfl,_,_,rfl,hy.d,rfl,_,rfl,bF ?_⟩;exact ⟨_,rfl,_,rfl,fs,[z],x,a,rfl,hx,l8,.inr ha,q⟩
def BK (K:W.Frag):Sp:=λvs H Q _=>∃ (fs gs:List (Str×Dt)) (z c:Str) (x y:V),vs=[x,y]/\IsP K H (aF fs) x/\Gd 40 fs/\Gd 37 gs/\am fs z=some (aF gs)/\IsP K H (fI [z,c]) y/\∀ v H',Same H H'->IsP K H' (aF (fs.map λg=>if g.1=z then (z,aF (mf gs c)) else g)) v->Q v H'
theorem HY {fs:List (Str×Dt)} {z:Str} {d:Dt} (pw:(fs.map (·.1)).Pairwise ltS) (hz:z∈fs.map (·.1)) {ss:List Str} (asc:ss.Pairwise ltS) (hm:∀ y,y∈ss↔y∈fs.map (·.1)\/y∈[z]) :
  fl ss (λy=>if y∈[z] then d else (am fs y).getD .non)=fs.map λg=>if g.1=z then (z,d) else g:=by
 have e:ss=fs.map (·.1):=qX asc pw λy=>by
  rw [hm y];exact ⟨λh=>h.elim id λh=>aAv.mp h ▸ hz,.inl⟩
 subst e;show (fs.map (·.1)).map (λy=>(y,if y∈[z] then d else (am fs y).getD .non))=_;rw [aAz];refine aBd λf hf=>?_;show (f.1,if f.1∈[z] then d else (am fs f.1).getD .non)=_
 by_cases n:f.1=z
 ·rw [if_pos (aAv.mpr n),if_pos n,n]
 ·rw [if_neg (λh=>n (aAv.mp h)),if_neg n,gu (cj pw) hf]
  rfl
theorem BL (T:Tx K mg ad) {f:Addr} {fd:FuncData} (F:Gn K mg "without_down" bg ["record","path"] f fd):FnOk P w K mg base CX0 3 f fd ["record","path"] (BK K):=by
 obtain ⟨_,_,Jf⟩:=T.without_fields;have JA:=cB (P:=P) (w:=w) (base:=base) T Jf;obtain ⟨_,_,IZ⟩:=T.without_down;have Jk:=vq (P:=P) (w:=w) (base:=base) 0 T IZ;obtain ⟨_,_,Jc⟩:=T.with_fields;have Jn:=dN (P:=P) (w:=w) (base:=base) T Jc;obtain ⟨_,_,Ji⟩:=T.field_of;have JE:=dM (P:=P) (w:=w) (base:=base) T Ji;refine F.F.ok bu (λvs H Q E h=>?_) (λcdv A outer s H vs Q E hr h=>?_)
 ·obtain ⟨fs,gs,z,c,x,y,rfl,_⟩:=h
  rfl
 obtain ⟨fs,gs,z,c,x,y,rfl,hx,g40,g37,lk,hy,q⟩:=h;refine ⟨_,(3,@ps_if _ _ _ _ _ _ _ _ (pt_cmpR op_eq (pe_callB (call_lenDN (K:=K) rfl) rfl T.z_len PySem.boot_len (@pa1 _ _ _ (pv 1) (0))) pe_int (nomark _)) (@pss_one _ _ _ (@ps_ret _ _ _ _ (pcl Jf JA (hr.mono (by lia)) rfl (@pa2 _ _ _ _ _ (pv 0) (pv 1) (0) (0))))) pss_nil,(3,@ps_set _ _ 2 _ _ _ _ bu.nd rfl (Or.inl rfl) (pcl IZ Jk (hr.mono (by lia)) rfl (@pa2 _ _ _ _ _ (pcl Ji JE (hr.mono (by lia)) rfl (@pa2 _ _ _ _ _ (pv 0) (@pi1 K _ _ _ _ _ _ _ rfl (pv 1)) (0) (0))) (bO (cQ (K:=K) rfl) (pv 1) (bX pe_int) cX) (0) (0))) (0) (.inl rfl),@pss_one _ _ _ (@ps_ret _ _ _ _ (pcl Jc Jn (hr.mono (by lia)) rfl (@pa3 _ _ _ _ _ _ _ (pv 0) (bO (cQ (K:=K) rfl) (pv 1) cX (bX pe_int)) (@ao _ _ _ _ (@pa1 _ _ _ (pv 2) (0))) (0) (0) (0)))))),?_⟩;refine ⟨_,rfl,_,_,rfl,hy.d,rfl,_,rfl,iteN (by intro e;cases e) ?_⟩;refine ⟨_,rfl,_,rfl,_,_,_,hy,rfl,at0 _ _,isS ?_⟩;refine ⟨fs,z,aF gs,x,rfl,hx,lk,λv2 hv2=>?_⟩;refine ⟨_,rfl,_,rfl,_,hy,λv3 H3 g3 hv3=>?_⟩;refine ⟨gs,c,v2,v3,rfl,hv2.same g3,Nat.le_succ_of_le g37.2.1,hv3,λv4 H4 g4 hv4=>?_⟩;refine ⟨_,rfl,_,rfl,_,rfl,_,(hy.same g3).same g4,λv5 H5 g5 hv5=>?_⟩;obtain ⟨a,rfl,ha⟩:=gv hv5;refine ⟨_,rfl,sz1,λp hp=>?_⟩;have g6:=ae hp (.lst [v4]);have g36:=(g3.trans g4).trans (g5.trans g6);refine ⟨true,false,fs,[z],(λ_=>aF (mf gs c)),x,a,p,[v4],rfl,hx.same g36,cj g40.1,by have:=g40.2.1;lia,by show 1<=8;decide,g6.tup ha,SqL.of ac,.cons ((hv4.same g5).same g6) .nil,λv H' ss g7 asc hm hv=>q v H' (g36.trans g7) ?_⟩;rw [HY g40.1 (aAN.mpr ⟨_,md lk,rfl⟩) asc hm] at hv;exact hv
def h9 (K:W.Frag) (_:Ads):Sp:=λvs H Q _=>∃ (fs rs:List (Str×Dt)) (ns:List Str) (x y:V),vs=[x,y]/\IsP K H (aF fs) x/\Gd 40 fs/\IsP K H (fI ns) y/\Drp fs ns rs/\∀ v H',Same H H'->IsP K H' (aF rs) v->Q v H'
theorem ia (T:Tx K mg ad) {f:Addr} {fd:FuncData} (F:Gn K mg "without_down" bg ["record","path"] f fd):FnOk P w K mg base CX0 3 f fd ["record","path"] (h9 K ad):=by
 refine (xR (vq (P:=P) (w:=w) (base:=base) 1 T F) (BL T F)).imp λvs H Q E h=>?_;obtain ⟨fs,rs,ns,x,y,rfl,hx,g,hy,dr,q⟩:=h
 cases dr with
 | one=>exact .inl ⟨fs,_,x,y,rfl,hx,by have:=g.2.1;lia,hy,q⟩
 | two lk g37=>exact .inr ⟨fs,_,_,_,x,y,rfl,hx,g,g37,lk,hy,q⟩
inductive Drps:List (Str×Dt)->List (List Str)->List (Str×Dt)->Prop
 | nil {fs:List (Str×Dt)}:Drps fs [] fs
 | cons {fs gs rs:List (Str×Dt)} {ns:List Str} {ps:List (List Str)}:Drp fs ns gs->Drps gs ps rs->Drps fs (ns :: ps) rs
theorem Drps.gd {fs rs:List (Str×Dt)} {ps:List (List Str)} (h:Drps fs ps rs):Gd 40 fs->Gd 40 rs:=by
 induction h with
 | nil=>exact id
 | cons d _ ih=>exact λg=>ih (d.gd g)
theorem Drps.at_ {fs rs:List (Str×Dt)} {ps:List (List Str)} (h:Drps fs ps rs) (g:Gd 40 fs):∃ r:Nat->List (Str×Dt),r 0=fs/\r ps.length=rs/\(∀ i,Gd 40 (r i))/\∀ i ns,ps[i]?=some ns->Drp (r i) ns (r (i+1)):=by
 induction h with
 | nil=>exact ⟨λ_=>_,rfl,rfl,λ_=>g,λi ns h=>by simp at h⟩
 | @cons fs gs rs ns ps d _ ih =>
  obtain ⟨r,h1,h2,h3,h4⟩:=ih (d.gd g);refine ⟨λi=>match i with | 0=>fs | i+1=>r i,rfl,h2,λi=>?_,λi m hm=>?_⟩
  ·cases i with
   | zero=>exact g
   | succ i=>exact h3 i
  ·cases i with
   | zero =>
    obtain rfl:ns=m:=by simpa using hm
    show Drp fs ns (r 0);rw [h1];exact d
   | succ i=>exact h4 i m (by simpa using hm)
def gx (K:W.Frag) (_:Ads):Sp:=λvs H Q _=>∃ (p:Pc) (fs rs:List (Str×Dt)) (x y:V),vs=[x,y]/\IsP K H (pcD p) x/\IsP K H (aF fs) y/\Gd 40 fs/\Drps fs (bS p) rs/\∀ v H',Same H H'->IsP K H' (aF rs) v->Q v H'
theorem cU (T:Tx K mg ad) {f:Addr} {fd:FuncData} (F:Gn K mg "without_taken" bU ["piece","record"] f fd):FnOk P w K mg base CX0 4 f fd ["piece","record"] (gx K ad):=by
 obtain ⟨_,_,IY⟩:=T.taken_paths;have Jo:=ck (P:=P) (w:=w) (base:=base) T IY;obtain ⟨_,_,IZ⟩:=T.without_down;have Jk:=ia (P:=P) (w:=w) (base:=base) T IZ;refine F.F.ok bn (λvs H Q E h=>?_) (λcdv A outer s H vs Q E hr h=>?_)
 ·obtain ⟨p,fs,rs,x,y,rfl,_⟩:=h
  rfl
 obtain ⟨p,fs,rs,x,y,rfl,hx,hy,gd,dr,q⟩:=h;refine ⟨_,(@pss_cons _ _ _ _ _ (@ps_set _ _ 2 _ _ _ _ bn.nd rfl (Or.inl rfl) (pv 1) (0) (.inl rfl)) (@pss_cons _ _ _ _ _ (ps_for PassesOwn.never rfl (cg (K:=K) rfl (pcl IY Jo (hr.mono (by lia)) rfl (@pa1 _ _ _ (pv 0) (0)))) (ai (i:=3) bn.nd rfl (Or.inl rfl))
    (@pss_one _ _ _ (@ps_set _ _ 2 _ _ _ _ bn.nd rfl (Or.inl rfl) (pcl IZ Jk (hr.mono (by lia)) rfl (@pa2 _ _ _ _ _ (pv 2) (pv 3) (0) (0))) (0) (.inl rfl)))) (@pss_one _ _ _ (@ps_ret _ _ _ _ (pv 2))))),?_⟩
 obtain ⟨r,h1,h2,h3,h4⟩:=dr.at_ gd;refine ⟨_,rfl,_,rfl,p,x,rfl,hx,λa H1 ha g1 ⟨us,e1,hus⟩=>?_⟩;have lu:us.length=(bS p).length:=by rw [<- hus.length,aAe]
 refine ⟨a,rfl,⟨_,SqL.of e1⟩,mK (xs:=us) (λi σ H'=>Same H1 H'/\∃ v v3,IsP K H' (aF (r i)) v/\σ=[some x,some y,some v,v3]) ⟨Same.refl _,_,_,by rw [h1];exact hy.same g1,rfl⟩ (λi σ H' _ p=>SqL.of (p.1 _ _ e1)) ?_ ?_⟩
 ·rintro i u σ H2 hu ⟨g2,v,v3,hv,rfl⟩;obtain ⟨d,hd,hpd⟩:=hus.get' hu;rw [aAt] at hd;obtain ⟨ns,hns,rfl⟩:=aAu.mp hd;exact ⟨_,rfl,_,rfl,_,_,ns,v,u,rfl,hv,h3 i,hpd.same g2,h4 i ns hns,λv' H3 g3 hv'=>⟨g2.trans g3,v',_,hv',rfl⟩⟩
 ·rintro σ H2 ⟨g2,v,v3,hv,rfl⟩;rw [lu,h2] at hv;exact ⟨_,rfl,q v H2 (g1.trans g2) hv⟩
def rg (o:Option Dt) (c:Str):Bool:=match o with
 | some d=>hdB d "record" && (bd (.str c) && (eC d c).isNone)
 | none=>false
def kP (rs:List (Str×Dt)):List Str->Bool
 | [z]=>rg (some (aF rs)) z
 | [z,y]=>rg (eC (aF rs) z) y
 | _=>false
theorem vv {rs:List (Str×Dt)} {ns:List Str} (h:ns.length=1\/ns.length=2):∃ ms c,L2.rZ (ns.map Dt.str) none (some (-1))=ms.map Dt.str/\atI (ns.map Dt.str) (-1)=some (.str c)/\c∈ns/\kP rs ns=rg (aT (some (aF rs)) ms) c:=by
 match ns,h with
 | [z],_=>exact ⟨[],z,rfl,rfl,by simp,rfl⟩
 | [z,y],_=>exact ⟨[z],y,rfl,rfl,by simp,rfl⟩
def qv (K:W.Frag) (_:Ads):Sp:=λvs H Q _=>∃ (rs:List (Str×Dt)) (ns:List Str) (x y:V),vs=[x,y]/\IsP K H (aF rs) x/\KT (aF rs)/\IsP K H (fI ns) y/\(ns.length=1\/ns.length=2)/\okD (fI ns)=true/\∀ H',Same H H'->Q (.bl (kP rs ns)) H'
theorem qw (T:Tx K mg ad) {f:Addr} {fd:FuncData} (F:Gn K mg "is_free" gF ["kind","path"] f fd):FnOk P w K mg base CX0 3 f fd ["kind","path"] (qv K ad):=by
 obtain ⟨_,_,Jv⟩:=T.kind_down;have JQ:=fJ (P:=P) (w:=w) (base:=base) T Jv;obtain ⟨_,_,Jl⟩:=T.is_name;have JJ:=eS (P:=P) (w:=w) (base:=base) T Jl;obtain ⟨_,_,Jb⟩:=T.field_kind;have Jr:=xS (P:=P) (w:=w) (base:=base) T Jb;refine F.F.ok jv (λvs H Q E h=>?_) (λcdv A outer s H vs Q E hr h=>?_)
 ·obtain ⟨rs,ns,x,y,rfl,_⟩:=h
  rfl
 obtain ⟨rs,ns,x,y,rfl,hx,kt,hy,ln,okn,q⟩:=h;refine ⟨_,(3,@ps_set _ _ 2 _ _ _ _ jv.nd rfl (Or.inl rfl) (pcl Jv JQ (hr.mono (by lia)) rfl (@pa2 _ _ _ _ _ (pv 0) (bO (cQ (K:=K) rfl) (pv 1) cX (bX (@pe_un _ _ _ _ _ _ un_neg pe_int))) (0) (0))) (0) (.inl rfl),(3,@ps_if _ _ _ _ _ _ _ _ (PW.pt (@pw_or _ _ _ _ _ _ _ (pt_cmpR op_isN (pv 2) pe_non (nomark _)) (@pw_or1 _ _ _ _ (pt_cmpR op_ne (@pi1 K _ _ _ _ _ _ _ rfl (pv 2)) pe_str (nomark _))))) (@pss_one _ _ _ (@ps_ret _ _ _ _ pe_bl)) pss_nil,@pss_one _ _ _ (@ps_ret _ _ _ _ (pe_and (pcl Jl JJ (hr.mono (by lia)) rfl (@pa1 _ _ _ (@ce _ _ _ _ _ _ _ (iL (K:=K) rfl) (pv 1) (@pe_un _ _ _ _ _ _ un_neg pe_int) (λ_ _=>rfl)) (0))) (pe_one (pe_cmpR op_isN (pcl Jb Jr (hr.mono (by lia)) rfl (@pa2 _ _ _ _ _ (pv 2) (@ce _ _ _ _ _ _ _ (iL (K:=K) rfl) (pv 1) (@pe_un _ _ _ _ _ _ un_neg pe_int) (λ_ _=>rfl)) (0) (0))) pe_non (nomark _))))))),?_⟩;obtain ⟨ms,c,cut,last,cn,fb⟩:=vv (rs:=rs) ln;rw [fb] at q;refine ⟨_,rfl,_,rfl,_,rfl,_,rfl,_,hy,λv1 H1 g1 hv1=>?_⟩;have hv1':IsP K H1 (fI ms) v1:=by
  have hv1:IsP K H1 (.tup (L2.rZ (ns.map Dt.str) none (some (-1)))) v1:=hv1;rw [cut] at hv1;exact hv1
 refine ⟨_,ms,x,v1,rfl,hx.same g1,hv1',kt,λv2 hv2=>?_⟩
 cases hd:aT (some (aF rs)) ms with
 | none =>
  rw [hd] at hv2 q;obtain rfl:v2=.non:=hv2;exact ⟨_,rfl,rfl,_,rfl,bF (aq (q H1 g1))⟩
 | some d =>
  rw [hd] at hv2 q;have kd:=iq kt hd;obtain ⟨u,l,rfl,dp⟩:=id kd.tup;have hv2':IsP K H1 (.tup (.str u :: l)) v2:=hv2;obtain ⟨b,ys,rfl,_⟩:=id hv2'.unref;refine ⟨_,rfl,rfl,_,rfl,iteN (by intro e;cases e) ?_⟩;refine ⟨_,rfl,_,_,_,hv2',rfl,at0 _ _,isS ?_⟩;have e1:rg (some (.tup (.str u :: l))) c=(decide (u= "record") && (bd (.str c) && (eC (.tup (.str u :: l)) c).isNone)):=rfl;rw [e1] at q
  by_cases eu:u= "record"
  rotate_left
  ·rw [decide_eq_false eu] at q;exact ⟨rfl,_,rfl,nX (aL eu) (q H1 g1)⟩
  subst eu;rw [decide_eq_true rfl,aAD] at q;refine ⟨rfl,_,rfl,eF ?_⟩;refine ⟨_,rfl,_,rfl,_,_,_,hy.same g1,rfl,last,isS ?_⟩;refine ⟨.str c,_,rfl,.str,aO okn _ (aAN.mpr ⟨c,cn,rfl⟩),λH2 g2=>⟨_,rfl,?_⟩⟩
  cases hn:bd (.str c)
  ·rw [hn,aAy] at q;exact aI (q H2 (g1.trans g2))
  rw [hn,aAD] at q;refine aq ?_;refine ⟨_,rfl,_,rfl,_,rfl,_,_,_,(hy.same g1).same g2,rfl,last,isS ?_⟩;refine ⟨_,c,.ref b,rfl,hv2'.same g2,kd,?_⟩
  cases hf:eC (.tup (.str "record" :: l)) c with
  | none =>
   rw [hf] at q;exact ⟨rfl,q H2 (g1.trans g2)⟩
  | some e =>
   rw [hf] at q;intro v6 hv6;have ke:=kd.fld hf;obtain ⟨u',l',rfl,_⟩:=ke.tup;obtain ⟨b2,ys2,rfl,_⟩:=id hv6.unref;exact ⟨rfl,q H2 (g1.trans g2)⟩
theorem HZ {p:Pc} (h:okD (pcD p)=true):∀ ns∈mkP p,(ns.length=1\/ns.length=2)/\okD (fI ns)=true:=by
 cases p <;> simp [pcD,okD,iR,mkP] at h ⊢ <;> simp [iR,okD,h]
def vx (p:Pc) (rs:List (Str×Dt)):Bool:=!cS (mkP p) && (mkP p).all (kP rs)
def oA (K:W.Frag) (_:Ads):Sp:=λvs H Q _=>∃ (p:Pc) (fs rs:List (Str×Dt)) (x y:V),vs=[x,y]/\IsP K H (pcD p) x/\okD (pcD p)=true/\IsP K H (aF fs) y/\Gd 40 fs/\Drps fs (bS p) rs/\∀ H',Same H H'->Q (.bl (vx p rs)) H'
theorem oB (T:Tx K mg ad) {f:Addr} {fd:FuncData} (F:Gn K mg "can_make" dk ["piece","kind"] f fd):FnOk P w K mg base CX0 5 f fd ["piece","kind"] (oA K ad):=by
 obtain ⟨_,_,Jt⟩:=T.made_paths;have JK:=eJ (P:=P) (w:=w) (base:=base) T Jt;obtain ⟨_,_,Jh⟩:=T.without_taken;have JC:=cU (P:=P) (w:=w) (base:=base) T Jh;obtain ⟨_,_,Ko⟩:=T.is_free;have KZ:=qw (P:=P) (w:=w) (base:=base) T Ko;refine F.F.ok ed (λvs H Q E h=>?_) (λcdv A outer s H vs Q E hr h=>?_)
 ·obtain ⟨p,fs,rs,x,y,rfl,_⟩:=h
  rfl
 obtain ⟨p,fs,rs,x,y,rfl,hx,ok,hy,gd,dr,q⟩:=h;refine ⟨_,(3,@ps_set _ _ 2 _ _ _ _ ed.nd rfl (Or.inl rfl) (pcl Jt JK (hr.mono (by lia)) rfl (@pa1 _ _ _ (pv 0) (0))) (0) (.inl rfl),(3,@ps_if _ _ _ _ _ _ _ _ (pt_cmpR op_ne (pe_callB kK rfl T.z_len PySem.boot_len (@pa1 _ _ _ (bh (kJ (K:=K) rfl rfl hr.units) rfl T.z_set boot_set (@pa1 _ _ _ (pv 2) (0))) (0))) (pe_callB (call_len_seqN (K:=K) rfl) rfl T.z_len PySem.boot_len (@pa1 _ _ _ (pv 2) (0))) (nomark _)) (@pss_one _ _ _ (@ps_ret _ _ _ _ pe_bl)) pss_nil,(3,@ps_set _ _ 3 _ _ _ _ ed.nd rfl (Or.inr rfl) (pcl Jh JC (hr.mono (by lia)) rfl (@pa2 _ _ _ _ _ (pv 0) (pv 1) (0) (0))) (0) (.inl rfl),@pss_one _ _ _ (@ps_ret _ _ _ _ (pe_callB (call_allN (K:=K) rfl rfl) rfl T.z_all boot_all (@pa1 _ _ _ (bA rfl (csR (sc:=aa dk) (NL:=["path"]) (N:=["piece","kind","paths","rest"]) (ρ:=[3]) (N':=["path","rest"]) rfl rfl rfl (by decide +kernel) (by decide +kernel) (by decide +kernel) rfl (by decide +kernel)) (cg (K:=K) rfl (pv 2)) (λ_ _ _ _=>(ai (i:=0) (show List.Nodup (α:=Str) ["path","rest"] by decide +kernel) rfl (Or.inl rfl))) (λ_ _ _ _=>(pcl Ko KZ (hr.mono (by lia)) rfl (@pa2 _ _ _ _ _ (pv 1) (pv 0) (0) (0))))) (0))))))),?_⟩;refine ⟨_,rfl,p,x,rfl,hx,λa H1 ha g1 ⟨us,e1,hus⟩=>?_⟩;have lu:us.length=(mkP p).length:=by rw [<- hus.length,aAe]
 have l2:=BH p;refine ⟨_,rfl,a,fN (mkP p),us,rfl,SqL.of e1,by rw [q9];exact hus,by rw [aAe];exact l2,λps hps=>?_⟩;have g3:=ae hps (kI ps (dA (fN (mkP p))));refine ⟨ps,_,rfl,ac,re _ (by rw [aAe];exact l2),_,rfl,a,us,rfl,.inl (SqL.of (g3 _ _ e1)),rfl,_,rfl,?_⟩;rw [qZ,lu];have eL:(!decide (((dA (fN (mkP p)):Nat):Int)=(((mkP p).length:Nat):Int)))=cS (mkP p):=by
  unfold cS
  congr 1
  rw [decide_eq_decide];lia
 rw [eL];have g13:=g1.trans g3
 generalize upd H1 ps (kI ps (dA (fN (mkP p))))=H3 at g3 g13 ⊢
 unfold vx at q
 cases hL:cS (mkP p)
 rotate_left
 ·rw [hL] at q;exact aq (q _ g13)
 rw [hL] at q;refine aI ?_;refine ⟨_,rfl,_,rfl,p,fs,rs,x,y,rfl,hx.same g13,hy.same g13,gd,dr,λv4 H4 g4 hv4=>?_⟩;have g34:=g3.trans g4;refine ⟨_,rfl,a,rfl,⟨_,SqL.of (g34 _ _ e1)⟩,λl hl=>?_⟩;have kr:=(dr.gd gd).kt (by decide);refine cf (K:=K) (xs:=us) (λj ys σ H'=>Same H4 H'/\H' l=some (.lst ys)/\ys=bls (((mkP p).take j).map (kP rs))/\∃ v1,σ=[v1,some v4]) ⟨ae hl _,ac,rfl,none,rfl⟩ (λj ys σ H' _ pv=>SqL.of (pv.1 _ _ (g34 _ _ e1))) ?_ ?_
 ·rintro j u ys σ H5 N hu ⟨s5,e5,rfl,v1,rfl⟩ next;obtain ⟨d,hd,hpd⟩:=hus.get' hu;rw [aAt] at hd;obtain ⟨ns,hns,rfl⟩:=aAu.mp hd;obtain ⟨ln,okn⟩:=HZ ok ns (aAw hns);refine ⟨_,rfl,_,rfl,rs,ns,v4,u,rfl,hv4.same s5,kr,(hpd.same g34).same s5,ln,okn,λH6 g6=>?_⟩;refine ⟨g6 _ _ e5,?_,next _ _ _ ⟨aS hl (s5.trans g6),ac,?_,_,rfl⟩⟩
  ·rw [bls,aAe,aAe];exact aj (by have:=aA8 j (mkP p);lia)
  ·rw [aAM,hns];simp [bls]
 ·rintro ys σ H5 ⟨s5,e5,rfl,v1,rfl⟩;rw [lu,aAB] at e5;refine ⟨l,_,rfl,rfl,SqL.of e5,?_⟩;have e3:((mkP p).map (kP rs)).all id=(mkP p).all (kP rs):=by rw [aA5];rfl
  rw [e3];exact q H5 ((g13.trans g4).trans s5)
def mh (K:W.Frag) (_:Ads):Sp:=λvs H Q _=>∃ (fs:List (Str×Dt)) (z:Str) (d:Dt) (x y w:V),vs=[x,y,w]/\IsP K H (aF fs) x/\(fs.map (·.1)).Pairwise ltS/\(∀ f∈fs,ltS f.1 z)/\fs.length<=7/\IsP K H (fI [z]) y/\IsP K H d w/\∀ v H',Same H H'->IsP K H' (aF (fs++[(z,d)])) v->Q v H'
theorem BM {fs:List (Str×Dt)} {z:Str} {d:Dt} (pw:(fs.map (·.1)).Pairwise ltS) (lt:∀ f∈fs,ltS f.1 z) {ss:List Str} (asc:ss.Pairwise ltS) (hm:∀ y,y∈ss↔y∈fs.map (·.1)\/y∈[z]) :
  fl ss (λy=>if y∈[z] then d else (am fs y).getD .non)=fs++[(z,d)]:=by
 have e:ss=fs.map (·.1)++[z]:=by
  refine qX asc ?_ λy=>by rw [hm y,aAI]
  rw [List.pairwise_append];refine ⟨pw,aBL _ _,λa ha b hb=>?_⟩;obtain ⟨f,hf,rfl⟩:=aAN.mp ha;obtain rfl:=aAv.mp hb;exact lt f hf
 subst e;show (fs.map (·.1)++[z]).map (λy=>(y,if y∈[z] then d else (am fs y).getD .non))=_;rw [aA0,aAz];have e1:fs.map ((λy=>(y,if y∈[z] then d else (am fs y).getD .non)) ∘ (·.1))=fs.map id:=by
  refine aBd λf hf=>?_;have n:¬ f.1=z:=λq=>absurd (q ▸ lt f hf) (aBy _);show (f.1,if f.1∈[z] then d else (am fs f.1).getD .non)=f;rw [if_neg (λh=>n (aAv.mp h)),gu (cj pw) hf]
  rfl
 rw [e1,List.map_id];simp
theorem mi (T:Tx K mg ad) {f:Addr} {fd:FuncData} (F:Gn K mg "with_down" dY ["record","path","value"] f fd):FnOk P w K mg base CX0 3 f fd ["record","path","value"] (mh K ad):=by
 obtain ⟨_,_,Jc⟩:=T.with_fields;have Jn:=dN (P:=P) (w:=w) (base:=base) T Jc;refine F.F.ok mF (λvs H Q E h=>?_) (λcdv A outer s H vs Q E hr h=>?_)
 ·obtain ⟨fs,z,d,x,y,w,rfl,_⟩:=h
  rfl
 obtain ⟨fs,z,d,x,y,w,rfl,hx,pw,lt,l7,hy,hw,q⟩:=h;refine ⟨_,(3,@ps_if _ _ _ _ _ _ _ _ (pt_cmpR op_eq (pe_callB (call_lenDN (K:=K) rfl) rfl T.z_len PySem.boot_len (@pa1 _ _ _ (pv 1) (0))) pe_int (nomark _)) (@pss_one _ _ _ (@ps_ret _ _ _ _ (pcl Jc Jn (hr.mono (by lia)) rfl (@pa3 _ _ _ _ _ _ _ (pv 0) (pv 1) (@ao _ _ _ _ (@pa1 _ _ _ (pv 2) (0))) (0) (0) (0))))) pss_nil,aM),?_⟩;obtain ⟨a,rfl,ha⟩:=gv hy;refine ⟨_,rfl,_,_,rfl,hy.d,rfl,_,rfl,bF ?_⟩;refine ⟨_,rfl,_,rfl,_,rfl,sz1,λp hp=>?_⟩;have g1:=ae hp (.lst [w]);refine ⟨true,false,fs,[z],(λ_=>d),x,a,p,[w],rfl,hx.same g1,cj pw,by lia,by show 1<=8;decide,g1.tup ha,SqL.of ac,.cons (hw.same g1) .nil,λv H' ss g2 asc hm hv=>q v H' (g1.trans g2) ?_⟩;rw [BM pw lt asc hm] at hv;exact hv
def oC (K:W.Frag) (_:Ads):Sp:=λvs H Q _=>∃ (p:Pc) (fs rs:List (Str×Dt)) (z:Str) (d:Dt) (x y y' w:V),vs=[x,y',y,w]/\IsP K H (pcD p) x/\IsP K H (aF fs) y/\Gd 40 fs/\Drps fs (bS p) rs/\mkP p=[[z]]/\(∀ f∈rs,ltS f.1 z)/\IsP K H (.tup [d]) w/\∀ v H',Same H H'->IsP K H' (aF (rs++[(z,d)])) v->Q v H'
theorem sS {K:W.Frag} {H:Hp} {d:Dt} {v:V} (h:IsP K H (.tup [d]) v):∃ a u,v=.ref a/\SqT K H a [u]/\IsP K H d u:=by
 obtain ⟨a,xs,rfl,ha,pa,ra⟩:=h.unref
 cases ra with
 | cons r1 rb =>
  cases rb
  exact ⟨a,_,rfl,ha,r1⟩
theorem oD (T:Tx K mg ad) {f:Addr} {fd:FuncData} (F:Gn K mg "with_new" eZ ["piece","kind","record","values"] f fd):FnOk P w K mg base CX0 5 f fd ["piece","kind","record","values"] (oC K ad):=by
 obtain ⟨_,_,Jt⟩:=T.made_paths;have JK:=eJ (P:=P) (w:=w) (base:=base) T Jt;obtain ⟨_,_,Jh⟩:=T.without_taken;have JC:=cU (P:=P) (w:=w) (base:=base) T Jh;obtain ⟨_,_,J5⟩:=T.with_down;have KH:=mi (P:=P) (w:=w) (base:=base) T J5;refine F.F.ok bQ (λvs H Q E h=>?_) (λcdv A outer s H vs Q E hr h=>?_)
 ·obtain ⟨p,fs,rs,z,d,x,y,y',w,rfl,_⟩:=h
  rfl
 obtain ⟨p,fs,rs,z,d,x,y,y',w,rfl,hx,hy,gd,dr,mk,lt,hw,q⟩:=h;refine ⟨_,(@pss_cons _ _ _ _ _ (@ps_set _ _ 4 _ _ _ _ bQ.nd rfl (Or.inl rfl) (pcl Jh JC (hr.mono (by lia)) rfl (@pa2 _ _ _ _ _ (pv 0) (pv 2) (0) (0))) (0) (.inl rfl)) (@pss_cons _ _ _ _ _ (ps_for PassesOwn.never rfl (nQ rfl T.z_zip (@pa2 _ _ _ _ _ (pcl Jt JK (hr.mono (by lia)) rfl (@pa1 _ _ _ (pv 0) (0))) (pv 3) (0) (0))) (fX rfl (aH (ai (i:=5) bQ.nd rfl (Or.inl rfl)) (aH (ai (i:=6) bQ.nd rfl (Or.inl rfl)) bW)))
    (@pss_one _ _ _ (@ps_set _ _ 4 _ _ _ _ bQ.nd rfl (Or.inl rfl) (pcl J5 KH (hr.mono (by lia)) rfl (@pa3 _ _ _ _ _ _ _ (pv 4) (pv 5) (pv 6) (0) (0) (0))) (0) (.inl rfl)))) (@pss_one _ _ _ (@ps_ret _ _ _ _ (pv 4))))),?_⟩
 refine ⟨_,rfl,_,rfl,p,fs,rs,x,y,rfl,hx,hy,gd,dr,λv0 H1 g1 hv0=>?_⟩;refine ⟨_,rfl,p,x,rfl,hx.same g1,λa H2 ha g2 ⟨us,e2,hus⟩=>?_⟩;rw [mk] at hus
 cases hus with
 | cons hp1 rb =>
 rename_i p1 _
 cases rb
 obtain ⟨b,w1,rfl,hb,hw1⟩:=sS hw;have hb2:=g2.tup (g1.tup hb);have gr:=dr.gd gd;refine ⟨_,rfl,false,true,a,b,rfl,⟨_,SqL.of e2⟩,⟨_,hb2⟩,nR (tp:=false) (tq:=true) (K:=K) (xs:=[p1]) (ys:=[w1]) (λi σ H'=>Same H2 H'/\∃ v v5 v6,IsP K H' (aF (rs++[(z,d)].take i)) v/\σ=[some x,some y',some y,some (.ref b),some v,v5,v6]) ⟨Same.refl _,_,_,_,by rw [List.take_zero,aA4];exact hv0.same g2,rfl⟩ (λi σ H' p=>⟨SqL.of (p.1 _ _ e2),p.1.tup hb2⟩) ?_ ?_⟩
 ·rintro i u y1 T σ H3 hu hy1 hT ⟨g3,v,v5,v6,hv,rfl⟩;have gT:=ae hT (.tup [u,y1]);have eT:(upd H3 T (.tup [u,y1])) T=some (.tup [u,y1]):=ac
  generalize upd H3 T (.tup [u,y1])=H4 at gT eT ⊢
  refine ⟨T,_,rfl,.inl (.inl eT),rfl,_,_,rfl,_,_,rfl,rfl,?_⟩;have g4:=g3.trans gT;have g14:=(g1.trans g2).trans g4
  match i,hu,hy1 with
  | 0,hu,hy1 =>
   obtain rfl:p1=u:=by simpa using hu
   obtain rfl:w1=y1:=by simpa using hy1
   rw [List.take_zero,aA4] at hv;exact ⟨_,rfl,_,rfl,_,rfl,rs,z,d,v,p1,w1,rfl,hv.same gT,gr.1,lt,gr.2.1,hp1.same g4,hw1.same g14,λv' H5 g5 hv'=>⟨g4.trans g5,v',_,_,hv',rfl⟩⟩
  | i+1,hu,_=>simp at hu
 ·rintro σ H3 ⟨g3,v,v5,v6,hv,rfl⟩;exact ⟨_,rfl,q v H3 ((g1.trans g2).trans g3) hv⟩
inductive Out:Dt->List (Str×Dt)->Nat->Prop
 | form {t:Dt} {fs:List (Str×Dt)}:oq t=false->Out t fs 0
 | take {p:Pc} {fs:List (Str×Dt)} {b:Bool}:((cS (bS p) || (osP p fs).any Option.isNone)=false->CT p (dsP p fs) b)->aV p fs b=false->Out (pcD p) fs 0
 | turn {z:Str} {u:List Dt} {fs:List (Str×Dt)}:(osP (.turn z u) fs).any Option.isNone=false->CM (.turn z u) (dsP (.turn z u) fs)->Out (pcD (.turn z u)) fs 1
 | make {p:Pc} {fs rs:List (Str×Dt)} {b:Bool}:CT p (dsP p fs) b->aV p fs b=true->CM p (dsP p fs)->(∀ z t,p≠.turn z t)->Drps fs (bS p) rs->vx p rs=false->Out (pcD p) fs 0
 | good {p:Pc} {fs rs:List (Str×Dt)} {b:Bool} {z:Str} {d:Dt} {a c:Nat}:CT p (dsP p fs) b->aV p fs b=true->CM p (dsP p fs)->(∀ z t,p≠.turn z t)->Drps fs (bS p) rs->vx p rs=true->mkP p=[[z]]->mkK p (dsP p fs)=[d]->(∀ f∈rs,ltS f.1 z)->FK a c (aF (rs++[(z,d)]))->a<=5->c<=40->Out (pcD p) fs 2
theorem iu (p:Pc):oq (pcD p)=true:=by cases p <;> rfl
theorem kQ {p:Pc} {fs:List (Str×Dt)} {b:Bool} (h:aV p fs b=true):(osP p fs).any Option.isNone=false:=by
 unfold aV at h;rw [aAr,aBD,Bool.or_eq_false_iff] at h;exact h.1.2
def gy (K:W.Frag) (ad:Ads):Sp:=λvs H Q E=>∃ (t:Dt) (fs:List (Str×Dt)) (k:Nat) (x y:V),vs=[x,y]/\IsP K H t x/\IsP K H (aF fs) y/\okD t=true/\Gd 40 fs/\Out t fs k/\(k=0->∀ H',Same H H'->E (.ref ad.BadPiece) none H')/\(k=1->∀ H',Same H H'->E (.ref ad.BadTurn) none H')/\(k=2->∀ v H',Same H H'->Q v H')
theorem cV (T:Tx K mg ad) {f:Addr} {fd:FuncData} (F:Gn K mg "record_behind" bT ["piece","kind"] f fd):FnOk P w K mg base (CXE P w) 26 f fd ["piece","kind"] (gy K ad):=by
 obtain ⟨_,_,JL⟩:=T.has_piece_form;have Kd:=fM (P:=P) (w:=w) (base:=base) T JL;obtain ⟨_,_,Ki⟩:=T.can_take;have KU:=ox (P:=P) (w:=w) (base:=base) T Ki;obtain ⟨_,_,JD⟩:=T.made_kinds;have KB:=jX (P:=P) (w:=w) (base:=base) T JD;obtain ⟨_,_,J4⟩:=T.old_values;have Kx:=jV (P:=P) (w:=w) (base:=base) T J4;obtain ⟨_,_,Ke⟩:=T.can_make;have KR:=oB (P:=P) (w:=w) (base:=base) T Ke;obtain ⟨_,_,IT⟩:=T.made_kind;have Jw:=c6 (P:=P) (w:=w) (base:=base) T IT;obtain ⟨_,_,Kh⟩:=T.with_new;have KM:=oD (P:=P) (w:=w) (base:=base) T Kh;refine F.F.okW sc_record_behind (λvs H Q E h=>?_) (λcdv A outer s H vs Q E hr h=>?_)
 ·obtain ⟨t,fs,k,x,y,rfl,_⟩:=h
  rfl
 obtain ⟨t,fs,k,x,y,rfl,hx,hy,ok,gd,out,q0,q1,q2⟩:=h;refine ⟨_,(3,@ps_if _ _ _ _ _ _ _ _ (@pt_not _ _ _ _ (@pt_val _ _ _ (pcl JL Kd (hr.mono (by lia)) rfl (@pa1 _ _ _ (pv 0) (0))) (by intro _;rfl))) (@pss_one _ _ _ (ps_raiseW rfl rfl rfl rfl T.x_BadPiece rfl (@pa1 _ _ _ pe_str (0)))) pss_nil,(3,@ps_if _ _ _ _ _ _ _ _ (@pt_not _ _ _ _ (@pt_val _ _ _ (pcl Ki KU (hr.mono (by lia)) rfl (@pa2 _ _ _ _ _ (pv 0) (pv 1) (0) (0))) (by intro _;rfl))) (@pss_one _ _ _ (ps_raiseW rfl rfl rfl rfl T.x_BadPiece rfl (@pa1 _ _ _ pe_str (0)))) pss_nil,(3,@ps_set _ _ 2 _ _ _ _ sc_record_behind.nd rfl (Or.inl rfl) (pe_call KB (hr.mono (by first | decide | lia)) rfl JD.m JD.F.kp JD.b .nil (wing_on rfl rfl rfl) (@pa2 _ _ _ _ _ (pv 0) (pcl J4 Kx (hr.mono (by lia)) rfl (@pa2 _ _ _ _ _ (pv 0) (pv 1) (0) (0))) (0) (0))) (0) (.inl rfl),(3,@ps_if _ _ _ _ _ _ _ _ (@pt_not _ _ _ _ (@pt_val _ _ _ (pcl Ke KR (hr.mono (by lia)) rfl (@pa2 _ _ _ _ _ (pv 0) (pv 1) (0) (0))) (by intro _;rfl))) (@pss_one _ _ _ (ps_raiseW rfl rfl rfl rfl T.x_BadPiece rfl (@pa1 _ _ _ pe_str (0)))) pss_nil,@pss_one _ _ _ (PS.nox (ps_tryN (@pss_one _ _ _ (@ps_ret _ _ _ _ (pe_call Jw (hr.mono (by first | decide | lia)) rfl IT.m IT.F.kp IT.b .nil passF2 (@pa1 _ _ _ (pcl Kh KM (hr.mono (by lia)) rfl (@pa_cons _ _ _ _ _ (pv 0) (@pa3 _ _ _ _ _ _ _ (pv 1) (pv 1) (pv 2) (0) (0) (0)) (0))) (0))))))))))),?_⟩;have kt:=gd.kt (by decide);refine ⟨_,rfl,t,x,rfl,hx,ok,λH1 g1=>⟨_,rfl,?_⟩⟩
 cases out with
 | form hf =>
  rw [hf];exact aq ⟨sz1,q0 rfl H1 g1⟩
 | @take p _ b ct tk =>
  rw [iu];refine aI ?_;refine ⟨_,rfl,_,rfl,p,fs,b,x,y,rfl,hx.same g1,hy.same g1,kt,ct,λH2 g2=>⟨_,rfl,?_⟩⟩;rw [tk];exact aq ⟨sz1,q0 rfl H2 (g1.trans g2)⟩
 | @turn z u _ hs cm =>
  rw [iu];refine aI ?_;refine ⟨_,rfl,_,rfl,.turn z u,fs,true,x,y,rfl,hx.same g1,hy.same g1,kt,λ_=>trivial,λH2 g2=>⟨_,rfl,?_⟩⟩;have tk:aV (.turn z u) fs true=true:=by
   unfold aV;rw [hs]
   rfl
  rw [tk];refine aI ?_;have g12:=g1.trans g2;refine ⟨_,rfl,_,rfl,_,rfl,.turn z u,fs,x,y,rfl,hx.same g12,hy.same g12,kt,hs,λv3 H3 g3 hv3=>?_⟩;have g13:=g12.trans g3;exact ⟨.turn z u,_,x,v3,rfl,hx.same g13,hv3,cm,λ_ H4 g4=>q1 rfl H4 (g13.trans g4),λn=>absurd rfl (n z u)⟩
 | @make p _ rs b ct tk cm nt dr cb =>
  rw [iu];refine aI ?_;refine ⟨_,rfl,_,rfl,p,fs,b,x,y,rfl,hx.same g1,hy.same g1,kt,λ_=>ct,λH2 g2=>⟨_,rfl,?_⟩⟩;rw [tk];refine aI ?_;have g12:=g1.trans g2;refine ⟨_,rfl,_,rfl,_,rfl,p,fs,x,y,rfl,hx.same g12,hy.same g12,kt,kQ tk,λv3 H3 g3 hv3=>?_⟩;have g13:=g12.trans g3;refine ⟨p,_,x,v3,rfl,hx.same g13,hv3,cm,λh=>h.elim λz h=>h.elim λt e=>absurd e (nt z t),λ_ v4 H4 g4 hv4=>?_⟩;have g14:=g13.trans g4;refine ⟨_,rfl,_,rfl,p,fs,rs,x,y,rfl,hx.same g14,ok,hy.same g14,gd,dr,λH5 g5=>⟨_,rfl,?_⟩⟩;rw [cb];exact aq ⟨sz1,q0 rfl H5 (g14.trans g5)⟩
 | @good p _ rs b z d a c ct tk cm nt dr cb mk mkk lt fk ha hc =>
  rw [iu];refine aI ?_;refine ⟨_,rfl,_,rfl,p,fs,b,x,y,rfl,hx.same g1,hy.same g1,kt,λ_=>ct,λH2 g2=>⟨_,rfl,?_⟩⟩;rw [tk];refine aI ?_;have g12:=g1.trans g2;refine ⟨_,rfl,_,rfl,_,rfl,p,fs,x,y,rfl,hx.same g12,hy.same g12,kt,kQ tk,λv3 H3 g3 hv3=>?_⟩;have g13:=g12.trans g3;refine ⟨p,_,x,v3,rfl,hx.same g13,hv3,cm,λh=>h.elim λz h=>h.elim λt e=>absurd e (nt z t),λ_ v4 H4 g4 hv4=>?_⟩;have g14:=g13.trans g4;refine ⟨_,rfl,_,rfl,p,fs,rs,x,y,rfl,hx.same g14,ok,hy.same g14,gd,dr,λH5 g5=>⟨_,rfl,?_⟩⟩;rw [cb];refine aI ?_;have g15:=g14.trans g5;rw [mkk] at hv4;refine ⟨_,rfl,_,rfl,_,rfl,_,rfl,p,fs,rs,z,d,x,y,y,v4,rfl,hx.same g15,hy.same g15,gd,dr,mk,lt,hv4.same g5,λv6 H6 g6 hv6=>?_⟩;exact ⟨_,v6,rfl,hv6,HQ fk,.inr ⟨a,c,fk,ha,λ_ H7 g7=>q2 rfl v6 H7 ((g15.trans g6).trans g7),λz=>by lia⟩⟩
def jf (K:W.Frag) (ad:Ads):Sp:=λvs H Q E=>∃ (t:Dt) (fs:List (Str×Dt)) (k:Nat) (x y:V),vs=[x,y]/\IsP K H t x/\IsP K H (aF fs) y/\okD t=true/\Gd 40 fs/\Out t fs k/\(k=0->∀ H',Same H H'->E (.ref ad.BadPiece) none H')/\(k=1->∀ H',Same H H'->E (.ref ad.BadTurn) none H')/\(k=2->(∃ z y,t=pcD (.name z y))/\∀ v H',Same H H'->Q v H')
theorem jg (T:Tx K mg ad) {f:Addr} {fd:FuncData} (F:Gn K mg "piece_about" cL ["piece","kind"] f fd):FnOk P w K mg base (CXE P w) 27 f fd ["piece","kind"] (jf K ad):=by
 obtain ⟨_,_,IU⟩:=T.record_behind;have JB:=cV (P:=P) (w:=w) (base:=base) T IU;refine F.F.okW ee (λvs H Q E h=>?_) (λcdv A outer s H vs Q E hr h=>?_)
 ·obtain ⟨t,fs,k,x,y,rfl,_⟩:=h
  rfl
 obtain ⟨t,fs,k,x,y,rfl,hx,hy,ok,gd,out,q0,q1,q2⟩:=h;refine ⟨_,(3,@vX _ _ _ _ (pe_call JB (hr.mono (by first | decide | lia)) rfl IU.m IU.F.kp IU.b .nil (wing_on rfl rfl rfl) (@pa2 _ _ _ _ _ (pv 0) (pv 1) (0) (0))) (0),(3,@ps_set _ _ 2 _ _ _ _ ee.nd rfl (Or.inl rfl) (@pi1 K _ _ _ _ _ _ _ rfl (pv 0)) (0) (.inl rfl),(3,@ps_if _ _ _ _ _ _ _ _ (pt_cmpR op_eq (pv 2) pe_str (nomark _)) aM pss_nil,(3,@ps_if _ _ _ _ _ _ _ _ (pt_cmpR op_eq (pv 2) pe_str (nomark _)) aM pss_nil,(3,@ps_if _ _ _ _ _ _ _ _ (pt_cmpR op_eq (pv 2) pe_str (nomark _)) (@pss_one _ _ _ (@ps_ret _ _ _ _ (1,@pa3 _ _ _ _ _ _ _ pe_str (@pi1 K _ _ _ _ _ _ _ rfl (pv 0)) (@pi1 K _ _ _ _ _ _ _ rfl (pv 0)) (0) (0) (0)))) pss_nil,aM))))),?_⟩;refine ⟨_,rfl,_,rfl,t,fs,k,x,y,rfl,hx,hy,ok,gd,out,q0,q1,λe v1 H1 g1=>?_⟩;obtain ⟨⟨z,c,rfl⟩,q⟩:=q2 e;have hx1:=hx.same g1;refine ⟨_,rfl,_,_,_,hx1,rfl,rfl,isS ?_⟩;refine af rfl (by decide) (af rfl (by decide) (be rfl ?_));refine ⟨_,rfl,_,_,_,hx1,rfl,rfl,λu1 h1=>⟨_,rfl,_,_,_,hx1,rfl,rfl,λu2 h2=>?_⟩⟩;exact ⟨[.str "name",.str c,.str z],.cons .str (.cons h1 (.cons h2 .nil)),sz3,λv H2 g2 hv=>q v H2 (g1.trans g2)⟩
abbrev IN:V->List V->Hp->VK->Prop:=λx vs H Q=>∃ (l:Addr) (bs:List Bool),x=.ref l/\vs=[.bl true]/\H l=some (.lst (bs.map V.bl))/\Q (.int (bs.countP id:Nat)) H
abbrev IP:V->List V->Hp->VK->Prop:=λx vs H Q=>∃ (l:Addr) (bs:List Bool) (j:Nat),x=.ref l/\vs=[.bl true]/\H l=some (.lst (bs.map V.bl))/\bs.length<=1000/\bs[j]?=some true/\(∀ m,m < j->bs[m]?=some false)/\Q (.int (j:Nat)) H
def Ia:Nat->Str
 | 0=> "piece"
 | 1=> "turn"
 | _=> "made"
theorem Out.le {t:Dt} {fs:List (Str×Dt)} {k:Nat} (h:Out t fs k):k=0\/k=1\/k=2:=by
 cases h <;> simp
def oE (K:W.Frag) (ad:Ads):Sp:=λvs H Q _=>∃ (t:Dt) (fs:List (Str×Dt)) (k:Nat) (i:Int) (x y:V),vs=[.int i,x,y]/\IsP K H t x/\IsP K H (aF fs) y/\okD t=true/\Gd 40 fs/\Out t fs k/\(k=2->i=0\/∃ z y,t=pcD (.name z y))/\∀ H',Same H H'->Q (.str (Ia k)) H'
theorem gN (T:Tx K mg ad) {f:Addr} {fd:FuncData} (F:Gn K mg "_law_word" fc ["way","piece","kind"] f fd):FnOk P w K mg base CX0 28 f fd ["way","piece","kind"] (oE K ad):=by
 obtain ⟨_,_,IU⟩:=T.record_behind;have JB:=cV (P:=P) (w:=w) (base:=base) T IU;obtain ⟨_,_,Jz⟩:=T.piece_about;have Kr:=jg (P:=P) (w:=w) (base:=base) T Jz;refine F.F.ok bz (λvs H Q E h=>?_) (λcdv A outer s H vs Q E hr h=>?_)
 ·obtain ⟨t,fs,k,i,x,y,rfl,_⟩:=h
  rfl
 obtain ⟨t,fs,k,i,x,y,rfl,hx,hy,ok,gd,out,nm,q⟩:=h;refine ⟨_,(3,@ps_set _ _ 3 _ _ _ _ bz.nd rfl (Or.inl rfl) pe_str (0) (.inl rfl),(3,uG (i:=4) rfl rfl (Bl (pt_cmpR op_eq (pv 0) pe_int (nomark _)) (qN (lB JB (hr.mono (by first | decide | lia)) rfl IU.m IU.F.kp IU.b (@pa2 _ _ _ _ _ (pv 1) (pv 2) (0) (0)))) (qN (lB Kr (hr.mono (by first | decide | lia)) rfl Jz.m Jz.F.kp Jz.b (@pa2 _ _ _ _ _ (pv 1) (pv 2) (0) (0))))) T.x_HandError.m rfl bz.nd rfl rfl (λ_=>(3,@ps_set _ _ 5 _ _ _ _ bz.nd rfl (Or.inl rfl) (@ao _ _ _ _ (@pa3 _ _ _ _ _ _ _ (pe_callB (gg (K:=K) rfl) rfl T.z_isinstance boot_isinstance (@pa2 _ _ _ _ _ (pv 4) (lw rfl T.x_BadPiece.m) (0) (0))) (pe_callB (gg (K:=K) rfl) rfl T.z_isinstance boot_isinstance (@pa2 _ _ _ _ _ (pv 4) (lw rfl T.x_BadTurn.m) (0) (0))) (pe_callB (gg (K:=K) rfl) rfl T.z_isinstance boot_isinstance (@pa2 _ _ _ _ _ (pv 4) (lw rfl T.x_BadKind.m) (0) (0))) (0) (0) (0))) (0) (.inl rfl),(3,@ps_set _ _ 3 _ _ _ _ bz.nd rfl (Or.inl rfl) pe_str (0) (.inl rfl),@pss_one _ _ _ (@ps_if _ _ _ _ _ _ _ _ (PW.pt (@AQ _ _ _ _ _ _ _ (@pt_val _ _ _ (pe_callB (pM (K:=K) rfl) rfl T.z_isinstance boot_isinstance (@pa2 _ _ _ _ _ (pv 4) (bo rfl T.z_ValueError A8) (0) (0))) (by intro _;rfl)) (@pw_and1 _ _ _ _ (pt_cmpR op_eq (show PE _ _ (tBM K "list" IN (eh 5) (bV (tC (.bl true)) iC)) from (by refine xJ PySem.F.plainAttrs_list PySem.F.slot_list_count PySem.F.type_list_count (sM ?_) (pv 5) (@pa1 _ _ _ pe_bl (0));exact hr.units)) pe_int (nomark _))))) (@pss_one _ _ _ (@ps_set _ _ 3 _ _ _ _ bz.nd rfl (Or.inl rfl) (@ce _ _ _ _ _ _ _ (aW (K:=K) rfl) (@ao _ _ _ _ (@pa3 _ _ _ _ _ _ _ pe_str pe_str pe_str (0) (0) (0))) (show PE _ _ (tBM K "list" IP (eh 5) (bV (tC (.bl true)) iC)) from (by refine xJ PySem.F.plainAttrs_list PySem.F.slot_list_index PySem.F.type_list_index (sN ?_) (pv 5) (@pa1 _ _ _ pe_bl (0));exact hr.units)) (λ_ _=>rfl)) (0) (.inl rfl))) pss_nil)))),@pss_one _ _ _ (@ps_ret _ _ _ _ (pv 3)))),?_⟩;have kp:=T.kitP;have kt:=T.kitT;simp only [aAr] at kp kt;obtain ⟨⟨⟨k1,k2⟩,k3⟩,k4⟩:=kp;obtain ⟨⟨⟨j1,j2⟩,j3⟩,j4⟩:=kt;rcases out.le with rfl | rfl | rfl
 ·refine ⟨_,rfl,rfl,_,rfl,ip (λhi=>⟨_,rfl,_,rfl,t,fs,0,x,y,rfl,hx,hy,ok,gd,out,λ_ H1 g1=>⟨ad.BadPiece,rfl,T.exmP,λea hea=>?_⟩,nofun,nofun⟩) λhi=>⟨_,rfl,_,rfl,t,fs,0,x,y,rfl,hx,hy,ok,gd,out,λ_ H1 g1=>⟨ad.BadPiece,rfl,T.exmP,λea hea=>?_⟩,nofun,nofun⟩⟩
  all_goals
   have X:=T.x_BadPiece.k;have he':=ac (H:=H1) (a:=ea) (o:=xO ea ad.BadPiece);have ge:=ae hea (xO ea ad.BadPiece);refine ⟨_,rfl,ea,_,_,_,rfl,he',X,beq_iff_eq.mp k1,_,rfl,ea,_,_,_,rfl,he',X,beq_iff_eq.mp k2,_,rfl,ea,_,_,_,rfl,he',X,beq_iff_eq.mp k3,sz3,λl1 n1=>?_⟩;have g2:=ae n1 (.lst [V.bl true,.bl false,.bl false]);refine ⟨_,rfl,ea,_,_,_,rfl,g2 _ _ he',X,beq_iff_eq.mp k4,_,rfl,aq ?_⟩;refine ⟨_,rfl,.inl ⟨rfl,_,SqL.of ac⟩,l1,[true,false,false],rfl,rfl,ac,rfl,_,rfl,bF ?_⟩;refine ⟨sz3,λl2 n2=>?_⟩;have g3:=ae n2 (.lst [V.str "piece",.str "turn",.str "kind"]);refine ⟨_,rfl,.inl ⟨rfl,_,SqL.of (g3 _ _ ac)⟩,l1,[true,false,false],0,rfl,rfl,g3 _ _ ac,by decide,rfl,(λm hm=>absurd hm (aBP m)),?_⟩;refine ⟨l2,_,_,_,rfl,rfl,SqL.of ac,rfl,?_⟩;exact ⟨_,rfl,q _ ((((g1.trans ge).trans g2).trans g3))⟩
 ·refine ⟨_,rfl,rfl,_,rfl,ip (λhi=>⟨_,rfl,_,rfl,t,fs,1,x,y,rfl,hx,hy,ok,gd,out,nofun,λ_ H1 g1=>⟨ad.BadTurn,rfl,T.exmT,λea hea=>?_⟩,nofun⟩) λhi=>⟨_,rfl,_,rfl,t,fs,1,x,y,rfl,hx,hy,ok,gd,out,nofun,λ_ H1 g1=>⟨ad.BadTurn,rfl,T.exmT,λea hea=>?_⟩,nofun⟩⟩
  all_goals
   have X:=T.x_BadTurn.k;have he':=ac (H:=H1) (a:=ea) (o:=xO ea ad.BadTurn);have ge:=ae hea (xO ea ad.BadTurn);refine ⟨_,rfl,ea,_,_,_,rfl,he',X,beq_iff_eq.mp j1,_,rfl,ea,_,_,_,rfl,he',X,beq_iff_eq.mp j2,_,rfl,ea,_,_,_,rfl,he',X,beq_iff_eq.mp j3,sz3,λl1 n1=>?_⟩;have g2:=ae n1 (.lst [V.bl false,.bl true,.bl false]);refine ⟨_,rfl,ea,_,_,_,rfl,g2 _ _ he',X,beq_iff_eq.mp j4,_,rfl,aq ?_⟩;refine ⟨_,rfl,.inl ⟨rfl,_,SqL.of ac⟩,l1,[false,true,false],rfl,rfl,ac,rfl,_,rfl,bF ?_⟩;refine ⟨sz3,λl2 n2=>?_⟩;have g3:=ae n2 (.lst [V.str "piece",.str "turn",.str "kind"]);refine ⟨_,rfl,.inl ⟨rfl,_,SqL.of (g3 _ _ ac)⟩,l1,[false,true,false],1,rfl,rfl,g3 _ _ ac,by decide,rfl,(λm hm=>by rw [Nat.lt_one_iff.mp hm];rfl),?_⟩;refine ⟨l2,_,_,_,rfl,rfl,SqL.of ac,rfl,?_⟩;exact ⟨_,rfl,q _ ((((g1.trans ge).trans g2).trans g3))⟩
 ·refine ⟨_,rfl,rfl,_,rfl,ip (λhi=>⟨_,rfl,_,rfl,t,fs,2,x,y,rfl,hx,hy,ok,gd,out,nofun,nofun,λ_ v H1 g1=>⟨_,rfl,q _ g1⟩⟩) λhi=>⟨_,rfl,_,rfl,t,fs,2,x,y,rfl,hx,hy,ok,gd,out,nofun,nofun,λ_=>⟨(nm rfl).resolve_left (λe=>hi ?_),λv H1 g1=>⟨_,rfl,q _ g1⟩⟩⟩⟩;rw [e]
abbrev sT:List (Str×Dt):=[("a",txD 2),("z",bf 0 9)]
abbrev k5 (lo hi m:Int):List (Str×Dt):=[("a",bf lo hi),("b",txD m),("box",aF sT),("c",txD m),("d",txD 60)]
theorem dP (i j:Int):KT (bf i j)/\(bf i j).dep<=10:=⟨.lf (by decide) (by simp [Dt.dep,er]),by simp [Dt.dep,er]⟩
theorem gO (m:Int):KT (txD m)/\(txD m).dep<=10:=⟨.lf (by decide) (by simp [Dt.dep,er]),by simp [Dt.dep,er]⟩
theorem qx:Gd 37 sT:=by
 refine ⟨by decide +kernel,by decide,λg hg=>?_⟩;simp only [aAb,aAc,or_false] at hg;rcases hg with rfl | rfl
 ·exact ⟨(gO 2).1,aAx (gO 2).2 (by decide)⟩
 ·exact ⟨(dP 0 9).1,aAx (dP 0 9).2 (by decide)⟩
theorem Ig (lo hi m:Int):Gd 40 (k5 lo hi m):=by
 refine ⟨(by decide +kernel:(["a","b","box","c","d"]:List Str).Pairwise ltS),(by show 5<=7;decide),λg hg=>?_⟩;simp only [aAb,aAc,or_false] at hg;rcases hg with rfl | rfl | rfl | rfl | rfl
 ·exact ⟨(dP lo hi).1,aAx (dP lo hi).2 (by decide)⟩
 ·exact ⟨(gO m).1,aAx (gO m).2 (by decide)⟩
 ·exact ⟨qx.kt (by decide),lY λg hg=>(qx.2.2 g hg).2⟩
 ·exact ⟨(gO m).1,aAx (gO m).2 (by decide)⟩
 ·exact ⟨(gO 60).1,aAx (gO 60).2 (by decide)⟩
abbrev qrF:List (Str×Dt):=[("q",bf 0 5),("r",bf 0 9)]
theorem vy:Gd 40 qrF:=by
 refine ⟨by decide +kernel,by decide,λg hg=>?_⟩;simp only [aAb,aAc,or_false] at hg;rcases hg with rfl | rfl
 ·exact ⟨(dP 0 5).1,aAx (dP 0 5).2 (by decide)⟩
 ·exact ⟨(dP 0 9).1,aAx (dP 0 9).2 (by decide)⟩
theorem aY {p:Pc} {fs:List (Str×Dt)} (h:(cS (bS p) || (osP p fs).any Option.isNone)=true):Out (pcD p) fs 0 :=
 .take (b:=false) (λe=>by rw [h] at e;cases e) (by unfold aV;rw [h];rfl)
theorem xw:okT "" :=λc hc=>absurd hc (by rw [show (Str.ofString "").cps.toList=[] from by decide +kernel];exact aAc)
theorem vz (m:Int):vf (.str "") m:=.inr ⟨"",rfl,by decide,λ_=>xw⟩
theorem BN (z:Str) (ds:List Dt):CT (.put z [.str "text",.int 1] (.str "")) ds (qp (.str "") 1):=⟨rfl,.inr ⟨1,rfl,by decide,.txt (vz 1) (by decide)⟩⟩
theorem fR {z:Str} {fs:List (Str×Dt)} (h:vx (.put z [.str "text",.int 1] (.str "")) fs=false):Out (pcD (.put z [.str "text",.int 1] (.str ""))) fs 0 :=
 .make (BN z _) rfl trivial (λ_ _=>nofun) .nil h
theorem kR {m:Int} {fs:List (Str×Dt)} {z y x:Str} (e:osP (.join z y "-" x) fs=[some (txD m),some (txD m)]) (l:cS [[z],[y]]=false):aV (.join z y "-" x) fs true=true:=by
 unfold aV;rw [e,show cS (bS (.join z y "-" x))=false from l];show (true && (eqD (txD m) (txD m) && true))=true;rw [fu]
 rfl
theorem xx {lo hi m:Int} (h:m<=20):aV (.join "b" "d" "-" "x") (k5 lo hi m) true=false:=by
 have e:eqD (txD m) (txD 60)=false:=by
  simp [eqD,ft];lia
 show (true && (true && eqD (txD m) (txD 60) && true))=false;rw [e]
 rfl
theorem vA (lo hi m:Int):aV (.whole "a" "b" 2 "x" 0 9) (k5 lo hi m) true=false:=by
 have e:eqD (.tup [bf lo hi,txD m]) (.tup [bf (0 / 2) (9 / 2),bf 0 (2 - 1)])=false:=by
  simp [eqD,ft]
 show (true && (true && eqD (.tup [bf lo hi,txD m]) (.tup [bf (0 / 2) (9 / 2),bf 0 (2 - 1)])))=false;rw [e]
 rfl
def In5 (lo hi m:Int):Prop:=-4<=lo/\lo<=4/\lo+20<=hi/\hi<=lo+50/\1<=m/\m<=20
def jh:List Dt:=[.tup [],
 .tup [.str "puts",.str "m",.tup [.str "text",.int 1],.str ""],
 .tup [.str "put",.str "m",.tup [.str "text",.int 1]],
 .tup [.str "drop",.str "z",.int 0],
 .tup [.str "drop",.str "a"]]
theorem sU {t:Dt} (ht:t∈jh) {lo hi m:Int} (h:In5 lo hi m):okD t=true/\Out t (k5 lo hi m) 0:=by
 obtain ⟨h1,h2,h3,h4,h6,h5⟩:=h;simp only [jh,aAb,aAc,or_false] at ht;rcases ht with rfl | rfl | rfl | rfl | rfl
 ·exact ⟨rfl,.form rfl⟩
 ·exact ⟨rfl,.form rfl⟩
 ·exact ⟨rfl,.form rfl⟩
 ·exact ⟨rfl,aY (p:=(.drop "z" (.int 0))) rfl⟩
 ·exact ⟨rfl,.form rfl⟩
def ji:List Dt:=[.tup [.str "put",.str "a",.tup [.str "text",.int 1],.str ""],
 .tup [.str "put",.str "M",.tup [.str "text",.int 1],.str ""],
 .tup [.str "put",.str "",.tup [.str "text",.int 1],.str ""]]
theorem sV {t:Dt} (ht:t∈ji) {lo hi m:Int} (h:In5 lo hi m):okD t=true/\Out t (k5 lo hi m) 0:=by
 obtain ⟨h1,h2,h3,h4,h6,h5⟩:=h;simp only [ji,aAb,aAc,or_false] at ht;rcases ht with rfl | rfl | rfl
 ·exact ⟨rfl,fR (by kernel_rfl)⟩
 ·exact ⟨rfl,fR (by kernel_rfl)⟩
 ·exact ⟨rfl,fR (by kernel_rfl)⟩
def jj:List Dt:=[.tup [.str "put",.str "abcdefghi",.tup [.str "text",.int 1],.str ""],
 .tup [.str "put",.str "each",.tup [.str "text",.int 1],.str ""],
 .tup [.str "put",.str "m",.str "text",.str ""]]
theorem sW {t:Dt} (ht:t∈jj) {lo hi m:Int} (h:In5 lo hi m):okD t=true/\Out t (k5 lo hi m) 0:=by
 obtain ⟨h1,h2,h3,h4,h6,h5⟩:=h;simp only [jj,aAb,aAc,or_false] at ht;rcases ht with rfl | rfl | rfl
 ·exact ⟨rfl,fR (by kernel_rfl)⟩
 ·exact ⟨rfl,fR (by kernel_rfl)⟩
 ·exact ⟨rfl,.form rfl⟩
def jk:List Dt:=[.tup [.str "put",.str "m",.tup [.str "text",.int 1],.str "ab"],
 .tup [.str "put",.str "m",.tup [.str "text",.int 61],.str ""],
 .tup [.str "put",.int 7,.tup [.str "text",.int 1],.str ""]]
theorem sX {t:Dt} (ht:t∈jk) {lo hi m:Int} (h:In5 lo hi m):okD t=true/\Out t (k5 lo hi m) 0:=by
 obtain ⟨h1,h2,h3,h4,h6,h5⟩:=h;simp only [jk,aAb,aAc,or_false] at ht;rcases ht with rfl | rfl | rfl
 ·exact ⟨rfl,.take (p:=(.put "m" [.str "text",.int 1] (.str "ab"))) (b:=qp (.str "ab") 1) (λ_=>⟨rfl,.inr ⟨1,rfl,by decide,.txt (.inr ⟨"ab",rfl,by decide,λh=>absurd h (by decide)⟩) (by decide)⟩⟩) rfl⟩
 ·exact ⟨rfl,.take (p:=(.put "m" [.str "text",.int 61] (.str ""))) (b:=false) (λ_=>⟨rfl,.inl ⟨by decide +kernel,rfl⟩⟩) rfl⟩
 ·exact ⟨rfl,.form rfl⟩
def jl:List Dt:=[.tup [.str "drop",.str "a",.str "x"],
 .tup [.str "drop",.str "b",.int 3],
 .tup [.str "name",.str "z",.str "m"],
 .tup [.str "name",.str "a",.str "b"],
 .tup [.str "name",.str "a",.str ""]]
theorem sY {t:Dt} (ht:t∈jl) {lo hi m:Int} (h:In5 lo hi m):okD t=true/\Out t (k5 lo hi m) 0:=by
 obtain ⟨h1,h2,h3,h4,h6,h5⟩:=h;simp only [jl,aAb,aAc,or_false] at ht;rcases ht with rfl | rfl | rfl | rfl | rfl
 ·exact ⟨rfl,.take (p:=(.drop "a" (.str "x"))) (b:=bt (.str "x") lo hi) (λ_=>⟨_,rfl,.num rfl⟩) rfl⟩
 ·exact ⟨rfl,.take (p:=(.drop "b" (.int 3))) (b:=qp (.int 3) m) (λ_=>⟨_,rfl,.txt (.inl ⟨3,rfl⟩) (by lia)⟩) rfl⟩
 ·exact ⟨rfl,aY (p:=(.name "z" "m")) rfl⟩
 ·exact ⟨rfl,.make (p:=(.name "a" "b")) (b:=true) trivial rfl ⟨_,_,rfl⟩ (λ_ _=>nofun) (.cons .one .nil) (by kernel_rfl)⟩
 ·exact ⟨rfl,.make (p:=(.name "a" "")) (b:=true) trivial rfl ⟨_,_,rfl⟩ (λ_ _=>nofun) (.cons .one .nil) (by kernel_rfl)⟩
def jm:List Dt:=[.tup [.str "name",.str "a"],
 .tup [.str "name",.str "a",.str "m1"],
 .tup [.str "sink",.str "z",.str "box"],
 .tup [.str "sink",.str "a",.str "box"]]
theorem sZ {t:Dt} (ht:t∈jm) {lo hi m:Int} (h:In5 lo hi m):okD t=true/\Out t (k5 lo hi m) 0:=by
 obtain ⟨h1,h2,h3,h4,h6,h5⟩:=h;simp only [jm,aAb,aAc,or_false] at ht;rcases ht with rfl | rfl | rfl | rfl
 ·exact ⟨rfl,.form rfl⟩
 ·exact ⟨rfl,.make (p:=(.name "a" "m1")) (b:=true) trivial rfl ⟨_,_,rfl⟩ (λ_ _=>nofun) (.cons .one .nil) (by kernel_rfl)⟩
 ·exact ⟨rfl,aY (p:=(.sink "z" "box")) rfl⟩
 ·exact ⟨rfl,.make (p:=(.sink "a" "box")) (b:=true) trivial rfl ⟨_,_,rfl⟩ (λ_ _=>nofun) (.cons .one .nil) (by kernel_rfl)⟩
def jn:List Dt:=[.tup [.str "sink",.str "b",.str "a"],
 .tup [.str "sink",.str "box",.str "box"],
 .tup [.str "sink",.str "b",.str "m"],
 .tup [.str "lift",.str "box",.str "a"]]
theorem tj {t:Dt} (ht:t∈jn) {lo hi m:Int} (h:In5 lo hi m):okD t=true/\Out t (k5 lo hi m) 0:=by
 obtain ⟨h1,h2,h3,h4,h6,h5⟩:=h;simp only [jn,aAb,aAc,or_false] at ht;rcases ht with rfl | rfl | rfl | rfl
 ·exact ⟨rfl,.make (p:=(.sink "b" "a")) (b:=true) trivial rfl ⟨_,_,rfl⟩ (λ_ _=>nofun) (.cons .one .nil) (by kernel_rfl)⟩
 ·exact ⟨rfl,.make (p:=(.sink "box" "box")) (b:=true) trivial rfl ⟨_,_,rfl⟩ (λ_ _=>nofun) (.cons .one .nil) (by kernel_rfl)⟩
 ·exact ⟨rfl,.make (p:=(.sink "b" "m")) (b:=true) trivial rfl ⟨_,_,rfl⟩ (λ_ _=>nofun) (.cons .one .nil) (by kernel_rfl)⟩
 ·exact ⟨rfl,.make (p:=(.lift "box" "a")) (b:=true) trivial rfl ⟨_,_,rfl⟩ (λ_ _=>nofun) (.cons (.two (gs:=sT) rfl qx) .nil) (by kernel_rfl)⟩
def jo:List Dt:=[.tup [.str "lift",.str "box",.str "m"],
 .tup [.str "lift",.str "a",.str "z"],
 .tup [.str "lift",.str "m",.str "z"],
 .tup [.str "turn",.str "z",.tup [.str "cut",.int 1]]]
theorem tt {t:Dt} (ht:t∈jo) {lo hi m:Int} (h:In5 lo hi m):okD t=true/\Out t (k5 lo hi m) 0:=by
 obtain ⟨h1,h2,h3,h4,h6,h5⟩:=h;simp only [jo,aAb,aAc,or_false] at ht;rcases ht with rfl | rfl | rfl | rfl
 ·exact ⟨rfl,aY (p:=(.lift "box" "m")) rfl⟩
 ·exact ⟨rfl,aY (p:=(.lift "a" "z")) rfl⟩
 ·exact ⟨rfl,aY (p:=(.lift "m" "z")) rfl⟩
 ·exact ⟨rfl,aY (p:=(.turn "z" [.str "cut",.int 1])) rfl⟩
def jp:List Dt:=[.tup [.str "turn",.str "a",.str "cut"],
 .tup [.str "turn",.str "a"],
 .tup [.str "lift",.str "box",.str "z",.str "z"],
 .tup [.tup [.str "put"],.str "m"],
 .tup [.int 7,.str "a",.str "b"]]
theorem tu {t:Dt} (ht:t∈jp) {lo hi m:Int} (h:In5 lo hi m):okD t=true/\Out t (k5 lo hi m) 0:=by
 obtain ⟨h1,h2,h3,h4,h6,h5⟩:=h;simp only [jp,aAb,aAc,or_false] at ht;rcases ht with rfl | rfl | rfl | rfl | rfl
 ·exact ⟨rfl,.form rfl⟩
 ·exact ⟨rfl,.form rfl⟩
 ·exact ⟨rfl,.form rfl⟩
 ·exact ⟨rfl,.form rfl⟩
 ·exact ⟨rfl,.form rfl⟩
def oF:List Dt:=[.tup [.str "split",.str "a",.str "-",.str "x",.str "y"],
 .tup [.str "split",.str "b",.str "",.str "x",.str "y"],
 .tup [.str "split",.str "b",.str "--",.str "x",.str "y"]]
theorem vB {t:Dt} (ht:t∈oF) {lo hi m:Int} (h:In5 lo hi m):okD t=true/\Out t (k5 lo hi m) 0:=by
 obtain ⟨h1,h2,h3,h4,h6,h5⟩:=h;simp only [oF,aAb,aAc,or_false] at ht;rcases ht with rfl | rfl | rfl
 ·exact ⟨rfl,.take (p:=(.split "a" "-" "x" "y")) (b:=true) (λ_=>⟨⟨_,rfl⟩,by decide⟩) rfl⟩
 ·exact ⟨rfl,.take (p:=(.split "b" "" "x" "y")) (b:=true) (λ_=>⟨⟨_,rfl⟩,by decide⟩) rfl⟩
 ·exact ⟨rfl,.take (p:=(.split "b" "--" "x" "y")) (b:=true) (λ_=>⟨⟨_,rfl⟩,by decide⟩) rfl⟩
def oG:List Dt:=[.tup [.str "split",.str "b",.str "-",.str "x",.str "x"],
 .tup [.str "split",.str "b",.str "-",.str "a",.str "y"],
 .tup [.str "split",.str "b",.str "-",.str "x",.str "c"]]
theorem vC {t:Dt} (ht:t∈oG) {lo hi m:Int} (h:In5 lo hi m):okD t=true/\Out t (k5 lo hi m) 0:=by
 obtain ⟨h1,h2,h3,h4,h6,h5⟩:=h;simp only [oG,aAb,aAc,or_false] at ht;rcases ht with rfl | rfl | rfl
 ·exact ⟨rfl,.make (p:=(.split "b" "-" "x" "x")) (b:=true) ⟨⟨_,rfl⟩,by decide⟩ rfl ⟨_,_,rfl⟩ (λ_ _=>nofun) (.cons .one .nil) (by kernel_rfl)⟩
 ·exact ⟨rfl,.make (p:=(.split "b" "-" "a" "y")) (b:=true) ⟨⟨_,rfl⟩,by decide⟩ rfl ⟨_,_,rfl⟩ (λ_ _=>nofun) (.cons .one .nil) (by kernel_rfl)⟩
 ·exact ⟨rfl,.make (p:=(.split "b" "-" "x" "c")) (b:=true) ⟨⟨_,rfl⟩,by decide⟩ rfl ⟨_,_,rfl⟩ (λ_ _=>nofun) (.cons .one .nil) (by kernel_rfl)⟩
def oH:List Dt:=[.tup [.str "split",.str "b",.str "\"",.str "x",.str "y"],
 .tup [.str "split",.str "b",.str "\n",.str "x",.str "y"],
 .tup [.str "split",.str "z",.str "-",.str "x",.str "y"]]
theorem vD {t:Dt} (ht:t∈oH) {lo hi m:Int} (h:In5 lo hi m):okD t=true/\Out t (k5 lo hi m) 0:=by
 obtain ⟨h1,h2,h3,h4,h6,h5⟩:=h;simp only [oH,aAb,aAc,or_false] at ht;rcases ht with rfl | rfl | rfl
 ·exact ⟨rfl,.take (p:=(.split "b" "\"" "x" "y")) (b:=true) (λ_=>⟨⟨_,rfl⟩,by decide⟩) rfl⟩
 ·exact ⟨rfl,.take (p:=(.split "b" "\n" "x" "y")) (b:=true) (λ_=>⟨⟨_,rfl⟩,by decide⟩) rfl⟩
 ·exact ⟨rfl,aY (p:=(.split "z" "-" "x" "y")) rfl⟩
def oI:List Dt:=[.tup [.str "join",.str "b",.str "b",.str "-",.str "x"],
 .tup [.str "join",.str "b",.str "d",.str "-",.str "x"],
 .tup [.str "join",.str "a",.str "b",.str "-",.str "x"]]
theorem vE {t:Dt} (ht:t∈oI) {lo hi m:Int} (h:In5 lo hi m):okD t=true/\Out t (k5 lo hi m) 0:=by
 obtain ⟨h1,h2,h3,h4,h6,h5⟩:=h;simp only [oI,aAb,aAc,or_false] at ht;rcases ht with rfl | rfl | rfl
 ·exact ⟨rfl,aY (p:=(.join "b" "b" "-" "x")) rfl⟩
 ·exact ⟨rfl,.take (p:=(.join "b" "d" "-" "x")) (b:=true) (λ_=>⟨⟨_,_,rfl⟩,by decide⟩) (xx h5)⟩
 ·exact ⟨rfl,.take (p:=(.join "a" "b" "-" "x")) (b:=true) (λ_=>⟨⟨_,_,rfl⟩,by decide⟩) rfl⟩
def oJ:List Dt:=[.tup [.str "join",.str "b",.str "c",.str "-",.str "a"],
 .tup [.str "join",.str "b",.str "c",.str "-",.str "X"],
 .tup [.str "join",.str "b",.str "z",.str "-",.str "x"]]
theorem vF {t:Dt} (ht:t∈oJ) {lo hi m:Int} (h:In5 lo hi m):okD t=true/\Out t (k5 lo hi m) 0:=by
 obtain ⟨h1,h2,h3,h4,h6,h5⟩:=h;simp only [oJ,aAb,aAc,or_false] at ht;rcases ht with rfl | rfl | rfl
 ·exact ⟨rfl,.make (p:=(.join "b" "c" "-" "a")) (b:=true) ⟨⟨_,_,rfl⟩,by decide⟩ (kR (m:=m) rfl rfl) ⟨_,_,rfl⟩ (λ_ _=>nofun) (.cons .one (.cons .one .nil)) (by kernel_rfl)⟩
 ·exact ⟨rfl,.make (p:=(.join "b" "c" "-" "X")) (b:=true) ⟨⟨_,_,rfl⟩,by decide⟩ (kR (m:=m) rfl rfl) ⟨_,_,rfl⟩ (λ_ _=>nofun) (.cons .one (.cons .one .nil)) (by kernel_rfl)⟩
 ·exact ⟨rfl,aY (p:=(.join "b" "z" "-" "x")) rfl⟩
def oK:List Dt:=[.tup [.str "part",.str "a",.int 1,.str "x",.str "y"],
 .tup [.str "part",.str "a",.int 1001,.str "x",.str "y"],
 .tup [.str "part",.str "b",.int 2,.str "x",.str "y"]]
theorem vG {t:Dt} (ht:t∈oK) {lo hi m:Int} (h:In5 lo hi m):okD t=true/\Out t (k5 lo hi m) 0:=by
 obtain ⟨h1,h2,h3,h4,h6,h5⟩:=h;simp only [oK,aAb,aAc,or_false] at ht;rcases ht with rfl | rfl | rfl
 ·exact ⟨rfl,.take (p:=(.part "a" 1 "x" "y")) (b:=true) (λ_=>⟨_,rfl⟩) rfl⟩
 ·exact ⟨rfl,.take (p:=(.part "a" 1001 "x" "y")) (b:=true) (λ_=>⟨_,rfl⟩) rfl⟩
 ·exact ⟨rfl,.take (p:=(.part "b" 2 "x" "y")) (b:=true) (λ_=>⟨_,rfl⟩) rfl⟩
def oM:List Dt:=[.tup [.str "part",.str "a",.int 2,.str "x",.str "x"],
 .tup [.str "part",.str "a",.int 2,.str "b",.str "y"],
 .tup [.str "part",.str "a",.str "2",.str "x",.str "y"]]
theorem vH {t:Dt} (ht:t∈oM) {lo hi m:Int} (h:In5 lo hi m):okD t=true/\Out t (k5 lo hi m) 0:=by
 obtain ⟨h1,h2,h3,h4,h6,h5⟩:=h;simp only [oM,aAb,aAc,or_false] at ht;rcases ht with rfl | rfl | rfl
 ·exact ⟨rfl,.make (p:=(.part "a" 2 "x" "x")) (b:=true) ⟨_,rfl⟩ rfl ⟨⟨lo,hi,rfl⟩,by decide,by decide⟩ (λ_ _=>nofun) (.cons .one .nil) (by kernel_rfl)⟩
 ·exact ⟨rfl,.make (p:=(.part "a" 2 "b" "y")) (b:=true) ⟨_,rfl⟩ rfl ⟨⟨lo,hi,rfl⟩,by decide,by decide⟩ (λ_ _=>nofun) (.cons .one .nil) (by kernel_rfl)⟩
 ·exact ⟨rfl,.form rfl⟩
def oN:List Dt:=[.tup [.str "whole",.str "a",.str "a",.int 2,.str "x",.int 0,.int 9],
 .tup [.str "whole",.str "a",.str "b",.int 2,.str "x",.int 0,.int 9]]
theorem vI {t:Dt} (ht:t∈oN) {lo hi m:Int} (h:In5 lo hi m):okD t=true/\Out t (k5 lo hi m) 0:=by
 obtain ⟨h1,h2,h3,h4,h6,h5⟩:=h;simp only [oN,aAb,aAc,or_false] at ht;rcases ht with rfl | rfl
 ·exact ⟨rfl,aY (p:=(.whole "a" "a" 2 "x" 0 9)) rfl⟩
 ·exact ⟨rfl,.take (p:=(.whole "a" "b" 2 "x" 0 9)) (b:=true) (λ_=>⟨_,_,rfl⟩) (vA lo hi m)⟩
def oO:List Dt:=[.tup [.str "whole",.str "a",.str "z",.int 2,.str "x",.int 0,.int 9],
 .tup [.str "whole",.str "a",.str "b",.int 2,.str "x",.str "0",.int 9],
 .tup [.str "part",.str "a",.int 2,.str "x",.int 7]]
theorem vJ {t:Dt} (ht:t∈oO) {lo hi m:Int} (h:In5 lo hi m):okD t=true/\Out t (k5 lo hi m) 0:=by
 obtain ⟨h1,h2,h3,h4,h6,h5⟩:=h;simp only [oO,aAb,aAc,or_false] at ht;rcases ht with rfl | rfl | rfl
 ·exact ⟨rfl,aY (p:=(.whole "a" "z" 2 "x" 0 9)) rfl⟩
 ·exact ⟨rfl,.form rfl⟩
 ·exact ⟨rfl,.form rfl⟩
def oP:List Dt:=[.tup [.str "whole",.str "q",.str "r",.int 10,.str "x",.int 0,.int 49],
 .tup [.str "whole",.str "q",.str "r",.int 10,.str "x",.int 0,.int 60],
 .tup [.str "whole",.str "q",.str "r",.int 9,.str "x",.int 0,.int 50]]
theorem vK {t:Dt} (ht:t∈oP):okD t=true/\Out t qrF 0:=by
 simp only [oP,aAb,aAc,or_false] at ht;rcases ht with rfl | rfl | rfl
 ·exact ⟨rfl,.take (p:=(.whole "q" "r" 10 "x" 0 49)) (b:=true) (λ_=>⟨_,_,rfl⟩) rfl⟩
 ·exact ⟨rfl,.take (p:=(.whole "q" "r" 10 "x" 0 60)) (b:=true) (λ_=>⟨_,_,rfl⟩) rfl⟩
 ·exact ⟨rfl,.take (p:=(.whole "q" "r" 9 "x" 0 50)) (b:=true) (λ_=>⟨_,_,rfl⟩) rfl⟩
def oQ:List Dt:=[.tup [.str "whole",.str "r",.str "q",.int 10,.str "x",.int 0,.int 55],
 .tup [.str "whole",.str "q",.str "r",.int 10,.str "x",.int 10,.int 55]]
theorem vL {t:Dt} (ht:t∈oQ):okD t=true/\Out t qrF 0:=by
 simp only [oQ,aAb,aAc,or_false] at ht;rcases ht with rfl | rfl
 ·exact ⟨rfl,.take (p:=(.whole "r" "q" 10 "x" 0 55)) (b:=true) (λ_=>⟨_,_,rfl⟩) rfl⟩
 ·exact ⟨rfl,.take (p:=(.whole "q" "r" 10 "x" 10 55)) (b:=true) (λ_=>⟨_,_,rfl⟩) rfl⟩
def oR:List Dt:=[.tup [.str "whole",.str "q",.str "r",.int 10,.str "x",.int 55,.int 0],
 .tup [.str "whole",.str "q",.str "r",.int 10,.str "x",.int (-1),.int 55]]
theorem vM {t:Dt} (ht:t∈oR):okD t=true/\Out t qrF 0:=by
 simp only [oR,aAb,aAc,or_false] at ht;rcases ht with rfl | rfl
 ·exact ⟨rfl,.take (p:=(.whole "q" "r" 10 "x" 55 0)) (b:=true) (λ_=>⟨_,_,rfl⟩) rfl⟩
 ·exact ⟨rfl,.take (p:=(.whole "q" "r" 10 "x" (-1) 55)) (b:=true) (λ_=>⟨_,_,rfl⟩) rfl⟩
def rh:List Dt:=((((((((jh)++ji)++jj)++jk)++jl)++jm)++jn)++jo)++jp
theorem vN {t:Dt} (ht:t∈rh) {lo hi m:Int} (h:In5 lo hi m):okD t=true/\Out t (k5 lo hi m) 0:=by
 simp only [rh,aAI] at ht;rcases ht with ((((((((h0) | h1) | h2) | h3) | h4) | h5) | h6) | h7) | h8
 ·exact sU h0 h
 ·exact sV h1 h
 ·exact sW h2 h
 ·exact sX h3 h
 ·exact sY h4 h
 ·exact sZ h5 h
 ·exact tj h6 h
 ·exact tt h7 h
 ·exact tu h8 h
def xz:List Dt:=((((((((oF)++oG)++oH)++oI)++oJ)++oK)++oM)++oN)++oO
theorem xA {t:Dt} (ht:t∈xz) {lo hi m:Int} (h:In5 lo hi m):okD t=true/\Out t (k5 lo hi m) 0:=by
 simp only [xz,aAI] at ht;rcases ht with ((((((((h0) | h1) | h2) | h3) | h4) | h5) | h6) | h7) | h8
 ·exact vB h0 h
 ·exact vC h1 h
 ·exact vD h2 h
 ·exact vE h3 h
 ·exact vF h4 h
 ·exact vG h5 h
 ·exact vH h6 h
 ·exact vI h7 h
 ·exact vJ h8 h
def Ih:List Dt:=((oP)++oQ)++oR
theorem xB {t:Dt} (ht:t∈Ih):okD t=true/\Out t qrF 0:=by
 simp only [Ih,aAI] at ht;rcases ht with ((h0) | h1) | h2
 ·exact vK h0
 ·exact vL h1
 ·exact vM h2
def mj:List Dt:=[.tup [.str "out"],.tup [.str "cut",.int 1],.tup [.str "shrink",.int 1001],.tup [.str "bounds",.int 5,.int 4],.tup [.str "first",.int 1],.tup [.str "figures",.int 0],.tup []]
theorem vO {u:Dt} (hu:u∈mj) {lo hi m:Int} (h:In5 lo hi m):okD (.tup [.str "turn",.str "a",u])=true/\Out (.tup [.str "turn",.str "a",u]) (k5 lo hi m) 1:=by
 obtain ⟨h1,h2,h3,h4,_,_⟩:=h;have a1:cT lo:=⟨by lia,by lia⟩;have a2:cT hi:=⟨by lia,by lia⟩;simp only [mj,aAb,aAc,or_false] at hu;rcases hu with rfl | rfl | rfl | rfl | rfl | rfl | rfl
 ·exact ⟨rfl,.turn (z:= "a") (u:=[.str "out"]) rfl ⟨lo,hi,_,rfl,a1,a2,.out⟩⟩
 ·exact ⟨rfl,.turn (z:= "a") (u:=[.str "cut",.int 1]) rfl ⟨lo,hi,_,rfl,a1,a2,.cut⟩⟩
 ·exact ⟨rfl,.turn (z:= "a") (u:=[.str "shrink",.int 1001]) rfl ⟨lo,hi,_,rfl,a1,a2,.shrink⟩⟩
 ·exact ⟨rfl,.turn (z:= "a") (u:=[.str "bounds",.int 5,.int 4]) rfl ⟨lo,hi,_,rfl,a1,a2,.bounds⟩⟩
 ·exact ⟨rfl,.turn (z:= "a") (u:=[.str "first",.int 1]) rfl ⟨lo,hi,_,rfl,a1,a2,.first⟩⟩
 ·exact ⟨rfl,.turn (z:= "a") (u:=[.str "figures",.int 0]) rfl ⟨lo,hi,_,rfl,a1,a2,.figures⟩⟩
 ·exact ⟨rfl,.turn (z:= "a") (u:=[]) rfl ⟨lo,hi,_,rfl,a1,a2,.none⟩⟩
theorem IQ {lo hi m:Int} (h:In5 lo hi m):∃ a c,FK a c (aF (mf (k5 lo hi m) "a" ++[(("m" : Str),bf lo hi)]))/\a<=5/\c<=40:=by
 obtain ⟨h1,h2,h3,h4,h6,h5⟩:=h;have fb:=FK.rcd (gs:=[("a",txD 2,1,1),("z",bf 0 9,1,1)]) (λg hg=>by
   simp only [aAb,aAc,or_false] at hg;rcases hg with rfl | rfl
   ·exact .text 2 (by decide) (by decide)
   ·exact .number 0 9 (by decide) (by decide) (by decide)) (by decide +kernel) (λg hg=>by
   simp only [aAb,aAc,or_false] at hg;rcases hg with rfl | rfl <;> decide +kernel) (by decide)
 have fr:=FK.rcd (gs:=[("b",txD m,1,1),("box",aF sT,2,3),("c",txD m,1,1),("d",txD 60,1,1),("m",bf lo hi,1,1)]) (λg hg=>by
   simp only [aAb,aAc,or_false] at hg;rcases hg with rfl | rfl | rfl | rfl | rfl
   ·exact .text m (by lia) (by lia)
   ·exact fb
   ·exact .text m (by lia) (by lia)
   ·exact .text 60 (by decide) (by decide)
   ·exact .number lo hi (by lia) (by lia) (by lia)) (by decide +kernel:(["b","box","c","d","m"]:List Str).Pairwise ltS) (λg hg=>by
   simp only [aAb,aAc,or_false] at hg;rcases hg with rfl | rfl | rfl | rfl | rfl <;> (dsimp only;decide +kernel)) (by show 5<=8;decide)
 exact ⟨3,8,fr,by decide,by decide⟩
theorem vP {lo hi m:Int} (h:In5 lo hi m):Out (pcD (.name "a" "m")) (k5 lo hi m) 2:=by
 obtain ⟨a,c,fk,ha,hc⟩:=IQ h;refine .good (b:=true) (z:= "m") (d:=bf lo hi) trivial rfl ⟨_,_,rfl⟩ (λ_ _=>nofun) (.cons .one .nil) (by kernel_rfl) rfl rfl (λf hf=>?_) fk ha hc;have hf:f∈[(("b" : Str),txD m),("box",aF sT),("c",txD m),("d",txD 60)]:=hf;simp only [aAb,aAc,or_false] at hf;rcases hf with rfl | rfl | rfl | rfl <;> (dsimp only;decide +kernel)
theorem vQ:Out (pcD (.whole "q" "r" 10 "x" 0 55)) qrF 2:=by
 have fr:=FK.rcd (gs:=[("x",bf 0 55,1,1)]) (λg hg=>by
   rw [aAv.mp hg];exact .number 0 55 (by decide) (by decide) (by decide)) (by decide +kernel) (λg hg=>by
   rw [aAv.mp hg]
   decide +kernel) (by decide)
 exact .good (b:=true) (z:= "x") (d:=bf 0 55) (rs:=[]) ⟨_,_,rfl⟩ rfl trivial (λ_ _=>nofun) (.cons (.one (fs:=qrF) (z:= "q")) (.cons (.one (z:= "r")) .nil)) (by kernel_rfl) rfl rfl (λf hf=>nomatch hf) fr (by decide) (by decide)
def Lit (K:W.Frag) (σ:L2.St) (t:TE) (d:Dt):Prop:=∀ (H:Hp) (Q:VK),(∀ v H',Same H H'->IsP K H' d v->Q v H')->t σ H Q
def mm (K:W.Frag) (σ:L2.St) (t:TA) (ds:List Dt):Prop:=∀ (H:Hp) (Q:List V->Hp->Prop),(∀ vs H',Same H H'->IsPs K H' ds vs->Q vs H')->t σ H Q
section
variable {K:W.Frag} {σ:L2.St}
theorem aA {i:Int}:Lit K σ (tC (.int i)) (.int i):=λH Q q=>q _ H (Same.refl H) .int
theorem aB {z:Str}:Lit K σ (tC (.str z)) (.str z):=λH Q q=>q _ H (Same.refl H) .str
theorem aC {i:Nat} {n:Int} (h:σ[i]?=some (some (.int n))):Lit K σ (eh i) (.int n):=λH Q q=>⟨.int n,h,q _ H (Same.refl H) .int⟩
theorem aD {t:TE} {i:Int} (h:Lit K σ t (.int i)):Lit K σ (tUn (rU λi=>V.int (-i)) t) (.int (-i)):=λH Q q=>h H _ λv H1 g hv=>by
 obtain rfl:=cG hv;exact ⟨i,rfl,q _ H1 g .int⟩
theorem ar:mm K σ iC []:=λH Q q=>q [] H (Same.refl H) .nil
theorem ak {t:TE} {ts:TA} {d:Dt} {ds:List Dt} (h:Lit K σ t d) (hs:mm K σ ts ds):mm K σ (bV t ts) (d :: ds):=λH Q q=>h H _ λv H1 g1 hv=>hs H1 _ λvs H2 g2 hvs=>q (v :: vs) H2 (g1.trans g2) (.cons (hv.same g2) hvs)
theorem aE {ts:TA} {ds:List Dt} (hs:mm K σ ts ds) (hl:Nat.ble ds.length 1000=true:=by rfl):Lit K σ (kA K ts) (.tup ds):=λH Q q=>hs H _ λvs H1 g1 hvs=>⟨ds,hvs,by rw [<- hvs.length];exact aAL (aj (Nat.le_of_ble_eq_true hl)),λv H' g hv=>q v H' (g1.trans g) hv⟩
theorem rj {ts:TA} {ds:List Dt} (hs:mm K σ ts ds) (hl:ds.length<=1000) {H:Hp} {Q:VK} (q:∀ p vs H',Same H H'->H p=none->H' p=some (.lst vs)->IsPs K H' ds vs->Q (.ref p) H'):kY ts σ H Q:=hs H _ λvs H1 g1 hvs=>⟨by rw [<- hvs.length];exact aAL (aj hl),λp hp=>q p vs _ (g1.trans (ae hp _)) (g1.free hp) ac (hvs.same (ae hp _))⟩
theorem rl {ts:TA} {d0 ds:List Dt} {i:Nat} {a:Addr} {xs:List V} {H:Hp} {Q:VK} (hi:σ[i]?=some (some (.ref a))) (ha:H a=some (.lst xs)) (h0:IsPs K H d0 xs) (hs:mm K σ ts ds) (hl:d0.length+ds.length<=1000)
  (q:∀ p vs H',Same H H'->H p=none->H' p=some (.lst vs)->IsPs K H' (d0++ds) vs->Q (.ref p) H'):tOp (iJ K) (eh i) (kY ts) σ H Q :=
 ⟨.ref a,hi,rj hs (by lia) λp vs H1 g1 hn e1 hvs=>⟨a,p,xs,vs,rfl,rfl,SqL.of (g1 _ _ ha),SqL.of e1,by rw [<- h0.length,<- hvs.length];exact aAL (aj hl),λr hr=>q r _ _ (g1.trans (ae hr _)) (g1.free hr) ac (((h0.same g1).append hvs).same (ae hr _))⟩⟩
theorem iw {ts:TA} {ds:List Dt} {i:Nat} {u:TS} {D:Ends} {H:Hp} (hs:mm K σ ts ds) (hl:ds.length<=1000) (q:∀ p vs H',Same H H'->H p=none->H' p=some (.lst vs)->IsPs K H' ds vs->u D (σ.set i (some (.ref p))) H'):kU (ph (kY ts) (fh i)) u D σ H:=show kY ts σ H (λx H1=>u D (σ.set i (some x)) H1) from rj hs hl q
theorem aR {ts:TA} {d0 ds:List Dt} {i:Nat} {a:Addr} {xs:List V} {u:TS} {D:Ends} {H:Hp} (hi:σ[i]?=some (some (.ref a))) (ha:H a=some (.lst xs)) (h0:IsPs K H d0 xs) (hs:mm K σ ts ds) (hl:d0.length+ds.length<=1000)
  (q:∀ p vs H',Same H H'->H p=none->H' p=some (.lst vs)->IsPs K H' (d0++ds) vs->u D (σ.set i (some (.ref p))) H'):kU (ph (tOp (iJ K) (eh i) (kY ts)) (fh i)) u D σ H:=show tOp (iJ K) (eh i) (kY ts) σ H (λx H1=>u D (σ.set i (some x)) H1) from rl hi ha h0 hs hl q
theorem rm {ts:TA} {d0 ds:List Dt} {i:Nat} {a:Addr} {xs:List V} {D:Ends} {H:Hp} (hi:σ[i]?=some (some (.ref a))) (ha:H a=some (.lst xs)) (h0:IsPs K H d0 xs) (hs:mm K σ ts ds) (hl:d0.length+ds.length<=1000)
  (q:∀ p vs H',Same H H'->H p=none->H' p=some (.lst vs)->IsPs K H' (d0++ds) vs->D.rt (.ref p) H'):GS (tOp (iJ K) (eh i) (kY ts)) D σ H:=show tOp (iJ K) (eh i) (kY ts) σ H D.rt from rl hi ha h0 hs hl q
theorem vR {i:Nat} {v:V} {H:Hp} {Q:L2.St->Hp->Prop} (h:Q (σ.set i (some v)) H):fh i v σ H Q:=h
end
def jq (K:W.Frag) (_:Ads):Sp:=λvs H Q _=>vs=[]/\∀ (r:Addr) (ys:List V) (H':Hp),Same H H'->H r=none->H' r=some (.lst ys)->IsPs K H' rh ys->Q (.ref r) H'
theorem jr (T:Tx K mg ad) {f:Addr} {fd:FuncData} (F:Gn K mg "_law_missing" cM [] f fd):FnOk P w K mg base CX0 1 f fd [] (jq K ad):=by
 refine F.F.ok aG (λvs H Q E h=>?_) (λcdv A outer s H vs Q E hr h=>?_)
 ·obtain ⟨rfl,_⟩:=h
  rfl
 obtain ⟨rfl,q⟩:=h;refine ⟨_,(3,@ps_set _ _ 0 _ _ _ _ aG.nd rfl (Or.inl rfl) (@ao _ _ _ _ (@pa_cons _ _ _ _ _ (1,cW) (@pa_cons _ _ _ _ _ (1,(4,@pa3 _ _ _ _ _ _ _ pe_str (1,@pa2 _ _ _ _ _ pe_str pe_int (0) (0)) pe_str (0) (0) (0))) (@pa3 _ _ _ _ _ _ _ (1,@pa3 _ _ _ _ _ _ _ pe_str pe_str (1,@pa2 _ _ _ _ _ pe_str pe_int (0) (0)) (0) (0) (0)) (1,@pa3 _ _ _ _ _ _ _ pe_str pe_str pe_int (0) (0) (0)) (1,@pa2 _ _ _ _ _ pe_str pe_str (0) (0)) (0) (0) (0)) (0)) (0))) (0) (.inl rfl),(3,@ps_set _ _ 0 _ _ _ _ aG.nd rfl (Or.inl rfl) (@pe_op _ _ _ _ _ _ _ _ (az (K:=K) rfl) (pv 0) (@ao _ _ _ _ (@pa3 _ _ _ _ _ _ _ (1,(4,@pa3 _ _ _ _ _ _ _ pe_str (1,@pa2 _ _ _ _ _ pe_str pe_int (0) (0)) pe_str (0) (0) (0))) (1,(4,@pa3 _ _ _ _ _ _ _ pe_str (1,@pa2 _ _ _ _ _ pe_str pe_int (0) (0)) pe_str (0) (0) (0))) (1,(4,@pa3 _ _ _ _ _ _ _ pe_str (1,@pa2 _ _ _ _ _ pe_str pe_int (0) (0)) pe_str (0) (0) (0))) (0) (0) (0)))) (0) (.inl rfl),(3,@ps_set _ _ 0 _ _ _ _ aG.nd rfl (Or.inl rfl) (@pe_op _ _ _ _ _ _ _ _ (az (K:=K) rfl) (pv 0) (@ao _ _ _ _ (@pa3 _ _ _ _ _ _ _ (1,(4,@pa3 _ _ _ _ _ _ _ pe_str (1,@pa2 _ _ _ _ _ pe_str pe_int (0) (0)) pe_str (0) (0) (0))) (1,(4,@pa3 _ _ _ _ _ _ _ pe_str (1,@pa2 _ _ _ _ _ pe_str pe_int (0) (0)) pe_str (0) (0) (0))) (1,(4,@pa3 _ _ _ _ _ _ _ pe_str pe_str pe_str (0) (0) (0))) (0) (0) (0)))) (0) (.inl rfl),(3,@ps_set _ _ 0 _ _ _ _ aG.nd rfl (Or.inl rfl) (@pe_op _ _ _ _ _ _ _ _ (az (K:=K) rfl) (pv 0) (@ao _ _ _ _ (@pa3 _ _ _ _ _ _ _ (1,(4,@pa3 _ _ _ _ _ _ _ pe_str (1,@pa2 _ _ _ _ _ pe_str pe_int (0) (0)) pe_str (0) (0) (0))) (1,(4,@pa3 _ _ _ _ _ _ _ pe_str (1,@pa2 _ _ _ _ _ pe_str pe_int (0) (0)) pe_str (0) (0) (0))) (1,(4,@pa3 _ _ _ _ _ _ _ pe_int (1,@pa2 _ _ _ _ _ pe_str pe_int (0) (0)) pe_str (0) (0) (0))) (0) (0) (0)))) (0) (.inl rfl),(3,@ps_set _ _ 0 _ _ _ _ aG.nd rfl (Or.inl rfl) (@pe_op _ _ _ _ _ _ _ _ (az (K:=K) rfl) (pv 0) (@ao _ _ _ _ (@pa_cons _ _ _ _ _ (1,@pa3 _ _ _ _ _ _ _ pe_str pe_str pe_str (0) (0) (0)) (@pa_cons _ _ _ _ _ (1,@pa3 _ _ _ _ _ _ _ pe_str pe_str pe_int (0) (0) (0)) (@pa3 _ _ _ _ _ _ _ (1,@pa3 _ _ _ _ _ _ _ pe_str pe_str pe_str (0) (0) (0)) (1,@pa3 _ _ _ _ _ _ _ pe_str pe_str pe_str (0) (0) (0)) (1,@pa3 _ _ _ _ _ _ _ pe_str pe_str pe_str (0) (0) (0)) (0) (0) (0)) (0)) (0)))) (0) (.inl rfl),(3,@ps_set _ _ 0 _ _ _ _ aG.nd rfl (Or.inl rfl) (@pe_op _ _ _ _ _ _ _ _ (az (K:=K) rfl) (pv 0) (@ao _ _ _ _ (@pa_cons _ _ _ _ _ (1,@pa2 _ _ _ _ _ pe_str pe_str (0) (0)) (@pa3 _ _ _ _ _ _ _ (1,@pa3 _ _ _ _ _ _ _ pe_str pe_str pe_str (0) (0) (0)) (1,@pa3 _ _ _ _ _ _ _ pe_str pe_str pe_str (0) (0) (0)) (1,@pa3 _ _ _ _ _ _ _ pe_str pe_str pe_str (0) (0) (0)) (0) (0) (0)) (0)))) (0) (.inl rfl),(3,@ps_set _ _ 0 _ _ _ _ aG.nd rfl (Or.inl rfl) (@pe_op _ _ _ _ _ _ _ _ (az (K:=K) rfl) (pv 0) (@ao _ _ _ _ (@pa_cons _ _ _ _ _ (1,@pa3 _ _ _ _ _ _ _ pe_str pe_str pe_str (0) (0) (0)) (@pa3 _ _ _ _ _ _ _ (1,@pa3 _ _ _ _ _ _ _ pe_str pe_str pe_str (0) (0) (0)) (1,@pa3 _ _ _ _ _ _ _ pe_str pe_str pe_str (0) (0) (0)) (1,@pa3 _ _ _ _ _ _ _ pe_str pe_str pe_str (0) (0) (0)) (0) (0) (0)) (0)))) (0) (.inl rfl),(3,@ps_set _ _ 0 _ _ _ _ aG.nd rfl (Or.inl rfl) (@pe_op _ _ _ _ _ _ _ _ (az (K:=K) rfl) (pv 0) (@ao _ _ _ _ (@pa_cons _ _ _ _ _ (1,@pa3 _ _ _ _ _ _ _ pe_str pe_str pe_str (0) (0) (0)) (@pa3 _ _ _ _ _ _ _ (1,@pa3 _ _ _ _ _ _ _ pe_str pe_str pe_str (0) (0) (0)) (1,@pa3 _ _ _ _ _ _ _ pe_str pe_str pe_str (0) (0) (0)) (1,@pa3 _ _ _ _ _ _ _ pe_str pe_str (1,@pa2 _ _ _ _ _ pe_str pe_int (0) (0)) (0) (0) (0)) (0) (0) (0)) (0)))) (0) (.inl rfl),@pss_one _ _ _ (@ps_ret _ _ _ _ (@pe_op _ _ _ _ _ _ _ _ (az (K:=K) rfl) (pv 0) (@ao _ _ _ _ (@pa_cons _ _ _ _ _ (1,@pa3 _ _ _ _ _ _ _ pe_str pe_str pe_str (0) (0) (0)) (@pa_cons _ _ _ _ _ (1,@pa2 _ _ _ _ _ pe_str pe_str (0) (0)) (@pa3 _ _ _ _ _ _ _ (1,(4,@pa3 _ _ _ _ _ _ _ pe_str pe_str pe_str (0) (0) (0))) (1,@pa2 _ _ _ _ _ (1,@pa1 _ _ _ pe_str (0)) pe_str (0) (0)) (1,@pa3 _ _ _ _ _ _ _ pe_int pe_str pe_str (0) (0) (0)) (0) (0) (0)) (0)) (0))))))))))))),?_⟩;refine iw (K:=K) (ds:=jh) ?_ (by decide) λp0 x0 H0 g0 n0 e0 i0=>?_
 ·unfold jh
  (repeat' first | with_reducible refine ak ?_ ?_ | with_reducible exact ar | with_reducible exact aB | with_reducible exact aA | refine aE ?_ | exact aC rfl | refine aD ?_)
 refine aR (K:=K) (ds:=ji) rfl e0 i0 ?_ (by decide) λp1 x1 H1 g1 n1 e1 i1=>?_
 ·unfold ji
  (repeat' first | with_reducible refine ak ?_ ?_ | with_reducible exact ar | with_reducible exact aB | with_reducible exact aA | refine aE ?_ | exact aC rfl | refine aD ?_)
 refine aR (K:=K) (ds:=jj) rfl e1 i1 ?_ (by decide) λp2 x2 H2 g2 n2 e2 i2=>?_
 ·unfold jj
  (repeat' first | with_reducible refine ak ?_ ?_ | with_reducible exact ar | with_reducible exact aB | with_reducible exact aA | refine aE ?_ | exact aC rfl | refine aD ?_)
 refine aR (K:=K) (ds:=jk) rfl e2 i2 ?_ (by decide) λp3 x3 H3 g3 n3 e3 i3=>?_
 ·unfold jk
  (repeat' first | with_reducible refine ak ?_ ?_ | with_reducible exact ar | with_reducible exact aB | with_reducible exact aA | refine aE ?_ | exact aC rfl | refine aD ?_)
 refine aR (K:=K) (ds:=jl) rfl e3 i3 ?_ (by decide) λp4 x4 H4 g4 n4 e4 i4=>?_
 ·unfold jl
  (repeat' first | with_reducible refine ak ?_ ?_ | with_reducible exact ar | with_reducible exact aB | with_reducible exact aA | refine aE ?_ | exact aC rfl | refine aD ?_)
 refine aR (K:=K) (ds:=jm) rfl e4 i4 ?_ (by decide) λp5 x5 H5 g5 n5 e5 i5=>?_
 ·unfold jm
  (repeat' first | with_reducible refine ak ?_ ?_ | with_reducible exact ar | with_reducible exact aB | with_reducible exact aA | refine aE ?_ | exact aC rfl | refine aD ?_)
 refine aR (K:=K) (ds:=jn) rfl e5 i5 ?_ (by decide) λp6 x6 H6 g6 n6 e6 i6=>?_
 ·unfold jn
  (repeat' first | with_reducible refine ak ?_ ?_ | with_reducible exact ar | with_reducible exact aB | with_reducible exact aA | refine aE ?_ | exact aC rfl | refine aD ?_)
 refine aR (K:=K) (ds:=jo) rfl e6 i6 ?_ (by decide) λp7 x7 H7 g7 n7 e7 i7=>?_
 ·unfold jo
  (repeat' first | with_reducible refine ak ?_ ?_ | with_reducible exact ar | with_reducible exact aB | with_reducible exact aA | refine aE ?_ | exact aC rfl | refine aD ?_)
 refine rm (K:=K) (ds:=jp) rfl e7 i7 ?_ (by decide) λp8 x8 H8 g8 n8 e8 i8=>?_
 ·unfold jp
  (repeat' first | with_reducible refine ak ?_ ?_ | with_reducible exact ar | with_reducible exact aB | with_reducible exact aA | refine aE ?_ | exact aC rfl | refine aD ?_)
 exact q p8 x8 H8 ((((((((g0.trans g1).trans g2).trans g3).trans g4).trans g5).trans g6).trans g7).trans g8) ((((((((g0.trans g1).trans g2).trans g3).trans g4).trans g5).trans g6).trans g7).free n8) e8 i8
def mn (K:W.Frag) (_:Ads):Sp:=λvs H Q _=>∃ u1 u2:V,vs=[u1,u2]/\∀ (r:Addr) (ys:List V) (H':Hp),Same H H'->H r=none->H' r=some (.lst ys)->IsPs K H' xz ys->Q (.ref r) H'
theorem mo (T:Tx K mg ad) {f:Addr} {fd:FuncData} (F:Gn K mg "_law_unfit" d5 ["number","text"] f fd):FnOk P w K mg base CX0 1 f fd ["number","text"] (mn K ad):=by
 refine F.F.ok aJ (λvs H Q E h=>?_) (λcdv A outer s H vs Q E hr h=>?_)
 ·obtain ⟨u1,u2,rfl,_⟩:=h
  rfl
 obtain ⟨u1,u2,rfl,q⟩:=h;refine ⟨_,(3,@ps_set _ _ 2 _ _ _ _ aJ.nd rfl (Or.inl rfl) (@ao _ _ _ _ (@pa3 _ _ _ _ _ _ _ (1,(4,(4,@pa3 _ _ _ _ _ _ _ pe_str pe_str pe_str (0) (0) (0)))) (1,(4,(4,@pa3 _ _ _ _ _ _ _ pe_str pe_str pe_str (0) (0) (0)))) (1,(4,(4,@pa3 _ _ _ _ _ _ _ pe_str pe_str pe_str (0) (0) (0)))) (0) (0) (0))) (0) (.inl rfl),(3,@ps_set _ _ 2 _ _ _ _ aJ.nd rfl (Or.inl rfl) (@pe_op _ _ _ _ _ _ _ _ (az (K:=K) rfl) (pv 2) (@ao _ _ _ _ (@pa3 _ _ _ _ _ _ _ (1,(4,(4,@pa3 _ _ _ _ _ _ _ pe_str pe_str pe_str (0) (0) (0)))) (1,(4,(4,@pa3 _ _ _ _ _ _ _ pe_str pe_str pe_str (0) (0) (0)))) (1,(4,(4,@pa3 _ _ _ _ _ _ _ pe_str pe_str pe_str (0) (0) (0)))) (0) (0) (0)))) (0) (.inl rfl),(3,@ps_set _ _ 2 _ _ _ _ aJ.nd rfl (Or.inl rfl) (@pe_op _ _ _ _ _ _ _ _ (az (K:=K) rfl) (pv 2) (@ao _ _ _ _ (@pa3 _ _ _ _ _ _ _ (1,(4,(4,@pa3 _ _ _ _ _ _ _ pe_str pe_str pe_str (0) (0) (0)))) (1,(4,(4,@pa3 _ _ _ _ _ _ _ pe_str pe_str pe_str (0) (0) (0)))) (1,(4,(4,@pa3 _ _ _ _ _ _ _ pe_str pe_str pe_str (0) (0) (0)))) (0) (0) (0)))) (0) (.inl rfl),(3,@ps_set _ _ 2 _ _ _ _ aJ.nd rfl (Or.inl rfl) (@pe_op _ _ _ _ _ _ _ _ (az (K:=K) rfl) (pv 2) (@ao _ _ _ _ (@pa3 _ _ _ _ _ _ _ (1,(4,(4,@pa3 _ _ _ _ _ _ _ pe_str pe_str pe_str (0) (0) (0)))) (1,(4,(4,@pa3 _ _ _ _ _ _ _ pe_str pe_str pe_str (0) (0) (0)))) (1,(4,(4,@pa3 _ _ _ _ _ _ _ pe_str pe_str pe_str (0) (0) (0)))) (0) (0) (0)))) (0) (.inl rfl),(3,@ps_set _ _ 2 _ _ _ _ aJ.nd rfl (Or.inl rfl) (@pe_op _ _ _ _ _ _ _ _ (az (K:=K) rfl) (pv 2) (@ao _ _ _ _ (@pa3 _ _ _ _ _ _ _ (1,(4,(4,@pa3 _ _ _ _ _ _ _ pe_str pe_str pe_str (0) (0) (0)))) (1,(4,(4,@pa3 _ _ _ _ _ _ _ pe_str pe_str pe_str (0) (0) (0)))) (1,(4,(4,@pa3 _ _ _ _ _ _ _ pe_str pe_str pe_str (0) (0) (0)))) (0) (0) (0)))) (0) (.inl rfl),(3,@ps_set _ _ 2 _ _ _ _ aJ.nd rfl (Or.inl rfl) (@pe_op _ _ _ _ _ _ _ _ (az (K:=K) rfl) (pv 2) (@ao _ _ _ _ (@pa3 _ _ _ _ _ _ _ (1,(4,(4,@pa3 _ _ _ _ _ _ _ pe_int pe_str pe_str (0) (0) (0)))) (1,(4,(4,@pa3 _ _ _ _ _ _ _ pe_int pe_str pe_str (0) (0) (0)))) (1,(4,(4,@pa3 _ _ _ _ _ _ _ pe_int pe_str pe_str (0) (0) (0)))) (0) (0) (0)))) (0) (.inl rfl),(3,@ps_set _ _ 2 _ _ _ _ aJ.nd rfl (Or.inl rfl) (@pe_op _ _ _ _ _ _ _ _ (az (K:=K) rfl) (pv 2) (@ao _ _ _ _ (@pa3 _ _ _ _ _ _ _ (1,(4,(4,@pa3 _ _ _ _ _ _ _ pe_int pe_str pe_str (0) (0) (0)))) (1,(4,(4,@pa3 _ _ _ _ _ _ _ pe_int pe_str pe_str (0) (0) (0)))) (1,(4,(4,@pa3 _ _ _ _ _ _ _ pe_str pe_str pe_str (0) (0) (0)))) (0) (0) (0)))) (0) (.inl rfl),(3,@ps_set _ _ 2 _ _ _ _ aJ.nd rfl (Or.inl rfl) (@pe_op _ _ _ _ _ _ _ _ (az (K:=K) rfl) (pv 2) (@ao _ _ _ _ (@pa2 _ _ _ _ _ (1,(4,(4,(4,@pa_cons _ _ _ _ _ pe_int (@pa3 _ _ _ _ _ _ _ pe_str pe_int pe_int (0) (0) (0)) (0))))) (1,(4,(4,(4,@pa_cons _ _ _ _ _ pe_int (@pa3 _ _ _ _ _ _ _ pe_str pe_int pe_int (0) (0) (0)) (0))))) (0) (0)))) (0) (.inl rfl),@pss_one _ _ _ (@ps_ret _ _ _ _ (@pe_op _ _ _ _ _ _ _ _ (az (K:=K) rfl) (pv 2) (@ao _ _ _ _ (@pa3 _ _ _ _ _ _ _ (1,(4,(4,(4,@pa_cons _ _ _ _ _ pe_int (@pa3 _ _ _ _ _ _ _ pe_str pe_int pe_int (0) (0) (0)) (0))))) (1,(4,(4,(4,@pa_cons _ _ _ _ _ pe_int (@pa3 _ _ _ _ _ _ _ pe_str pe_str pe_int (0) (0) (0)) (0))))) (1,(4,(4,@pa3 _ _ _ _ _ _ _ pe_int pe_str pe_int (0) (0) (0)))) (0) (0) (0))))))))))))),?_⟩;refine iw (K:=K) (ds:=oF) ?_ (by decide) λp0 x0 H0 g0 n0 e0 i0=>?_
 ·unfold oF
  (repeat' first | with_reducible refine ak ?_ ?_ | with_reducible exact ar | with_reducible exact aB | with_reducible exact aA | refine aE ?_ | exact aC rfl | refine aD ?_)
 refine aR (K:=K) (ds:=oG) rfl e0 i0 ?_ (by decide) λp1 x1 H1 g1 n1 e1 i1=>?_
 ·unfold oG
  (repeat' first | with_reducible refine ak ?_ ?_ | with_reducible exact ar | with_reducible exact aB | with_reducible exact aA | refine aE ?_ | exact aC rfl | refine aD ?_)
 refine aR (K:=K) (ds:=oH) rfl e1 i1 ?_ (by decide) λp2 x2 H2 g2 n2 e2 i2=>?_
 ·unfold oH
  (repeat' first | with_reducible refine ak ?_ ?_ | with_reducible exact ar | with_reducible exact aB | with_reducible exact aA | refine aE ?_ | exact aC rfl | refine aD ?_)
 refine aR (K:=K) (ds:=oI) rfl e2 i2 ?_ (by decide) λp3 x3 H3 g3 n3 e3 i3=>?_
 ·unfold oI
  (repeat' first | with_reducible refine ak ?_ ?_ | with_reducible exact ar | with_reducible exact aB | with_reducible exact aA | refine aE ?_ | exact aC rfl | refine aD ?_)
 refine aR (K:=K) (ds:=oJ) rfl e3 i3 ?_ (by decide) λp4 x4 H4 g4 n4 e4 i4=>?_
 ·unfold oJ
  (repeat' first | with_reducible refine ak ?_ ?_ | with_reducible exact ar | with_reducible exact aB | with_reducible exact aA | refine aE ?_ | exact aC rfl | refine aD ?_)
 refine aR (K:=K) (ds:=oK) rfl e4 i4 ?_ (by decide) λp5 x5 H5 g5 n5 e5 i5=>?_
 ·unfold oK
  (repeat' first | with_reducible refine ak ?_ ?_ | with_reducible exact ar | with_reducible exact aB | with_reducible exact aA | refine aE ?_ | exact aC rfl | refine aD ?_)
 refine aR (K:=K) (ds:=oM) rfl e5 i5 ?_ (by decide) λp6 x6 H6 g6 n6 e6 i6=>?_
 ·unfold oM
  (repeat' first | with_reducible refine ak ?_ ?_ | with_reducible exact ar | with_reducible exact aB | with_reducible exact aA | refine aE ?_ | exact aC rfl | refine aD ?_)
 refine aR (K:=K) (ds:=oN) rfl e6 i6 ?_ (by decide) λp7 x7 H7 g7 n7 e7 i7=>?_
 ·unfold oN
  (repeat' first | with_reducible refine ak ?_ ?_ | with_reducible exact ar | with_reducible exact aB | with_reducible exact aA | refine aE ?_ | exact aC rfl | refine aD ?_)
 refine rm (K:=K) (ds:=oO) rfl e7 i7 ?_ (by decide) λp8 x8 H8 g8 n8 e8 i8=>?_
 ·unfold oO
  (repeat' first | with_reducible refine ak ?_ ?_ | with_reducible exact ar | with_reducible exact aB | with_reducible exact aA | refine aE ?_ | exact aC rfl | refine aD ?_)
 exact q p8 x8 H8 ((((((((g0.trans g1).trans g2).trans g3).trans g4).trans g5).trans g6).trans g7).trans g8) ((((((((g0.trans g1).trans g2).trans g3).trans g4).trans g5).trans g6).trans g7).free n8) e8 i8
theorem rn {K:W.Frag} {σ:L2.St} {t:TE} {d:Dt} {i:Nat} {u:TS} {D:Ends} {H:Hp} (h:Lit K σ t d) (q:∀ v H',Same H H'->IsP K H' d v->u D (σ.set i (some v)) H'):kU (ph t (fh i)) u D σ H:=show t σ H (λx H1=>u D (σ.set i (some x)) H1) from h H _ q
theorem tw {K:W.Frag} {H:Hp} {z:Str} {d:Dt} {u:V} (hu:IsP K H d u) {Q:VK} (q:∀ v H',Same H H'->IsP K H' (.tup [.str z,d]) v->Q v H'):ITup K [.str z,u] H Q:=⟨[.str z,d],.cons .str (.cons hu .nil),sz2,q⟩
def oS (K:W.Frag) (_:Ads):Sp:=λvs H Q _=>∃ (r:Addr) (c:Int),vs=[.ref r]/\H r=some (.lst [.int c])/\∀ (v:V) (lo hi m c':Int) (H':Hp),But r H H'->H' r=some (.lst [.int c'])->IsP K H' (aF (k5 lo hi m)) v->In5 lo hi m->Q v H'
theorem oU (T:Tx K mg ad) {f:Addr} {fd:FuncData} (F:Gn K mg "_law_kind" e9 ["row"] f fd):FnOk P w K mg base CX0 2 f fd ["row"] (oS K ad):=by
 obtain ⟨_,_,Je⟩:=T.law_digit;have Jp:=fF (P:=P) (w:=w) (base:=base) T Je;refine F.F.ok bR (λvs H Q E h=>?_) (λcdv A outer s H vs Q E hr h=>?_)
 ·obtain ⟨r,c,rfl,_⟩:=h
  rfl
 obtain ⟨r,c,rfl,hr0,q⟩:=h;refine ⟨_,(3,@ps_set _ _ 1 _ _ _ _ bR.nd rfl (Or.inl rfl) (@pe_op _ _ _ _ _ _ _ _ op_sub (pcl Je Jp (hr.mono (by lia)) rfl (@pa2 _ _ _ _ _ (pv 0) pe_int (0) (0))) pe_int) (0) (.inl rfl),(3,@ps_set _ _ 2 _ _ _ _ bR.nd rfl (Or.inl rfl) (1,@pa2 _ _ _ _ _ pe_str (1,@pa2 _ _ _ _ _ (1,@pa2 _ _ _ _ _ pe_str (1,@pa2 _ _ _ _ _ pe_str pe_int (0) (0)) (0) (0)) (1,@pa2 _ _ _ _ _ pe_str (1,@pa3 _ _ _ _ _ _ _ pe_str pe_int pe_int (0) (0) (0)) (0) (0)) (0) (0)) (0) (0)) (0) (.inl rfl),(3,@ps_set _ _ 3 _ _ _ _ bR.nd rfl (Or.inl rfl) (1,@pa3 _ _ _ _ _ _ _ pe_str (pv 1) (@pe_op _ _ _ _ _ _ _ _ op_add (@pe_op _ _ _ _ _ _ _ _ op_add (pv 1) pe_int) (pcl Je Jp (hr.mono (by lia)) rfl (@pa2 _ _ _ _ _ (pv 0) pe_int (0) (0)))) (0) (0) (0)) (0) (.inl rfl),(3,@ps_set _ _ 4 _ _ _ _ bR.nd rfl (Or.inl rfl) (1,@pa2 _ _ _ _ _ pe_str (@pe_op _ _ _ _ _ _ _ _ op_add pe_int (pcl Je Jp (hr.mono (by lia)) rfl (@pa2 _ _ _ _ _ (pv 0) pe_int (0) (0)))) (0) (0)) (0) (.inl rfl),@pss_one _ _ _ (@ps_ret _ _ _ _ (1,@pa2 _ _ _ _ _ pe_str (1,@pa_cons _ _ _ _ _ (1,@pa2 _ _ _ _ _ pe_str (pv 3) (0) (0)) (@pa_cons _ _ _ _ _ (1,@pa2 _ _ _ _ _ pe_str (pv 4) (0) (0)) (@pa3 _ _ _ _ _ _ _ (1,@pa2 _ _ _ _ _ pe_str (pv 2) (0) (0)) (1,@pa2 _ _ _ _ _ pe_str (pv 4) (0) (0)) (1,@pa2 _ _ _ _ _ pe_str (1,@pa2 _ _ _ _ _ pe_str pe_int (0) (0)) (0) (0)) (0) (0) (0)) (0)) (0)) (0) (0))))))),?_⟩;refine ⟨_,rfl,r,c,9,rfl,hr0,by decide,by decide,?_⟩;have b1:But r H (upd H r (.lst [.int (c / 9)])):=But.put;have e1:(upd H r (.lst [.int (c / 9)])) r=some (.lst [.int (c / 9)]):=ac
 generalize upd H r (.lst [.int (c / 9)])=H1 at b1 e1 ⊢
 have m1:=aA7 c (by decide:(9:Int)≠0);have m2:=aAY c (by decide:(0:Int) < 9)
 generalize c / 9=c1 at e1
 generalize c % 9=i1 at m1 m2 ⊢
 refine ⟨_,_,rfl,rfl,?_⟩;refine vR ?_;dsimp only [];refine rn (K:=K) (d:=.tup [.str "record",.tup [.tup [.str "a",.tup [.str "text",.int 2]],.tup [.str "z",.tup [.str "number",.int 0,.int 9]]]]) ?_ λvb H2 g2 hb2=>?_
 ·(repeat' first | with_reducible refine ak ?_ ?_ | with_reducible exact ar | with_reducible exact aB | with_reducible exact aA | refine aE ?_ | exact aC rfl | refine aD ?_)
 replace hb2:IsP K H2 (aF sT) vb:=hb2;have e2:=g2 _ _ e1;refine ⟨_,rfl,_,rfl,_,_,rfl,rfl,_,rfl,r,c1,30,rfl,e2,by decide,by decide,?_⟩;have b3:But r H2 (upd H2 r (.lst [.int (c1 / 30)])):=But.put;have e3:(upd H2 r (.lst [.int (c1 / 30)])) r=some (.lst [.int (c1 / 30)]):=ac;have hb3:=hb2.but e2 b3
 generalize upd H2 r (.lst [.int (c1 / 30)])=H3 at b3 e3 hb3 ⊢
 have m3:=aA7 c1 (by decide:(30:Int)≠0);have m4:=aAY c1 (by decide:(0:Int) < 30)
 generalize c1 / 30=c2 at e3
 generalize c1 % 30=i2 at m3 m4 ⊢
 refine ⟨_,_,rfl,rfl,?_⟩;refine ⟨[.str "number",.int (i1 - 4),.int (i1 - 4+20+i2)],.cons .str (.cons .int (.cons .int .nil)),sz3,λvn H4 g4 hn4=>?_⟩;have e4:=g4 _ _ e3;refine ⟨_,rfl,r,c2,20,rfl,e4,by decide,by decide,?_⟩;have b5:But r H4 (upd H4 r (.lst [.int (c2 / 20)])):=But.put;have e5:(upd H4 r (.lst [.int (c2 / 20)])) r=some (.lst [.int (c2 / 20)]):=ac;have hb5:=(hb3.same g4).but e4 b5;have hn5:=hn4.but e4 b5
 generalize upd H4 r (.lst [.int (c2 / 20)])=H5 at b5 e5 hb5 hn5 ⊢
 have m5:=aA7 c2 (by decide:(20:Int)≠0);have m6:=aAY c2 (by decide:(0:Int) < 20)
 generalize c2 / 20=c3 at e5
 generalize c2 % 20=i3 at m5 m6 ⊢
 refine ⟨_,_,rfl,rfl,?_⟩;refine ⟨[.str "text",.int (1+i3)],.cons .str (.cons .int .nil),sz2,λvt H6 g6 ht6=>?_⟩;refine ⟨_,rfl,tw (hn5.same g6) λw1 G1 f1 y1=>?_⟩;refine ⟨_,rfl,tw (ht6.same f1) λw2 G2 f2 y2=>?_⟩;refine ⟨_,rfl,tw (((hb5.same g6).same f1).same f2) λw3 G3 f3 y3=>?_⟩;refine ⟨_,rfl,tw (((ht6.same f1).same f2).same f3) λw4 G4 f4 y4=>?_⟩;refine ⟨[.str "text",.int 60],.cons .str (.cons .int .nil),sz2,λw5 G5 f5 y5=>?_⟩;refine tw y5 λw6 G6 f6 y6=>?_;have f56:=f5.trans f6;have f46:=f4.trans f56;have f36:=f3.trans f46;have f26:=f2.trans f36;refine ⟨(k5 (i1 - 4) (i1 - 4+20+i2) (1+i3)).map prD,.cons (y1.same f26) (.cons (y2.same f36) (.cons (y3.same f46) (.cons (y4.same f56) (.cons y6 .nil)))),(by show 5<=sizeLine;decide),λw7 G7 f7 y7=>tw y7 λw8 G8 f8 y8=>?_⟩;have S:=((g6.trans f1).trans f26).trans (f7.trans f8);exact q w8 _ _ _ c3 G8 (((((b1.trans (But.same g2)).trans b3).trans (But.same g4)).trans b5).trans (But.same S)) (S _ _ e5) y8 ⟨by lia,by lia,by lia,by lia,by lia,by lia⟩
def jY (K:W.Frag) (_:Ads):Sp:=λvs H Q _=>vs=[]/\∀ H',Same H H'->Q (.bl true) H'
theorem jZ (T:Tx K mg ad) {f:Addr} {fd:FuncData} (F:Gn K mg "_law_wholes" dv [] f fd):FnOk P w K mg base CX0 29 f fd [] (jY K ad):=by
 obtain ⟨_,_,Jd⟩:=T.law_word;have Jm:=gN (P:=P) (w:=w) (base:=base) T Jd;refine F.F.ok a7 (λvs H Q E h=>?_) (λcdv A outer s H vs Q E hr h=>?_)
 ·obtain ⟨rfl,_⟩:=h
  rfl
 obtain ⟨rfl,q⟩:=h;refine ⟨_,(@pss_cons _ _ _ _ _ (@ps_set _ _ 0 _ _ _ _ a7.nd rfl (Or.inl rfl) (1,@pa2 _ _ _ _ _ pe_str (1,@pa2 _ _ _ _ _ (1,@pa2 _ _ _ _ _ pe_str (1,@pa3 _ _ _ _ _ _ _ pe_str pe_int pe_int (0) (0) (0)) (0) (0)) (1,@pa2 _ _ _ _ _ pe_str (1,@pa3 _ _ _ _ _ _ _ pe_str pe_int pe_int (0) (0) (0)) (0) (0)) (0) (0)) (0) (0)) (0) (.inl rfl)) (@pss_cons _ _ _ _ _ (@ps_set _ _ 1 _ _ _ _ a7.nd rfl (Or.inl rfl) (@ao _ _ _ _ (@pa3 _ _ _ _ _ _ _ (1,(4,(4,(4,@pa_cons _ _ _ _ _ pe_int (@pa3 _ _ _ _ _ _ _ pe_str pe_int pe_int (0) (0) (0)) (0))))) (1,(4,(4,(4,@pa_cons _ _ _ _ _ pe_int (@pa3 _ _ _ _ _ _ _ pe_str pe_int pe_int (0) (0) (0)) (0))))) (1,(4,(4,(4,@pa_cons _ _ _ _ _ pe_int (@pa3 _ _ _ _ _ _ _ pe_str pe_int pe_int (0) (0) (0)) (0))))) (0) (0) (0))) (0) (.inl rfl)) (@pss_cons _ _ _ _ _ (@ps_set _ _ 1 _ _ _ _ a7.nd rfl (Or.inl rfl) (@pe_op _ _ _ _ _ _ _ _ (az (K:=K) rfl) (pv 1) (@ao _ _ _ _ (@pa2 _ _ _ _ _ (1,(4,(4,(4,@pa_cons _ _ _ _ _ pe_int (@pa3 _ _ _ _ _ _ _ pe_str pe_int pe_int (0) (0) (0)) (0))))) (1,(4,(4,(4,@pa_cons _ _ _ _ _ pe_int (@pa3 _ _ _ _ _ _ _ pe_str pe_int pe_int (0) (0) (0)) (0))))) (0) (0)))) (0) (.inl rfl)) (@pss_cons _ _ _ _ _ (@ps_set _ _ 1 _ _ _ _ a7.nd rfl (Or.inl rfl) (@pe_op _ _ _ _ _ _ _ _ (az (K:=K) rfl) (pv 1) (@ao _ _ _ _ (@pa2 _ _ _ _ _ (1,(4,(4,(4,@pa_cons _ _ _ _ _ pe_int (@pa3 _ _ _ _ _ _ _ pe_str pe_int pe_int (0) (0) (0)) (0))))) (1,(4,(4,(4,@pa_cons _ _ _ _ _ pe_int (@pa3 _ _ _ _ _ _ _ pe_str (@pe_un _ _ _ _ _ _ un_neg pe_int) pe_int (0) (0) (0)) (0))))) (0) (0)))) (0) (.inl rfl)) (@pss_cons _ _ _ _ _ (ps_for PassesOwn.never rfl (cg (K:=K) rfl (pv 1)) (ai (i:=2) a7.nd rfl (Or.inl rfl))
    (@pss_one _ _ _ (@ps_if _ _ _ _ _ _ _ _ (PW.pt (@pw_or _ _ _ _ _ _ _ (pt_cmpR op_ne (pcl Jd Jm (hr.mono (by lia)) rfl (@pa3 _ _ _ _ _ _ _ pe_int (pv 2) (pv 0) (0) (0) (0))) pe_str (nomark _)) (@pw_or1 _ _ _ _ (pt_cmpR op_ne (pcl Jd Jm (hr.mono (by lia)) rfl (@pa3 _ _ _ _ _ _ _ pe_int (pv 2) (pv 0) (0) (0) (0))) pe_str (nomark _))))) (@pss_one _ _ _ (@ps_ret _ _ _ _ pe_bl)) pss_nil))) (@pss_one _ _ _ (@ps_ret _ _ _ _ (pe_cmpR op_eq (pcl Jd Jm (hr.mono (by lia)) rfl (@pa3 _ _ _ _ _ _ _ pe_int (1,(4,(4,(4,@pa_cons _ _ _ _ _ pe_int (@pa3 _ _ _ _ _ _ _ pe_str pe_int pe_int (0) (0) (0)) (0))))) (pv 0) (0) (0) (0))) pe_str (nomark _))))))))),?_⟩
 refine rn (K:=K) (d:=.tup [.str "record",.tup [.tup [.str "q",.tup [.str "number",.int 0,.int 5]],.tup [.str "r",.tup [.str "number",.int 0,.int 9]]]]) ?_ λvk Hk gk hk=>?_
 ·(repeat' first | with_reducible refine ak ?_ ?_ | with_reducible exact ar | with_reducible exact aB | with_reducible exact aA | refine aE ?_ | exact aC rfl | refine aD ?_)
 replace hk:IsP K Hk (aF qrF) vk:=hk;refine iw (K:=K) (ds:=oP) ?_ (by decide) λp0 x0 H0 g0 n0 e0 i0=>?_
 ·unfold oP
  (repeat' first | with_reducible refine ak ?_ ?_ | with_reducible exact ar | with_reducible exact aB | with_reducible exact aA | refine aE ?_ | exact aC rfl | refine aD ?_)
 refine aR (K:=K) (ds:=oQ) rfl e0 i0 ?_ (by decide) λp1 x1 H1 g1 n1 e1 i1=>?_
 ·unfold oQ
  (repeat' first | with_reducible refine ak ?_ ?_ | with_reducible exact ar | with_reducible exact aB | with_reducible exact aA | refine aE ?_ | exact aC rfl | refine aD ?_)
 refine aR (K:=K) (ds:=oR) rfl e1 i1 ?_ (by decide) λp2 x2 H2 g2 n2 e2 i2=>?_
 ·unfold oR
  (repeat' first | with_reducible refine ak ?_ ?_ | with_reducible exact ar | with_reducible exact aB | with_reducible exact aA | refine aE ?_ | exact aC rfl | refine aD ?_)
 have gL:=((g0.trans g1).trans g2);have hk2:=hk.same gL;refine ⟨_,rfl,p2,rfl,⟨_,SqL.of e2⟩,mK (xs:=x2) (λi σ H'=>Same H2 H'/\∃ v2,σ=[some vk,some (.ref p2),v2]) ⟨Same.refl _,_,rfl⟩ (λi σ H' _ p=>SqL.of (p.1 _ _ e2)) ?_ ?_⟩
 ·rintro i u σ H4 hu ⟨g4,v2,rfl⟩;obtain ⟨t,ht,hpt⟩:=i2.get' hu;obtain ⟨okt,out⟩:=xB (aAw ht);refine ⟨_,rfl,_,rfl,t,qrF,0,0,u,vk,rfl,hpt.same g4,hk2.same g4,okt,vy,out,nofun,λH5 g5=>?_⟩;have g45:=g4.trans g5;refine ⟨rfl,_,rfl,eF ?_⟩;refine ⟨_,rfl,_,rfl,t,qrF,0,1,u,vk,rfl,hpt.same g45,hk2.same g45,okt,vy,out,nofun,λH6 g6=>?_⟩;exact ⟨rfl,_,rfl,eF ⟨g45.trans g6,_,rfl⟩⟩
 ·rintro σ H4 ⟨g4,v2,rfl⟩;refine ⟨[.str "whole",.str "q",.str "r",.int 10,.str "x",.int 0,.int 55],.cons .str (.cons .str (.cons .str (.cons .int (.cons .str (.cons .int (.cons .int .nil)))))),(by show 7<=sizeLine;decide),λvw H5 g5 hw=>?_⟩;refine ⟨_,rfl,_,qrF,2,0,vw,vk,rfl,hw,(hk2.same g4).same g5,rfl,vy,vQ,λ_=>.inl rfl,λH6 g6=>?_⟩;exact ⟨rfl,q H6 (((gk.trans gL).trans g4).trans (g5.trans g6))⟩
theorem vS (ms:List Int) (lo hi:Option Int):∃ ks:List Int,gR (ms.map V.int) lo hi=ks.map V.int/\ks.length<=ms.length:=by
 refine ⟨(ms.drop (HT.sIx (ms.map V.int).length 0 lo)).take (HT.sIx (ms.map V.int).length (ms.map V.int).length hi - HT.sIx (ms.map V.int).length 0 lo),?_,?_⟩
 ·unfold gR;rw [List.map_take,List.map_drop]
 ·rw [aAQ,aBn];lia
theorem oV (c:Int) {n:Nat} (h:0 < n):∃ i:Nat,c % (n:Int)=i/\i < n:=by
 have h1:=aA7 c (by lia:(n:Int)≠0);have h2:=aAY c (by lia:(0:Int) < (n:Int));exact ⟨(c % (n:Int)).toNat,by lia,by lia⟩
theorem IR (T:Tx K mg ad) {f:Addr} {fd:FuncData} (F:Gn K mg "law" rp ["script"] f fd):FnOk P w K mg base CX0 depth f fd ["script"] (Bs K ad):=by
 obtain ⟨_,_,JX⟩:=T.law_stream;have Ku:=jJ (P:=P) (w:=w) (base:=base) T JX;obtain ⟨_,_,Kg⟩:=T.law_kind;have KN:=oU (P:=P) (w:=w) (base:=base) T Kg;obtain ⟨_,_,Jy⟩:=T.law_missing;have Kp:=jr (P:=P) (w:=w) (base:=base) T Jy;obtain ⟨_,_,J7⟩:=T.law_unfit;have KG:=mo (P:=P) (w:=w) (base:=base) T J7;obtain ⟨_,_,Jd⟩:=T.law_word;have Jm:=gN (P:=P) (w:=w) (base:=base) T Jd;obtain ⟨_,_,JF⟩:=T.law_wholes;have Kt:=jZ (P:=P) (w:=w) (base:=base) T JF;obtain ⟨_,_,Je⟩:=T.law_digit;have Jp:=fF (P:=P) (w:=w) (base:=base) T Je;refine F.F.ok dz (λvs H Q E h=>?_) (λcdv A outer s H vs Q E hr h=>?_)
 ·obtain ⟨a,ns,rfl,_⟩:=h
  rfl
 obtain ⟨a,ns,rfl,hS,h63,q⟩:=h;refine ⟨_,(@pss_cons _ _ _ _ _ (@ps_if _ _ _ _ _ _ _ _ (@pt_not _ _ _ _ (@pt_val _ _ _ (mO Kt (hr.mono (by first | decide | lia)) rfl JF.m JF.F.kp JF.b .nil tP) (by intro _;rfl))) (@pss_one _ _ _ (@ps_ret _ _ _ _ pe_bl)) pss_nil) (@pss_cons _ _ _ _ _ (ps_for PassesOwn.never rfl (pi_range1 rfl T.z_range (@pa1 _ _ _ (pe_callB (call_min2 rfl) rfl T.z_min boot_min (@pa2 _ _ _ _ _ pe_int (@pe_op _ _ _ _ _ _ _ _ op_add pe_int (pe_callB (call_len_seqN (K:=K) rfl) rfl T.z_len PySem.boot_len (@pa1 _ _ _ (pv 0) (0)))) (0) (0))) (0))) (ai (i:=1) dz.nd rfl (Or.inl rfl))
    (@pss_cons _ _ _ _ _ (@ps_set _ _ 2 _ _ _ _ dz.nd rfl (Or.inl rfl) (pcl JX Ku (hr.mono (by lia)) rfl (@pa2 _ _ _ _ _ (bO (nz (K:=K) rfl) (@pe_op _ _ _ _ _ _ _ _ (az (K:=K) rfl) (@ao _ _ _ _ (@pa1 _ _ _ pe_int (0))) (pv 0)) (bX (pv 1)) (bX (@pe_op _ _ _ _ _ _ _ _ op_add (pv 1) pe_int))) pe_int (0) (0))) (0) (.inl rfl)) (@pss_cons _ _ _ _ _ (@ps_set _ _ 3 _ _ _ _ dz.nd rfl (Or.inl rfl) (pcl Kg KN (hr.mono (by lia)) rfl (@pa1 _ _ _ (pv 2) (0))) (0) (.inl rfl)) (@pss_cons _ _ _ _ _ (@ps_set _ _ 4 _ _ _ _ dz.nd rfl (Or.inl rfl) (@pe_op _ _ _ _ _ _ _ _ (az (K:=K) rfl) (mO Kp (hr.mono (by first | decide | lia)) rfl Jy.m Jy.F.kp Jy.b .nil tP) (pcl J7 KG (hr.mono (by lia)) rfl (@pa2 _ _ _ _ _ pe_int pe_int (0) (0)))) (0) (.inl rfl)) (@pss_cons _ _ _ _ _ (@ps_set _ _ 5 _ _ _ _ dz.nd rfl (Or.inl rfl) (@ce _ _ _ _ _ _ _ (aW (K:=K) rfl) (pv 4) (pcl Je Jp (hr.mono (by lia)) rfl (@pa2 _ _ _ _ _ (pv 2) (pe_callB (call_len_seqN (K:=K) rfl) rfl T.z_len PySem.boot_len (@pa1 _ _ _ (pv 4) (0))) (0) (0))) (λ_ _=>rfl)) (0) (.inl rfl)) (@pss_cons _ _ _ _ _ (@ps_set _ _ 6 _ _ _ _ dz.nd rfl (Or.inl rfl) (@ao _ _ _ _ (@pa_cons _ _ _ _ _ (1,@pa1 _ _ _ pe_str (0)) (@pa_cons _ _ _ _ _ (1,@pa2 _ _ _ _ _ pe_str pe_int (0) (0)) (@pa_cons _ _ _ _ _ (1,@pa2 _ _ _ _ _ pe_str pe_int (0) (0)) (@pa_cons _ _ _ _ _ (1,@pa3 _ _ _ _ _ _ _ pe_str pe_int pe_int (0) (0) (0)) (@pa3 _ _ _ _ _ _ _ (1,@pa2 _ _ _ _ _ pe_str pe_int (0) (0)) (1,@pa2 _ _ _ _ _ pe_str pe_int (0) (0)) (1,cW) (0) (0) (0)) (0)) (0)) (0)) (0))) (0) (.inl rfl)) (@pss_cons _ _ _ _ _ (@ps_set _ _ 7 _ _ _ _ dz.nd rfl (Or.inl rfl) (1,@pa3 _ _ _ _ _ _ _ pe_str pe_str (@ce _ _ _ _ _ _ _ (aW (K:=K) rfl) (pv 6) (pcl Je Jp (hr.mono (by lia)) rfl (@pa2 _ _ _ _ _ (pv 2) (pe_callB (call_len_seqN (K:=K) rfl) rfl T.z_len PySem.boot_len (@pa1 _ _ _ (pv 6) (0))) (0) (0))) (λ_ _=>rfl)) (0) (0) (0)) (0) (.inl rfl)) (@pss_one _ _ _ (ps_for PassesOwn.never rfl (pi_range1 rfl T.z_range (@pa1 _ _ _ pe_int (0))) (ai (i:=8) dz.nd rfl (Or.inl rfl))
    (3,@ps_if _ _ _ _ _ _ _ _ (PW.pt (@pw_or _ _ _ _ _ _ _ (pt_cmpR op_ne (pcl Jd Jm (hr.mono (by lia)) rfl (@pa3 _ _ _ _ _ _ _ (pv 8) (pv 5) (pv 3) (0) (0) (0))) pe_str (nomark _)) (@pw_or1 _ _ _ _ (pt_cmpR op_ne (pcl Jd Jm (hr.mono (by lia)) rfl (@pa3 _ _ _ _ _ _ _ (pv 8) (pv 7) (pv 3) (0) (0) (0))) pe_str (nomark _))))) (@pss_one _ _ _ (@ps_ret _ _ _ _ pe_bl)) pss_nil,@pss_one _ _ _ (@ps_if _ _ _ _ _ _ _ _ (pt_cmpR op_ne (pcl Jd Jm (hr.mono (by lia)) rfl (@pa3 _ _ _ _ _ _ _ (pv 8) (1,@pa3 _ _ _ _ _ _ _ pe_str pe_str pe_str (0) (0) (0)) (pv 3) (0) (0) (0))) pe_str (nomark _)) (@pss_one _ _ _ (@ps_ret _ _ _ _ pe_bl)) pss_nil))))))))))) (@pss_one _ _ _ (@ps_ret _ _ _ _ pe_bl)))),?_⟩
 have hlen:(ns.map V.int).length=ns.length:=aAe _;refine ⟨rfl,λHw gw=>⟨_,rfl,aI ?_⟩⟩;replace hS:=gw.seq hS;refine ⟨_,rfl,a,_,rfl,.inl hS,_,_,rfl,rfl,_,_,rfl,?_⟩;rw [hlen]
 generalize hJ:(if (1+((ns.length:Nat):Int)) < 24 then (1+((ns.length:Nat):Int)) else 24)=J
 have J1:0<=J/\J<=24:=by rw [<- hJ];split <;> lia
 refine ⟨J,rfl,by lia,by lia,fY (lo:=0) (n:=J.toNat) (λi σ H'=>Same Hw H'/\∃ v1 v2 v3 v4 v5 v6 v7 v8,σ=[some (.ref a),v1,v2,v3,v4,v5,v6,v7,v8]) ⟨Same.refl Hw,_,_,_,_,_,_,_,_,rfl⟩ ?_ ?_⟩
 rotate_left
 ·rintro σ H1 ⟨g1,v1,v2,v3,v4,v5,v6,v7,v8,rfl⟩;exact q H1
 rintro i σ H1 hi ⟨g1,v1,v2,v3,v4,v5,v6,v7,v8,rfl⟩;refine ⟨sz1,λp0 hp0=>?_⟩;have g2:=g1.trans (ae hp0 (.lst [.int 0]));refine ⟨_,rfl,p0,a,_,_,rfl,rfl,SqL.of ac,g2.seq hS,(by show 1+(ns.map V.int).length<=sizeLine;rw [hlen];exact aAL (aj (by lia))),λp1 hp1=>?_⟩;have g3:=g2.trans (ae hp1 (.lst ([.int 0]++ns.map V.int)));refine ⟨_,rfl,_,rfl,_,rfl,_,_,rfl,rfl,_,rfl,p1,_,rfl,SqL.of ac,λp2 hp2=>?_⟩;obtain ⟨ks,ek,lk⟩:=vS (0 :: ns) (some (0+(i:Int))) (some (0+(i:Int)+1));have lk':ks.length<=ns.length+1:=lk;have g4:=g3.trans (ae hp2 (.lst (gR ([V.int 0]++ns.map V.int) (some (0+(i:Int))) (some (0+(i:Int)+1)))));refine ⟨p2,ks,0,rfl,SqL.of (by rw [ac];exact congrArg (λl=>some (HO.lst l)) ek),by lia,by decide,by decide,λr n H2 hr2 s2 e2=>?_⟩;have hrH:Hw r=none:=g4.free hr2;have keep:∀ {H3 H4:Hp},Same Hw H3->But r H3 H4->Same Hw H4:=λs b c o e=>b c o (aw e hrH) (s c o e);have g5:=g4.trans s2
 clear g4 g3 g2 s2 hr2 ek lk lk' hp2 hp1 hp0
 refine ⟨_,rfl,r,n,rfl,e2,λv lo hi m c3 H3 b3 e3 hv in5=>?_⟩;have S3:=keep g5 b3;refine ⟨rfl,λq1 y1 H4 g4 n4 e4 i4=>?_⟩;refine ⟨_,_,rfl,λq2 y2 H5 g5' n5 e5 i5=>?_⟩;have l1:y1.length=36:=by rw [<- i4.length];rfl
 have l2:y2.length=26:=by rw [<- i5.length];rfl
 refine ⟨q1,q2,y1,y2,rfl,rfl,SqL.of (g5' _ _ e4),SqL.of e5,by rw [l1,l2];exact aAL (aj (by decide)),λq3 n6=>?_⟩;have g6:=ae n6 (.lst (y1++y2));have e6:(upd H5 q3 (.lst (y1++y2))) q3=some (.lst (y1++y2)):=ac;have i6:IsPs K (upd H5 q3 (.lst (y1++y2))) (rh++xz) (y1++y2):=((i4.same g5').append i5).same g6
 generalize upd H5 q3 (.lst (y1++y2))=H6 at g6 e6 i6 ⊢
 have g36:=(g4.trans g5').trans g6;have r6:=g36 _ _ e3;have hv6:=hv.same g36;have S6:=S3.trans g36;have l3:(y1++y2).length=62:=by rw [aAX,l1,l2]
 have nq:q3≠r:=λc=>by rw [c,r6] at e6;have e6:=congrArg (λo=>match o with | some (HO.lst l)=>l.length | _=>0) e6;simp only [aAX,l1,l2] at e6;exact absurd (show 1=62 from e6) (by decide)
 generalize y1++y2=ys at e6 i6 l3 ⊢
 clear i4 i5 e4 e5 l1 l2 n4 n5 n6 g4 g5' g6
 refine ⟨_,rfl,_,rfl,_,rfl,q3,ys,rfl,.inl (SqL.of e6),r,c3,(ys.length:Int),rfl,r6,by lia,by lia,?_⟩;obtain ⟨j,ej,hj⟩:=oV c3 (by lia:0 < ys.length);rw [ej];have b7:But r H6 (upd H6 r (.lst [.int (c3 / (ys.length:Int))])):=But.put;have e7:(upd H6 r (.lst [.int (c3 / (ys.length:Int))])) r=some (.lst [.int (c3 / (ys.length:Int))]):=ac
 generalize upd H6 r (.lst [.int (c3 / (ys.length:Int))])=H7 at b7 e7 ⊢
 generalize c3 / (ys.length:Int)=c7 at e7
 obtain ⟨u,hu⟩:∃ u,ys[j]?=some u:=⟨_,aAp hj⟩;have i7:=i6.but r6 b7;have hv7:=hv6.but r6 b7;have S7:=keep S6 b7;refine ⟨q3,ys,_,u,rfl,rfl,SqL.of (b7 _ _ nq e6),ii hu,?_⟩;obtain ⟨t,ht,hit⟩:=i7.get' hu;have okt:okD t=true/\Out t (k5 lo hi m) 0:=by
  rcases aAI.mp (aAw ht) with h | h
  ·exact vN h in5
  ·exact xA h in5
 clear i6 i7 e6 hv6 r6 ht hu hj ej l3 nq S6 S3 g36 hv b7
 refine vR ?_;dsimp only [];refine iw (K:=K) (ds:=mj) ?_ (by decide) λq4 x8 H8 g8 n8 e8 i8=>?_
 ·unfold mj
  (repeat' first | with_reducible refine ak ?_ ?_ | with_reducible exact ar | with_reducible exact aB | with_reducible exact aA | refine aE ?_ | exact aC rfl | refine aD ?_)
 have r8:=g8 _ _ e7;have l8:x8.length=7:=by rw [<- i8.length];rfl
 have nq8:q4≠r:=λc=>by rw [c] at n8;rw [e7] at n8;cases n8
 refine ⟨_,rfl,_,rfl,_,rfl,q4,x8,rfl,.inl (SqL.of e8),r,c7,(x8.length:Int),rfl,r8,by lia,by lia,?_⟩;obtain ⟨j2,ej2,hj2⟩:=oV c7 (by lia:0 < x8.length);rw [ej2];have b9:But r H8 (upd H8 r (.lst [.int (c7 / (x8.length:Int))])):=But.put
 generalize upd H8 r (.lst [.int (c7 / (x8.length:Int))])=H9 at b9 ⊢
 obtain ⟨u2,hu2⟩:∃ u,x8[j2]?=some u:=⟨_,aAp hj2⟩;have i9:=i8.but r8 b9;have hv9:=(hv7.same g8).but r8 b9;have ht9:=(hit.same g8).but r8 b9;have S9:=keep (S7.trans g8) b9;refine ⟨q4,x8,_,u2,rfl,rfl,SqL.of (b9 _ _ nq8 e8),ii hu2,?_⟩;obtain ⟨t2,ht2,hit2⟩:=i9.get' hu2;obtain ⟨ok2,out2⟩:=vO (aAw ht2) in5;refine ⟨[.str "turn",.str "a",t2],.cons .str (.cons .str (.cons hit2 .nil)),sz3,λv10 H10 g10 h10=>?_⟩;have hv10:=hv9.same g10;have ht10:=ht9.same g10;have S10:=S9.trans g10;have gd:=Ig lo hi m;refine ⟨2,rfl,by decide,by decide,fY (lo:=0) (n:=(2:Int).toNat) (λi' σ H'=>Same H10 H'/\∃ v8,σ=[some (.ref a),some (.int (0+(i:Int))),some (.ref r),some v,some (.ref q3),some u,some (.ref q4),some v10,v8]) ⟨Same.refl _,_,rfl⟩ ?_ ?_⟩
 rotate_left
 ·rintro σ H11 ⟨g11,v8,rfl⟩;exact ⟨S10.trans g11,_,_,_,_,_,_,_,_,rfl⟩
 rintro i' σ H11 hi' ⟨g11,v8',rfl⟩;refine ⟨_,rfl,_,rfl,_,rfl,t,_,0,_,u,v,rfl,ht10.same g11,hv10.same g11,okt.1,gd,okt.2,nofun,λH12 g12=>?_⟩;have s12:=g11.trans g12;refine ⟨rfl,_,rfl,eF ?_⟩;refine ⟨_,rfl,_,rfl,_,rfl,_,_,1,_,v10,v,rfl,h10.same s12,hv10.same s12,ok2,gd,out2,nofun,λH13 g13=>?_⟩;have s13:=s12.trans g13;refine ⟨rfl,_,rfl,eF ?_⟩;refine ⟨_,rfl,[.str "name",.str "a",.str "m"],.cons .str (.cons .str (.cons .str .nil)),sz3,λv14 H14 g14 h14=>?_⟩;have s14:=s13.trans g14;refine ⟨_,rfl,_,_,2,_,v14,v,rfl,h14,hv10.same s14,rfl,gd,vP in5,λ_=>.inr ⟨"a","m",rfl⟩,λH15 g15=>?_⟩;exact ⟨rfl,_,rfl,eF ⟨s14.trans g15,_,rfl⟩⟩
end
@[elab_as_elim] theorem xC {α:Type} {p:List α->Prop} {us:List α} (hl:us.length=0) (h:p []):p us:=by
 cases us with
 | nil=>exact h
 | cons a r=>cases hl
@[elab_as_elim] theorem xD {α:Type} {p:List α->Prop} {us:List α} (hl:us.length=1) (h:∀ x0,p [x0]):p us:=by
 cases us with
 | nil=>cases hl
 | cons a r=>exact xC (p:=λr=>p (a :: r)) (Nat.succ.inj hl) (h a)
@[elab_as_elim] theorem xE {α:Type} {p:List α->Prop} {us:List α} (hl:us.length=2) (h:∀ x0 x1,p [x0,x1]):p us:=by
 cases us with
 | nil=>cases hl
 | cons a r=>exact xD (p:=λr=>p (a :: r)) (Nat.succ.inj hl) (h a)
@[elab_as_elim] theorem xF {α:Type} {p:List α->Prop} {us:List α} (hl:us.length=3) (h:∀ x0 x1 x2,p [x0,x1,x2]):p us:=by
 cases us with
 | nil=>cases hl
 | cons a r=>exact xE (p:=λr=>p (a :: r)) (Nat.succ.inj hl) (h a)
@[elab_as_elim] theorem xG {α:Type} {p:List α->Prop} {us:List α} (hl:us.length=4) (h:∀ x0 x1 x2 x3,p [x0,x1,x2,x3]):p us:=by
 cases us with
 | nil=>cases hl
 | cons a r=>exact xF (p:=λr=>p (a :: r)) (Nat.succ.inj hl) (h a)
@[elab_as_elim] theorem xH {α:Type} {p:List α->Prop} {us:List α} (hl:us.length=5) (h:∀ x0 x1 x2 x3 x4,p [x0,x1,x2,x3,x4]):p us:=by
 cases us with
 | nil=>cases hl
 | cons a r=>exact xG (p:=λr=>p (a :: r)) (Nat.succ.inj hl) (h a)
@[elab_as_elim] theorem Ii {α:Type} {p:List α->Prop} {us:List α} (hl:us.length=6) (h:∀ x0 x1 x2 x3 x4 x5,p [x0,x1,x2,x3,x4,x5]):p us:=by
 cases us with
 | nil=>cases hl
 | cons a r=>exact xH (p:=λr=>p (a :: r)) (Nat.succ.inj hl) (h a)
theorem gnM {K:W.Frag} {h:Heap} {mg:Str->Option Value} (X:K.In h) (G:h.Ns mainGlobals mg) {x:Str} {st:Stmt} {ps:List Str} {f:Addr} {od an:Option Addr} {sl:Array (Option Value)} {oc kV dc pm cd ct:Value}
  (a:W.nsIn K mainGlobals x=some (some (.ref f))) (l:K.lookup f=some ⟨oc,od,.func (W.fnOf x x (cy st) (br st) (aa st) .none kV dc pm an cd ct),sl⟩) (c:W.codeIn K cd x=true) (k:W.keepIn K (.ref f)=true)
  (b:∀ (kV doc pm:Value) (an:Option Addr) (cdv ct:Value) (us:List Value),us.length=ps.length->bindArgs (W.fnOf x x (cy st) (br st) (aa st) .none kV doc pm an cdv ct) ⟨us,[]⟩=pure (ps.zip us)):∃ f fd,Gn K mg x st ps f fd :=
 ⟨f,_,tQ (st:=st) l c k,(tQ (st:=st) l c k).binds b,W.mg_of X G a⟩
theorem exM {K:W.Frag} {h:Heap} {mg:Str->Option Value} (X:K.In h) (G:h.Ns mainGlobals mg) {x:Str} {C:Addr} {d:ClassData} (xa:W.nsIn K mainGlobals x=some (some (.ref C))) (xq:W.excIn K C bmV "ValueError.__new__" = true) (xg:W.findIn K (.ref C) "__getattribute__" = some (some (.builtin "BaseException.__getattribute__"))) (xt:W.findIn K (.ref C) "__getattr__" = some none) (xc:W.findIn K (.ref C) "__class__" = some (some (.builtin "object.__class__"))) (xb:W.mroIn K C (.type "BaseException")=some true) (xo:W.mroIn K C (.type "object")=some true) (xd:W.clsIn K C=some d) (xk:W.keepIn K (.ref C)=true):ExC K mg x C:=⟨W.mg_of X G xa,xq,⟨xg,xt,xc,xb,xo,_,xd⟩,xk⟩
theorem csM {K:W.Frag} {h:Heap} {mg:Str->Option Value} (X:K.In h) (G:h.Ns mainGlobals mg) {x z:Str} {t:Tok} (g:W.nsIn K mainGlobals x=some (some (.str z t))):∃ t,mg x=some (.str z t):=⟨_,W.mg_of X G g⟩
theorem ciM {K:W.Frag} {h:Heap} {mg:Str->Option Value} (X:K.In h) (G:h.Ns mainGlobals mg) {x:Str} {i:Int} {t:Tok} (g:W.nsIn K mainGlobals x=some (some (.int i t))):∃ t,mg x=some (.int i t):=⟨_,W.mg_of X G g⟩
theorem cdM {K:W.Frag} {h:Heap} {mg:Str->Option Value} (X:K.In h) (G:h.Ns mainGlobals mg) {x:Str} {a:Addr} {l:List (Str×Int)} (g:W.nsIn K mainGlobals x=some (some (.ref a))) (d:KTD.tabLook (KTD.datLooks λb=>K.lookup b) (λb=>K.lookup b) a (jx l)=true):∃ a,mg x=some (.ref a)/\ni K a l:=⟨_,W.mg_of X G g,uf d⟩
theorem txI {K:W.Frag} {mg:Str->Option Value} {a0 a1 a2 a3:Addr} (T:Tx K mg ⟨a0,a1,a2,a3⟩):∃ ad,Tx K mg ad:=⟨_,T⟩
theorem BP {K:W.Frag} {f:Addr} {fd:FuncData} (F:Fun K "law" "law" rp f fd):∀ (s:Shared) (u:Value),BindsTo s fd ⟨[u],[]⟩ [("script",u)]:=by
 obtain ⟨oc,od,kV,doc,pm,an,cdv,ct,osl,rfl,lk,hcd⟩:=F.ex;exact λs u=>.of_eq rfl
end K23
open PySem PySem.W PyProof.Rows
set_option maxRecDepth 100000 in
set_option maxHeartbeats 0 in
theorem PySem.Challenge.cw_oldhands_k23_pieces_refused_holds : PySem.Challenge.rw_oldhands_k23_pieces_refused.Holds := by
 w_on
 refine W.holds_law K23.said λsaid=>?_;refine W.holds_open (q:=K23.hQ) (loose:=K23.hW) (Xt:=K23.hX) (XP:=λ_ _=>True) (Yf:=K23.hH.obs) (Ya:=K23.hH.val) (YP:=W.InK K23.hK) (N:=4685) K23.hl K23.hH.of K23.hH.keeps (λ_ _=>trivial) (λ_ _ _ _ _=>trivial) (0) (0) (0) (λs e=>W.recFacts_of e) (0) said (by decide +kernel) ⟨rfl,rfl,rfl,rfl,rfl,by decide +kernel⟩ ?hw ?hc
 case hw=>w_witness2
 k_fill
 refine L2.Hc (l:=PySem.Challenge.rw_oldhands_k23_pieces_refused) (K:=K23.hK) (n:=63) (k:=K23.depth) (x:= "script") (CX:=L2.CX0) (sp:=K23.HP) rfl (by decide) rfl ⟨rfl,by decide,by decide⟩ (λw h Y=>Y) ?F (λ_ _ a ns hl _ hS=>⟨a,ns,rfl,hS,hl,λ_=>rfl⟩) (λ_ _ _ _ z=>z)
 case F =>
  intro w mg fa h KX G hmg;have T:∃ ad,K23.Tx (L2.KOf KX) mg ad:=by
   dsimp only [L2.KOf];refine' K23.txI ⟨K23.gnM KX G ?_ ?_ ?_ ?_ ?_,K23.gnM KX G ?_ ?_ ?_ ?_ ?_,K23.gnM KX G ?_ ?_ ?_ ?_ ?_,K23.gnM KX G ?_ ?_ ?_ ?_ ?_,K23.gnM KX G ?_ ?_ ?_ ?_ ?_,K23.gnM KX G ?_ ?_ ?_ ?_ ?_,K23.gnM KX G ?_ ?_ ?_ ?_ ?_,K23.gnM KX G ?_ ?_ ?_ ?_ ?_,K23.gnM KX G ?_ ?_ ?_ ?_ ?_,K23.gnM KX G ?_ ?_ ?_ ?_ ?_,K23.gnM KX G ?_ ?_ ?_ ?_ ?_,K23.gnM KX G ?_ ?_ ?_ ?_ ?_,K23.gnM KX G ?_ ?_ ?_ ?_ ?_,K23.gnM KX G ?_ ?_ ?_ ?_ ?_,K23.gnM KX G ?_ ?_ ?_ ?_ ?_,K23.gnM KX G ?_ ?_ ?_ ?_ ?_,K23.gnM KX G ?_ ?_ ?_ ?_ ?_,K23.gnM KX G ?_ ?_ ?_ ?_ ?_,K23.gnM KX G ?_ ?_ ?_ ?_ ?_,K23.gnM KX G ?_ ?_ ?_ ?_ ?_,K23.gnM KX G ?_ ?_ ?_ ?_ ?_,K23.gnM KX G ?_ ?_ ?_ ?_ ?_,K23.gnM KX G ?_ ?_ ?_ ?_ ?_,K23.gnM KX G ?_ ?_ ?_ ?_ ?_,K23.gnM KX G ?_ ?_ ?_ ?_ ?_,K23.gnM KX G ?_ ?_ ?_ ?_ ?_,K23.gnM KX G ?_ ?_ ?_ ?_ ?_,K23.gnM KX G ?_ ?_ ?_ ?_ ?_,K23.gnM KX G ?_ ?_ ?_ ?_ ?_,K23.gnM KX G ?_ ?_ ?_ ?_ ?_,K23.gnM KX G ?_ ?_ ?_ ?_ ?_,K23.gnM KX G ?_ ?_ ?_ ?_ ?_,K23.gnM KX G ?_ ?_ ?_ ?_ ?_,K23.gnM KX G ?_ ?_ ?_ ?_ ?_,K23.gnM KX G ?_ ?_ ?_ ?_ ?_,K23.gnM KX G ?_ ?_ ?_ ?_ ?_,K23.gnM KX G ?_ ?_ ?_ ?_ ?_,K23.gnM KX G ?_ ?_ ?_ ?_ ?_,K23.gnM KX G ?_ ?_ ?_ ?_ ?_,K23.gnM KX G ?_ ?_ ?_ ?_ ?_,K23.gnM KX G ?_ ?_ ?_ ?_ ?_,K23.gnM KX G ?_ ?_ ?_ ?_ ?_,K23.gnM KX G ?_ ?_ ?_ ?_ ?_,K23.gnM KX G ?_ ?_ ?_ ?_ ?_,K23.gnM KX G ?_ ?_ ?_ ?_ ?_,K23.gnM KX G ?_ ?_ ?_ ?_ ?_,K23.gnM KX G ?_ ?_ ?_ ?_ ?_,K23.gnM KX G ?_ ?_ ?_ ?_ ?_,K23.gnM KX G ?_ ?_ ?_ ?_ ?_,K23.gnM KX G ?_ ?_ ?_ ?_ ?_,K23.gnM KX G ?_ ?_ ?_ ?_ ?_,K23.gnM KX G ?_ ?_ ?_ ?_ ?_,K23.gnM KX G ?_ ?_ ?_ ?_ ?_,K23.gnM KX G ?_ ?_ ?_ ?_ ?_,K23.gnM KX G ?_ ?_ ?_ ?_ ?_,K23.gnM KX G ?_ ?_ ?_ ?_ ?_,K23.gnM KX G ?_ ?_ ?_ ?_ ?_,K23.gnM KX G ?_ ?_ ?_ ?_ ?_,K23.gnM KX G ?_ ?_ ?_ ?_ ?_,K23.gnM KX G ?_ ?_ ?_ ?_ ?_,K23.gnM KX G ?_ ?_ ?_ ?_ ?_,K23.gnM KX G ?_ ?_ ?_ ?_ ?_,K23.gnM KX G ?_ ?_ ?_ ?_ ?_,K23.gnM KX G ?_ ?_ ?_ ?_ ?_,K23.gnM KX G ?_ ?_ ?_ ?_ ?_,K23.gnM KX G ?_ ?_ ?_ ?_ ?_,K23.gnM KX G ?_ ?_ ?_ ?_ ?_,K23.gnM KX G ?_ ?_ ?_ ?_ ?_,K23.exM KX G ?_ ?_ ?_ ?_ ?_ ?_ ?_ ?_ ?_,K23.exM KX G ?_ ?_ ?_ ?_ ?_ ?_ ?_ ?_ ?_,K23.exM KX G ?_ ?_ ?_ ?_ ?_ ?_ ?_ ?_ ?_,K23.exM KX G ?_ ?_ ?_ ?_ ?_ ?_ ?_ ?_ ?_,K23.csM KX G ?_,K23.ciM KX G ?_,K23.csM KX G ?_,K23.ciM KX G ?_,K23.ciM KX G ?_,K23.ciM KX G ?_,K23.ciM KX G ?_,K23.ciM KX G ?_,K23.ciM KX G ?_,K23.cdM KX G ?_ ?_,K23.ciM KX G ?_,K23.ciM KX G ?_,K23.ciM KX G ?_,K23.cdM KX G ?_ ?_,⟨W.mg_of KX G ?_,L2.BO ?_,L2.Hz ?_⟩,⟨W.mg_of KX G ?_,L2.BO ?_,L2.Hz ?_⟩,W.mg_none_of KX G ?_,W.mg_none_of KX G ?_,W.mg_none_of KX G ?_,W.mg_none_of KX G ?_,W.mg_none_of KX G ?_,W.mg_none_of KX G ?_,W.mg_none_of KX G ?_,W.mg_none_of KX G ?_,W.mg_none_of KX G ?_,W.mg_none_of KX G ?_,W.mg_none_of KX G ?_,W.mg_none_of KX G ?_,W.mg_none_of KX G ?_,W.mg_none_of KX G ?_,W.mg_none_of KX G ?_,W.mg_none_of KX G ?_,W.mg_none_of KX G ?_,?_,?_,?_,?_,?_⟩
   any_goals (first | k_is | kernel_rfl | exact λ_ _ _ _ _ _ _ e=>K23.xC e rfl | exact λ_ _ _ _ _ _ _ e=>K23.xD e λ_=>rfl | exact λ_ _ _ _ _ _ _ e=>K23.xE e λ_ _=>rfl | exact λ_ _ _ _ _ _ _ e=>K23.xF e λ_ _ _=>rfl | exact λ_ _ _ _ _ _ _ e=>K23.xG e λ_ _ _ _=>rfl | exact λ_ _ _ _ _ _ _ e=>K23.xH e λ_ _ _ _ _=>rfl | exact λ_ _ _ _ _ _ _ e=>K23.Ii e λ_ _ _ _ _ _=>rfl)
  obtain ⟨ad,T⟩:=T;obtain ⟨fL,dL,L⟩:=T.law;have e:=hmg.symm.trans L.m
  cases e
  exact ⟨dL,K23.BP L.F,λbase _ _=>K23.IR T L⟩
end
