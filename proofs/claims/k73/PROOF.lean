import PyProof.Rows.All
import Wide.All
import OpenK.AllK
import Wide.FinOn
import Lean
import PyProof.EqAt
import PyProof.EqKinds
import PyProof.TupleCall
import PyProof.NeKinds
import KE.KIntText
import PyProof.StrCalls
import PyProof.ZipIter
import PyProof.Rows.SetFrom
import PyProof.SetRoads
import PyProof.CompUse
import PyProof.Rows.MinMaxN
import PyProof.Rows.SortStr
import PyProof.Rows.SortWalk
import PyProof.Rows.SeqMore2
import KE.KMinKey
import PyProof.Rows.CallKwBuiltin
import PyProof.TupleOfStr
import PyProof.Draws
import PyProof.Rows.TupIter
import KE.KxText
import PyProof.FString5
import PyProof.DictWalks
import PyProof.CollectStr
import PyProof.FactsAll.set_1
import KE.KDictLaws
import PyProof.MeetsStr
import PySem.Challenge.RW_oldhands_k73_looks
set_option Elab.async false
set_option linter.all false
set_option maxHeartbeats 4000000
set_option maxRecDepth 100000
noncomputable section
set_option hygiene false
local macro_rules
 |`((0))=>`(by rfl)
 |`((1))=>`(by decide)
 |`((3,$a))=>`(@pss_one _ _ _ $a)
 |`((4,$a))=>`(@ps_ret _ _ _ _ $a)
 |`((5,$a,$b))=>`(@pss_cons _ _ _ _ _ $a $b)
 |`((6))=>`(@pi1 K _ _ _ _ _ _ _ rfl (pv 0))
 |`((7,$a,$b,$c))=>`(pcl $a $b (hr.mono (by lia)) rfl $c)
 |`((8,$a))=>`(@pe_tupPK _ K _ _ _ _ rfl $a)
 |`((9,$a,$b))=>`(@pa2 _ _ _ _ _ $a $b (by rfl) (by rfl))
 |`((10,$a))=>`(@pa2 _ _ _ _ _ (pv 0) $a (by rfl) (by rfl))
 |`((11,$a,$b,$c))=>`(@pa3 _ _ _ _ _ _ _ $a $b $c (by rfl) (by rfl) (by rfl))
 |`((12,$a))=>`(@ps_if _ _ _ _ _ _ _ _ $a (@pss_one _ _ _ (@ps_ret _ _ _ _ pe_bl)) pss_nil)
abbrev aAa:=@PySem.Heap.get?_push_of_some
abbrev aAb:=@PySem.Heap.lt_size
abbrev aAc:=@List.getElem?_eq_some_iff
abbrev aAd:=@Nat.lt_of_lt_of_le
abbrev aAe:=@List.length_map
abbrev aAf:=@Nat.le_refl
abbrev aAg:=@PySem.Heap.get?_push_size
abbrev aAh:=@List.size_toArray
abbrev aAi:=@List.getElem?_eq_getElem
abbrev aAj:=@Bool.false_ne_true
abbrev aAk:=@Nat.ne_of_lt
abbrev aAl:=@List.mem_filterMap
abbrev aAm:=@List.mem_cons
abbrev aAn:=@List.mem_append_right
abbrev aAo:=@List.length_cons
abbrev aAp:=@List.mem_cons_of_mem
abbrev aAq:=@Bool.and_eq_true
abbrev aAr:=@List.mem_cons_self
abbrev aAs:=@List.mem_of_getElem?
abbrev aAt:=@List.length_append
abbrev aAu:=@List.map_map
abbrev aAv:=@Bool.false_and
abbrev aAw:=@Nat.le_trans
abbrev aAx:=@Nat.lt_irrefl
abbrev aAy:=@List.getD_eq_getElem?_getD
abbrev aAz:=@List.forIn_cons
abbrev aAA:=@List.mem_singleton
abbrev aAB:=@List.length_take
abbrev aAC:=@List.getElem?_map
abbrev aAD:=@PySem.Heap.get?_update_other
abbrev aAE:=@Option.map_eq_some_iff
abbrev aAF:=@Bool.false_eq_true
abbrev aAG:=@List.all_eq_true
abbrev aAH:=@Array.getElem?_eq_some_iff
abbrev aAI:=@Nat.zero_le
abbrev aAJ:=@List.drop_eq_nil_of_le
abbrev aAK:=@List.take_of_length_le
abbrev aAL:=@PySem.Heap.size_push
abbrev aAM:=@Nat.le_of_lt
abbrev aAN:=@PySem.Heap.get?_update_self
abbrev aAO:=@List.mem_map
abbrev aAP:=@List.append_nil
abbrev aAQ:=@Nat.ne_of_gt
abbrev aAR:=@List.take_length
abbrev aAS:=@List.map_cons
abbrev aAT:=@Bool.true_and
abbrev aAU:=@List.forIn_nil
abbrev aAV:=@Bool.eq_iff_iff
abbrev aAW:=@List.lookup_cons
abbrev aAX:=@Array.forIn_toList
abbrev aAY:=@List.drop_eq_getElem_cons
abbrev aAZ:=@List.find?_cons
abbrev aA0:=@Int.mul_le_mul_of_nonneg_right
abbrev aA1:=@Array.length_toList
abbrev aA2:=@Nat.lt_succ_self
abbrev aA3:=@List.length_replicate
abbrev aA4:=@List.map_append
abbrev aA5:=@List.any_cons
abbrev aA6:=@Bool.not_true
abbrev aA7:=@List.length_drop
abbrev aA8:=@List.not_mem_nil
abbrev aA9:=@List.mem_append
abbrev aBa:=@List.nodup_cons
abbrev aBb:=@Nat.lt_of_le_of_lt
abbrev aBc:=@Int.toNat_natCast
abbrev aBd:=@Bool.eq_false_iff
abbrev aBe:=@List.all_map
abbrev aBf:=@Nat.lt_trans
abbrev aBg:=@List.getElem_mem
abbrev aBh:=@List.getElem?_append_right
abbrev aBi:=@List.of_mem_zip
abbrev aBj:=@List.getElem?_zip_eq_some
abbrev aBk:=@Int.emod_lt_of_pos
abbrev aBl:=@List.length_eq_zero_iff
abbrev aBm:=@List.take_add_one
abbrev aBn:=@List.getElem?_set_self
abbrev aBo:=@Nat.le_succ
abbrev aBp:=@Int.le_refl
abbrev aBq:=@List.length_singleton
abbrev aBr:=@List.mem_append_left
abbrev aBs:=@List.getElem?_set_ne
abbrev aBt:=@Nat.not_lt_zero
abbrev aBu:=@List.length_nil
abbrev aBv:=@Int.emod_nonneg
abbrev aBw:=@List.replicate_succ'
abbrev aBx:=@List.mem_of_mem_take
abbrev aBy:=@Int.zero_add
abbrev aBz:=@List.filterMap_cons
abbrev aBA:=@Bool.or_eq_true_iff
abbrev aBB:=@Bool.and_false
abbrev aBC:=@Array.append_assoc
abbrev aBD:=@List.all_cons
abbrev aBE:=@Nat.lt_succ_of_lt
abbrev aBF:=@List.getElem?_append_left
abbrev aBG:=@Nat.le_of_not_lt
abbrev aBH:=@Int.ediv_le_ediv
abbrev aBI:=@List.getElem?_replicate
abbrev aBJ:=@List.mem_filter
abbrev aBK:=@List.find?_cons_of_neg
abbrev aBL:=@List.mem_range
abbrev aBM:=@List.drop_zero
abbrev aBN:=@Int.mul_ediv_add_emod
namespace L2
open PySem PySem.Spec PyProof.Rows
def cN (s:Stmt):Arguments:=match s with
 | .FunctionDef _ a _ _ _ _ _ _ _ _=>a
 | _=>{ posonlyargs:=[],args:=[],vararg:=none,kwonlyargs:=[],kw_defaults:=[],kwarg:=none,defaults:=[] }
def aX (s:Stmt):List Stmt:=match s with
 | .FunctionDef _ _ b _ _ _ _ _ _ _=>b
 | _=>[]
def aa (s:Stmt):Scope:=match s with
 | .FunctionDef _ _ _ _ _ _ sc _ _ _=>sc
 | _=>{ kind:=.function,names:=[],isGenerator:=false,isCoroutine:=false }
end L2
namespace K73
open PySem L2 PyProof.Rows
abbrev pwX:=PySem.Challenge.pw_oldhands_k73_looks
def top (i:Nat):Stmt:=pwX.main.body.getD i (.Pass ⟨0,0,0,0⟩)
def hT (t:Nat):Value:=.str "/claim/cut.py" t
def hE (P:Params) (x:Str) (t:Nat) (v:Value):DictEntry:={ hash:=PyData.keyHash P x,key:=.str x t,val:=v }
def hF (x y m:Str) (st:Stmt) (t c:Nat):Obj:={ cls:=.type "function",data:=.func (W.fnOf x y (cN st) (aX st) (aa st) .none .none .none (.str m t) none (.ref c) .none) }
def hU (x y:Str) (st:Stmt):Obj:={ cls:=.none,data:=.func { name:=x,qualname:=y,params:=cN st,body:=.stmts (aX st),scope:=aa st,globals:=builtinsNs,closure:=[],defaults:=.none,kwdefaults:=.none } }
def hC (x y:Str) (t u v:Nat) (r:List Value):Obj:={ cls:=.type "code",data:=.fields (Array.mk (.str x t :: .str y u :: hT v :: r)) }
def hS (r:List Value):Obj:={ cls:=.type "tuple",data:=.seq (Array.mk r) }
def hN:Obj:={ cls:=.none,data:=.fields (Array.mk []) }
def gE:Params->List DictEntry:=λP =>
 hE P "__doc__" 166 (.none) ::
 hE P "__package__" 167 (.none) ::
 hE P "__loader__" 168 (.builtin "__main__.__loader__#opaque") ::
 hE P "__spec__" 169 (.none) ::
 hE P "__annotations__" 170 (.ref 6) ::
 hE P "__builtins__" 171 (.ref 4) ::
 hE P "__file__" 173 (.str ("/claim/cut.py") 172) ::
 hE P "__cached__" 174 (.none) ::
 hE P "HandError" 206 (.ref 24) ::
 hE P "BadKind" 222 (.ref 37) ::
 hE P "BadValue" 238 (.ref 49) ::
 hE P "BadPath" 254 (.ref 61) ::
 hE P "BadTurn" 270 (.ref 73) ::
 hE P "BadPiece" 286 (.ref 85) ::
 hE P "BadVersion" 302 (.ref 97) ::
 hE P "BadText" 318 (.ref 109) ::
 hE P "BadQuestion" 334 (.ref 121) ::
 hE P "NoRecord" 350 (.ref 133) ::
 hE P "Taken" 366 (.ref 145) ::
 hE P "NoDeed" 382 (.ref 157) ::
 hE P "Full" 398 (.ref 169) ::
 hE P "LETTERS" 402 (.str ("abcdefghijklmnopqrstuvwxyz") 401) ::
 hE P "LONGEST_NAME" 404 (.int 8 403) ::
 hE P "EACH" 406 (.str ("each") 405) ::
 hE P "MOST_SIGNS" 408 (.int 60 407) ::
 hE P "MOST_WORDS" 410 (.int 8 409) ::
 hE P "MOST_FIELDS" 412 (.int 8 411) ::
 hE P "MOST_ITEMS" 414 (.int 8 413) ::
 hE P "MOST_KINDS" 416 (.int 40 415) ::
 hE P "DEEPEST" 418 (.int 5 417) ::
 hE P "PART_COUNTS" 437 (.ref 172) ::
 hE P "is_name" 443 (.ref 177) ::
 hE P "is_whole" 450 (.ref 184) ::
 hE P "is_whole_within" 459 (.ref 191) ::
 hE P "made_kind" 466 (.ref 198) ::
 hE P "is_formed" 475 (.ref 205) ::
 hE P "has_parts" 482 (.ref 212) ::
 hE P "are_bounds" 490 (.ref 219) ::
 hE P "are_words" 496 (.ref 224) ::
 hE P "are_fields" 502 (.ref 229) ::
 hE P "is_field" 510 (.ref 236) ::
 hE P "are_rows" 520 (.ref 243) ::
 hE P "field_kind" 530 (.ref 250) ::
 hE P "item_kind" 537 (.ref 257) ::
 hE P "kinds_within" 543 (.ref 262) ::
 hE P "kind_many" 549 (.ref 267) ::
 hE P "PERCENT" 553 (.int 37 552) ::
 hE P "is_sign" 560 (.ref 274) ::
 hE P "is_of" 569 (.ref 281) ::
 hE P "is_text_of" 575 (.ref 286) ::
 hE P "holds_tuple" 583 (.ref 293) ::
 hE P "holds_items" 589 (.ref 298) ::
 hE P "is_record_of" 595 (.ref 303) ::
 hE P "is_pair_of" 603 (.ref 310) ::
 hE P "are_keyed" 609 (.ref 315) ::
 hE P "least_value" 615 (.ref 320) ::
 hE P "field_of" 625 (.ref 327) ::
 hE P "FIGURES" 629 (.str ("0123456789") 628) ::
 hE P "LEAST_FACTOR" 631 (.int 2 630) ::
 hE P "GREATEST_FACTOR" 633 (.int 1000 632) ::
 hE P "TURN_COUNTS" 667 (.ref 328) ::
 hE P "TURN_SORTS" 699 (.ref 329) ::
 hE P "figures_of" 706 (.ref 346) ::
 hE P "number_of" 712 (.ref 351) ::
 hE P "nearest" 721 (.ref 358) ::
 hE P "is_factor" 728 (.ref 365) ::
 hE P "kind_behind" 736 (.ref 372) ::
 hE P "is_turn_of" 745 (.ref 379) ::
 hE P "has_turn_parts" 752 (.ref 386) ::
 hE P "most_figures" 760 (.ref 393) ::
 hE P "are_led_words" 766 (.ref 398) ::
 hE P "words_behind" 772 (.ref 403) ::
 hE P "led_kind" 781 (.ref 410) ::
 hE P "turned" 790 (.ref 417) ::
 hE P "led_value" 796 (.ref 422) ::
 hE P "read_number" 805 (.ref 429) ::
 hE P "is_separator" 814 (.ref 436) ::
 hE P "part_kinds" 823 (.ref 443) ::
 hE P "halves" 832 (.ref 450) ::
 hE P "MOST_LOOKS" 836 (.int 8 835) ::
 hE P "LOOK_SORTS" 849 (.ref 451) ::
 hE P "kind_looked" 859 (.ref 458) ::
 hE P "kind_behind_look" 867 (.ref 465) ::
 hE P "is_half_look" 875 (.ref 472) ::
 hE P "is_part_look" 883 (.ref 479) ::
 hE P "has_look_form" 892 (.ref 486) ::
 hE P "looked" 904 (.ref 493) ::
 hE P "value_behind_look" 914 (.ref 500) ::
 hE P "_law_mixed" 925 (.ref 507) ::
 hE P "_law_stream" 936 (.ref 514) ::
 hE P "_law_digit" 945 (.ref 521) ::
 hE P "_law_leaf" 954 (.ref 528) ::
 hE P "_law_text" 964 (.ref 535) ::
 hE P "_law_number" 974 (.ref 542) ::
 hE P "_law_value" 980 (.ref 547) ::
 hE P "_law_kinds" 986 (.ref 552) ::
 hE P "_law_deep" 993 (.ref 559) ::
 hE P "_law_look_for" 999 (.ref 564) ::
 hE P "_law_next" 1012 (.ref 571) ::
 hE P "_law_odd" 1021 (.ref 578) ::
 hE P "_law_heard" 1033 (.ref 585) ::
 hE P "_law_refused" 1042 (.ref 592) ::
 hE P "_law_one" 1056 (.ref 599) ::
 hE P "law" 1066 (.ref 606) ::
 []
def gD (P:Params) (x:Str) (t m k:Nat):Obj:={ cls:=.type "dict",data:=.dict (Array.mk (hE P "__name__" 165 (.str x t) :: (gE P).take m)) k }
def tE:List Value:=.int 2 0 :: .int 0 0 :: .ref 20 :: .int 4 0 :: .int 0 0 :: .ref 33 :: .int 6 0 :: .int 0 0 :: .ref 45 :: .int 8 0 :: .int 0 0 :: .ref 57 :: .int 10 0 :: .int 0 0 :: .ref 69 :: .int 12 0 :: .int 0 0 :: .ref 81 :: .int 14 0 :: .int 0 0 :: .ref 93 :: .int 16 0 :: .int 0 0 :: .ref 105 :: .int 18 0 :: .int 0 0 :: .ref 117 :: .int 20 0 :: .int 0 0 :: .ref 129 :: .int 22 0 :: .int 0 0 :: .ref 141 :: .int 24 0 :: .int 0 0 :: .ref 153 :: .int 26 0 :: .int 0 0 :: .ref 165 :: .int 39 0 :: .int 0 0 :: .ref 176 :: .int 43 0 :: .int 0 0 :: .ref 183 :: .int 45 0 :: .int 0 0 :: .ref 190 :: .int 47 0 :: .int 0 0 :: .ref 197 :: .int 53 0 :: .int 0 0 :: .ref 204 :: .int 68 0 :: .int 0 0 :: .ref 211 :: .int 72 0 :: .int 0 0 :: .ref 218 :: .int 76 0 :: .int 0 0 :: .ref 223 :: .int 80 0 :: .int 0 0 :: .ref 228 :: .int 87 0 :: .int 0 0 :: .ref 235 :: .int 91 0 :: .int 0 0 :: .ref 242 :: .int 96 0 :: .int 0 0 :: .ref 249 :: .int 103 0 :: .int 0 0 :: .ref 256 :: .int 109 0 :: .int 0 0 :: .ref 261 :: .int 114 0 :: .int 0 0 :: .ref 266 :: .int 118 0 :: .int 0 0 :: .ref 273 :: .int 120 0 :: .int 0 0 :: .ref 280 :: .int 133 0 :: .int 0 0 :: .ref 285 :: .int 137 0 :: .int 0 0 :: .ref 292 :: .int 139 0 :: .int 0 0 :: .ref 297 :: .int 143 0 :: .int 0 0 :: .ref 302 :: .int 147 0 :: .int 0 0 :: .ref 309 :: .int 151 0 :: .int 0 0 :: .ref 314 :: .int 154 0 :: .int 0 0 :: .ref 319 :: .int 165 0 :: .int 0 0 :: .ref 326 :: .int 176 0 :: .int 0 0 :: .ref 345 :: .int 178 0 :: .int 0 0 :: .ref 350 :: .int 185 0 :: .int 0 0 :: .ref 357 :: .int 187 0 :: .int 0 0 :: .ref 364 :: .int 189 0 :: .int 0 0 :: .ref 371 :: .int 196 0 :: .int 0 0 :: .ref 378 :: .int 217 0 :: .int 0 0 :: .ref 385 :: .int 221 0 :: .int 0 0 :: .ref 392 :: .int 223 0 :: .int 0 0 :: .ref 397 :: .int 238 0 :: .int 0 0 :: .ref 402 :: .int 240 0 :: .int 0 0 :: .ref 409 :: .int 259 0 :: .int 0 0 :: .ref 416 :: .int 262 0 :: .int 0 0 :: .ref 421 :: .int 285 0 :: .int 0 0 :: .ref 428 :: .int 291 0 :: .int 0 0 :: .ref 435 :: .int 293 0 :: .int 0 0 :: .ref 442 :: .int 295 0 :: .int 0 0 :: .ref 449 :: .int 301 0 :: .int 0 0 :: .ref 457 :: .int 308 0 :: .int 0 0 :: .ref 464 :: .int 317 0 :: .int 0 0 :: .ref 471 :: .int 319 0 :: .int 0 0 :: .ref 478 :: .int 321 0 :: .int 0 0 :: .ref 485 :: .int 325 0 :: .int 0 0 :: .ref 492 :: .int 333 0 :: .int 0 0 :: .ref 499 :: .int 345 0 :: .int 0 0 :: .ref 506 :: .int 348 0 :: .int 0 0 :: .ref 513 :: .int 358 0 :: .int 0 0 :: .ref 520 :: .int 362 0 :: .int 0 0 :: .ref 527 :: .int 370 0 :: .int 0 0 :: .ref 534 :: .int 375 0 :: .int 0 0 :: .ref 541 :: .int 382 0 :: .int 0 0 :: .ref 546 :: .int 390 0 :: .int 0 0 :: .ref 551 :: .int 396 0 :: .int 0 0 :: .ref 558 :: .int 400 0 :: .int 0 0 :: .ref 563 :: .int 423 0 :: .int 0 0 :: .ref 570 :: .int 437 0 :: .int 0 0 :: .ref 577 :: .int 448 0 :: .int 0 0 :: .ref 584 :: .int 458 0 :: .int 0 0 :: .ref 591 :: .int 460 0 :: .int 0 0 :: .ref 598 :: .int 478 0 :: .int 0 0 :: .ref 605 :: []
def tD (m:Nat):Obj:={ cls:=.none,data:=.fields (Array.mk (tE.take m)) }
def o0 (P:Params):Obj:=W.boot_o_0 P
def o1 (P:Params):Obj:=W.boot_o_1 P
def o2 (P:Params):Obj:=W.boot_o_2 P
def o3 (P:Params):Obj:={ cls:=.type "dict",data:=.dict (Array.mk (hE P "__name__" 165 (.str ("law_oldhands_k73_looks") 915) :: gE P)) 105 }
def o4 (P:Params):Obj:=W.boot_o_4 P
def o5 (P:Params):Obj:=W.boot_o_5 P
def o6 (P:Params):Obj:=W.boot_o_6 P
def o7 (P:Params):Obj:=W.boot_o_7 P
def o8 (P:Params):Obj:=W.boot_o_8 P
def o9 (P:Params):Obj:=W.boot_o_9 P
def o10 (P:Params):Obj:=W.boot_o_10 P
def o11:Obj:=hS []
def o12:Obj:={ cls:=.none,data:=.fields (Array.mk tE) }
def o13:Obj:=hC "<module>" "<module>" 182 183 184 [.int 1 0,.int 0 0,.int 0 0,.int 0 0,.int 0 0,.ref 11,.bool false,.int 181 0,.ref 12,.none,.none,.none,.none,.int 185 0,.int 1 0,hT 186]
def o14:Obj:={ cls:=.type "frame",slots:=#[some (.ref 13),some (.ref 3),some (.ref 3),none,some (.str ("__main__") 164),none,some (.ref 0)] }
def o15:Obj:=hS [.type "ValueError"]
def o16:Obj:={ cls:=.type "builtin_function_or_method",data:=.fields #[.builtin "type.__prepare__",.type "type"] }
def o17 (P:Params):Obj:={ cls:=.type "dict",data:=.dict #[hE P "__module__" 196 (.str ("oldhands.errors") 187),hE P "__qualname__" 198 (.str ("HandError") 197),hE P "__firstlineno__" 200 (.int 2 199),hE P "__static_attributes__" 201 (.ref 22)] 4 }
def o19:Obj:=hN
def o20:Obj:=hC "HandError" "HandError" 191 192 193 [.int 2 0,.int 0 0,.int 0 0,.int 0 0,.int 0 0,.ref 18,.bool false,.int 181 0,.ref 19,.none,.none,.none,.none,.int 194 0,.int 2 0,hT 195]
def o21:Obj:={ cls:=.type "frame",slots:=#[some (.ref 20),some (.ref 3),some (.ref 17),none,some (.str ("oldhands.errors") 187),none,some (.ref 0)] }
def o23 (P:Params):Obj:={ cls:=.type "dict",data:=.dict #[hE P "__module__" 196 (.str ("oldhands.errors") 187),hE P "__firstlineno__" 200 (.int 2 199),hE P "__static_attributes__" 201 (.ref 22),hE P "__weakref__" 203 (.ref 25),hE P "__doc__" 204 (.none)] 3 }
def o24:Obj:={ cls:=.type "type",data:=.cls { name:= "HandError",bases:=[.type "ValueError"],mro:=[.ref 24,.type "ValueError",.type "Exception",.type "BaseException",.type "object"],ns:=23,qualname:= "HandError",subclasses:=[.ref 37,.ref 49,.ref 61,.ref 73,.ref 85,.ref 97,.ref 109,.ref 121,.ref 133,.ref 145,.ref 157,.ref 169] },slots:=#[some (.ref 15),none,some (.str ("HandError") 189),some (.str ("HandError") 197),some (.builtin "ValueError.__new__"),some (.bool true)] }
def o25:Obj:={ cls:=.type "getset_descriptor",data:=.fields #[.str ("__weakref__") 202,.ref 24,.builtin "ExceptionGroup.__weakref__",.none] }
def o26:Obj:={ cls:=.type "super",data:=.fields #[.ref 24,.ref 24,.ref 24] }
def o27:Obj:={ cls:=.type "builtin_function_or_method",data:=.fields #[.builtin "object.__init_subclass__",.ref 24] }
def o28:Obj:=hS [.ref 24]
def o30 (P:Params):Obj:={ cls:=.type "dict",data:=.dict #[hE P "__module__" 214 (.str ("oldhands.errors") 187),hE P "__qualname__" 216 (.str ("BadKind") 215),hE P "__firstlineno__" 218 (.int 4 217),hE P "__static_attributes__" 219 (.ref 35)] 4 }
def o33:Obj:=hC "BadKind" "BadKind" 209 210 211 [.int 4 0,.int 0 0,.int 0 0,.int 0 0,.int 0 0,.ref 31,.bool false,.int 181 0,.ref 32,.none,.none,.none,.none,.int 212 0,.int 4 0,hT 213]
def o34:Obj:={ cls:=.type "frame",slots:=#[some (.ref 33),some (.ref 3),some (.ref 30),none,some (.str ("oldhands.errors") 187),none,some (.ref 0)] }
def o36 (P:Params):Obj:={ cls:=.type "dict",data:=.dict #[hE P "__module__" 214 (.str ("oldhands.errors") 187),hE P "__firstlineno__" 218 (.int 4 217),hE P "__static_attributes__" 219 (.ref 35),hE P "__doc__" 220 (.none)] 2 }
def o37:Obj:={ cls:=.type "type",data:=.cls { name:= "BadKind",bases:=[.ref 24],mro:=[.ref 37,.ref 24,.type "ValueError",.type "Exception",.type "BaseException",.type "object"],ns:=36,qualname:= "BadKind" },slots:=#[some (.ref 28),none,some (.str ("BadKind") 207),some (.str ("BadKind") 215),some (.builtin "ValueError.__new__"),some (.bool true)] }
def o38:Obj:={ cls:=.type "super",data:=.fields #[.ref 37,.ref 37,.ref 37] }
def o39:Obj:={ cls:=.type "builtin_function_or_method",data:=.fields #[.builtin "object.__init_subclass__",.ref 37] }
def o42 (P:Params):Obj:={ cls:=.type "dict",data:=.dict #[hE P "__module__" 230 (.str ("oldhands.errors") 187),hE P "__qualname__" 232 (.str ("BadValue") 231),hE P "__firstlineno__" 234 (.int 6 233),hE P "__static_attributes__" 235 (.ref 47)] 4 }
def o45:Obj:=hC "BadValue" "BadValue" 225 226 227 [.int 6 0,.int 0 0,.int 0 0,.int 0 0,.int 0 0,.ref 43,.bool false,.int 181 0,.ref 44,.none,.none,.none,.none,.int 228 0,.int 6 0,hT 229]
def o46:Obj:={ cls:=.type "frame",slots:=#[some (.ref 45),some (.ref 3),some (.ref 42),none,some (.str ("oldhands.errors") 187),none,some (.ref 0)] }
def o48 (P:Params):Obj:={ cls:=.type "dict",data:=.dict #[hE P "__module__" 230 (.str ("oldhands.errors") 187),hE P "__firstlineno__" 234 (.int 6 233),hE P "__static_attributes__" 235 (.ref 47),hE P "__doc__" 236 (.none)] 2 }
def o49:Obj:={ cls:=.type "type",data:=.cls { name:= "BadValue",bases:=[.ref 24],mro:=[.ref 49,.ref 24,.type "ValueError",.type "Exception",.type "BaseException",.type "object"],ns:=48,qualname:= "BadValue" },slots:=#[some (.ref 40),none,some (.str ("BadValue") 223),some (.str ("BadValue") 231),some (.builtin "ValueError.__new__"),some (.bool true)] }
def o50:Obj:={ cls:=.type "super",data:=.fields #[.ref 49,.ref 49,.ref 49] }
def o51:Obj:={ cls:=.type "builtin_function_or_method",data:=.fields #[.builtin "object.__init_subclass__",.ref 49] }
def o54 (P:Params):Obj:={ cls:=.type "dict",data:=.dict #[hE P "__module__" 246 (.str ("oldhands.errors") 187),hE P "__qualname__" 248 (.str ("BadPath") 247),hE P "__firstlineno__" 250 (.int 8 249),hE P "__static_attributes__" 251 (.ref 59)] 4 }
def o57:Obj:=hC "BadPath" "BadPath" 241 242 243 [.int 8 0,.int 0 0,.int 0 0,.int 0 0,.int 0 0,.ref 55,.bool false,.int 181 0,.ref 56,.none,.none,.none,.none,.int 244 0,.int 8 0,hT 245]
def o58:Obj:={ cls:=.type "frame",slots:=#[some (.ref 57),some (.ref 3),some (.ref 54),none,some (.str ("oldhands.errors") 187),none,some (.ref 0)] }
def o60 (P:Params):Obj:={ cls:=.type "dict",data:=.dict #[hE P "__module__" 246 (.str ("oldhands.errors") 187),hE P "__firstlineno__" 250 (.int 8 249),hE P "__static_attributes__" 251 (.ref 59),hE P "__doc__" 252 (.none)] 2 }
def o61:Obj:={ cls:=.type "type",data:=.cls { name:= "BadPath",bases:=[.ref 24],mro:=[.ref 61,.ref 24,.type "ValueError",.type "Exception",.type "BaseException",.type "object"],ns:=60,qualname:= "BadPath" },slots:=#[some (.ref 52),none,some (.str ("BadPath") 239),some (.str ("BadPath") 247),some (.builtin "ValueError.__new__"),some (.bool true)] }
def o62:Obj:={ cls:=.type "super",data:=.fields #[.ref 61,.ref 61,.ref 61] }
def o63:Obj:={ cls:=.type "builtin_function_or_method",data:=.fields #[.builtin "object.__init_subclass__",.ref 61] }
def o66 (P:Params):Obj:={ cls:=.type "dict",data:=.dict #[hE P "__module__" 262 (.str ("oldhands.errors") 187),hE P "__qualname__" 264 (.str ("BadTurn") 263),hE P "__firstlineno__" 266 (.int 10 265),hE P "__static_attributes__" 267 (.ref 71)] 4 }
def o69:Obj:=hC "BadTurn" "BadTurn" 257 258 259 [.int 10 0,.int 0 0,.int 0 0,.int 0 0,.int 0 0,.ref 67,.bool false,.int 181 0,.ref 68,.none,.none,.none,.none,.int 260 0,.int 10 0,hT 261]
def o70:Obj:={ cls:=.type "frame",slots:=#[some (.ref 69),some (.ref 3),some (.ref 66),none,some (.str ("oldhands.errors") 187),none,some (.ref 0)] }
def o72 (P:Params):Obj:={ cls:=.type "dict",data:=.dict #[hE P "__module__" 262 (.str ("oldhands.errors") 187),hE P "__firstlineno__" 266 (.int 10 265),hE P "__static_attributes__" 267 (.ref 71),hE P "__doc__" 268 (.none)] 2 }
def o73:Obj:={ cls:=.type "type",data:=.cls { name:= "BadTurn",bases:=[.ref 24],mro:=[.ref 73,.ref 24,.type "ValueError",.type "Exception",.type "BaseException",.type "object"],ns:=72,qualname:= "BadTurn" },slots:=#[some (.ref 64),none,some (.str ("BadTurn") 255),some (.str ("BadTurn") 263),some (.builtin "ValueError.__new__"),some (.bool true)] }
def o74:Obj:={ cls:=.type "super",data:=.fields #[.ref 73,.ref 73,.ref 73] }
def o75:Obj:={ cls:=.type "builtin_function_or_method",data:=.fields #[.builtin "object.__init_subclass__",.ref 73] }
def o78 (P:Params):Obj:={ cls:=.type "dict",data:=.dict #[hE P "__module__" 278 (.str ("oldhands.errors") 187),hE P "__qualname__" 280 (.str ("BadPiece") 279),hE P "__firstlineno__" 282 (.int 12 281),hE P "__static_attributes__" 283 (.ref 83)] 4 }
def o81:Obj:=hC "BadPiece" "BadPiece" 273 274 275 [.int 12 0,.int 0 0,.int 0 0,.int 0 0,.int 0 0,.ref 79,.bool false,.int 181 0,.ref 80,.none,.none,.none,.none,.int 276 0,.int 12 0,hT 277]
def o82:Obj:={ cls:=.type "frame",slots:=#[some (.ref 81),some (.ref 3),some (.ref 78),none,some (.str ("oldhands.errors") 187),none,some (.ref 0)] }
def o84 (P:Params):Obj:={ cls:=.type "dict",data:=.dict #[hE P "__module__" 278 (.str ("oldhands.errors") 187),hE P "__firstlineno__" 282 (.int 12 281),hE P "__static_attributes__" 283 (.ref 83),hE P "__doc__" 284 (.none)] 2 }
def o85:Obj:={ cls:=.type "type",data:=.cls { name:= "BadPiece",bases:=[.ref 24],mro:=[.ref 85,.ref 24,.type "ValueError",.type "Exception",.type "BaseException",.type "object"],ns:=84,qualname:= "BadPiece" },slots:=#[some (.ref 76),none,some (.str ("BadPiece") 271),some (.str ("BadPiece") 279),some (.builtin "ValueError.__new__"),some (.bool true)] }
def o86:Obj:={ cls:=.type "super",data:=.fields #[.ref 85,.ref 85,.ref 85] }
def o87:Obj:={ cls:=.type "builtin_function_or_method",data:=.fields #[.builtin "object.__init_subclass__",.ref 85] }
def o90 (P:Params):Obj:={ cls:=.type "dict",data:=.dict #[hE P "__module__" 294 (.str ("oldhands.errors") 187),hE P "__qualname__" 296 (.str ("BadVersion") 295),hE P "__firstlineno__" 298 (.int 14 297),hE P "__static_attributes__" 299 (.ref 95)] 4 }
def o93:Obj:=hC "BadVersion" "BadVersion" 289 290 291 [.int 14 0,.int 0 0,.int 0 0,.int 0 0,.int 0 0,.ref 91,.bool false,.int 181 0,.ref 92,.none,.none,.none,.none,.int 292 0,.int 14 0,hT 293]
def o94:Obj:={ cls:=.type "frame",slots:=#[some (.ref 93),some (.ref 3),some (.ref 90),none,some (.str ("oldhands.errors") 187),none,some (.ref 0)] }
def o96 (P:Params):Obj:={ cls:=.type "dict",data:=.dict #[hE P "__module__" 294 (.str ("oldhands.errors") 187),hE P "__firstlineno__" 298 (.int 14 297),hE P "__static_attributes__" 299 (.ref 95),hE P "__doc__" 300 (.none)] 2 }
def o97:Obj:={ cls:=.type "type",data:=.cls { name:= "BadVersion",bases:=[.ref 24],mro:=[.ref 97,.ref 24,.type "ValueError",.type "Exception",.type "BaseException",.type "object"],ns:=96,qualname:= "BadVersion" },slots:=#[some (.ref 88),none,some (.str ("BadVersion") 287),some (.str ("BadVersion") 295),some (.builtin "ValueError.__new__"),some (.bool true)] }
def o98:Obj:={ cls:=.type "super",data:=.fields #[.ref 97,.ref 97,.ref 97] }
def o99:Obj:={ cls:=.type "builtin_function_or_method",data:=.fields #[.builtin "object.__init_subclass__",.ref 97] }
def xz (P:Params):Obj:=hS [.ref 24]
def BQ (P:Params):Obj:={ cls:=.type "builtin_function_or_method",data:=.fields #[.builtin "type.__prepare__",.type "type"] }
def BR (P:Params):Obj:={ cls:=.type "dict",data:=.dict #[hE P "__module__" 310 (.str ("oldhands.errors") 187),hE P "__qualname__" 312 (.str ("BadText") 311),hE P "__firstlineno__" 314 (.int 16 313),hE P "__static_attributes__" 315 (.ref 107)] 4 }
def BS (P:Params):Obj:=hS []
def BU (P:Params):Obj:=hN
def BV (P:Params):Obj:=hC "BadText" "BadText" 305 306 307 [.int 16 0,.int 0 0,.int 0 0,.int 0 0,.int 0 0,.ref 103,.bool false,.int 181 0,.ref 104,.none,.none,.none,.none,.int 308 0,.int 16 0,hT 309]
def BW (P:Params):Obj:={ cls:=.type "frame",slots:=#[some (.ref 105),some (.ref 3),some (.ref 102),none,some (.str ("oldhands.errors") 187),none,some (.ref 0)] }
def xA (P:Params):Obj:=hS []
def xB (P:Params):Obj:={ cls:=.type "dict",data:=.dict #[hE P "__module__" 310 (.str ("oldhands.errors") 187),hE P "__firstlineno__" 314 (.int 16 313),hE P "__static_attributes__" 315 (.ref 107),hE P "__doc__" 316 (.none)] 2 }
def xD (P:Params):Obj:={ cls:=.type "type",data:=.cls { name:= "BadText",bases:=[.ref 24],mro:=[.ref 109,.ref 24,.type "ValueError",.type "Exception",.type "BaseException",.type "object"],ns:=108,qualname:= "BadText" },slots:=#[some (.ref 100),none,some (.str ("BadText") 303),some (.str ("BadText") 311),some (.builtin "ValueError.__new__"),some (.bool true)] }
def BX (P:Params):Obj:={ cls:=.type "super",data:=.fields #[.ref 109,.ref 109,.ref 109] }
def BY (P:Params):Obj:={ cls:=.type "builtin_function_or_method",data:=.fields #[.builtin "object.__init_subclass__",.ref 109] }
def xE (P:Params):Obj:=hS [.ref 24]
def BZ (P:Params):Obj:={ cls:=.type "builtin_function_or_method",data:=.fields #[.builtin "type.__prepare__",.type "type"] }
def B9 (P:Params):Obj:={ cls:=.type "dict",data:=.dict #[hE P "__module__" 326 (.str ("oldhands.errors") 187),hE P "__qualname__" 328 (.str ("BadQuestion") 327),hE P "__firstlineno__" 330 (.int 18 329),hE P "__static_attributes__" 331 (.ref 119)] 4 }
def Ca (P:Params):Obj:=hS []
def Cb (P:Params):Obj:=hN
def Cc (P:Params):Obj:=hC "BadQuestion" "BadQuestion" 321 322 323 [.int 18 0,.int 0 0,.int 0 0,.int 0 0,.int 0 0,.ref 115,.bool false,.int 181 0,.ref 116,.none,.none,.none,.none,.int 324 0,.int 18 0,hT 325]
def Cd (P:Params):Obj:={ cls:=.type "frame",slots:=#[some (.ref 117),some (.ref 3),some (.ref 114),none,some (.str ("oldhands.errors") 187),none,some (.ref 0)] }
def xF (P:Params):Obj:=hS []
def xG (P:Params):Obj:={ cls:=.type "dict",data:=.dict #[hE P "__module__" 326 (.str ("oldhands.errors") 187),hE P "__firstlineno__" 330 (.int 18 329),hE P "__static_attributes__" 331 (.ref 119),hE P "__doc__" 332 (.none)] 2 }
def xH (P:Params):Obj:={ cls:=.type "type",data:=.cls { name:= "BadQuestion",bases:=[.ref 24],mro:=[.ref 121,.ref 24,.type "ValueError",.type "Exception",.type "BaseException",.type "object"],ns:=120,qualname:= "BadQuestion" },slots:=#[some (.ref 112),none,some (.str ("BadQuestion") 319),some (.str ("BadQuestion") 327),some (.builtin "ValueError.__new__"),some (.bool true)] }
def Ce (P:Params):Obj:={ cls:=.type "super",data:=.fields #[.ref 121,.ref 121,.ref 121] }
def Cf (P:Params):Obj:={ cls:=.type "builtin_function_or_method",data:=.fields #[.builtin "object.__init_subclass__",.ref 121] }
def xI (P:Params):Obj:=hS [.ref 24]
def Cg (P:Params):Obj:={ cls:=.type "builtin_function_or_method",data:=.fields #[.builtin "type.__prepare__",.type "type"] }
def Ch (P:Params):Obj:={ cls:=.type "dict",data:=.dict #[hE P "__module__" 342 (.str ("oldhands.errors") 187),hE P "__qualname__" 344 (.str ("NoRecord") 343),hE P "__firstlineno__" 346 (.int 20 345),hE P "__static_attributes__" 347 (.ref 131)] 4 }
def Ci (P:Params):Obj:=hS []
def Cj (P:Params):Obj:=hN
def Ck (P:Params):Obj:=hC "NoRecord" "NoRecord" 337 338 339 [.int 20 0,.int 0 0,.int 0 0,.int 0 0,.int 0 0,.ref 127,.bool false,.int 181 0,.ref 128,.none,.none,.none,.none,.int 340 0,.int 20 0,hT 341]
def Cl (P:Params):Obj:={ cls:=.type "frame",slots:=#[some (.ref 129),some (.ref 3),some (.ref 126),none,some (.str ("oldhands.errors") 187),none,some (.ref 0)] }
def xJ (P:Params):Obj:=hS []
def xK (P:Params):Obj:={ cls:=.type "dict",data:=.dict #[hE P "__module__" 342 (.str ("oldhands.errors") 187),hE P "__firstlineno__" 346 (.int 20 345),hE P "__static_attributes__" 347 (.ref 131),hE P "__doc__" 348 (.none)] 2 }
def xL (P:Params):Obj:={ cls:=.type "type",data:=.cls { name:= "NoRecord",bases:=[.ref 24],mro:=[.ref 133,.ref 24,.type "ValueError",.type "Exception",.type "BaseException",.type "object"],ns:=132,qualname:= "NoRecord" },slots:=#[some (.ref 124),none,some (.str ("NoRecord") 335),some (.str ("NoRecord") 343),some (.builtin "ValueError.__new__"),some (.bool true)] }
def Cm (P:Params):Obj:={ cls:=.type "super",data:=.fields #[.ref 133,.ref 133,.ref 133] }
def Cn (P:Params):Obj:={ cls:=.type "builtin_function_or_method",data:=.fields #[.builtin "object.__init_subclass__",.ref 133] }
def xM (P:Params):Obj:=hS [.ref 24]
def Co (P:Params):Obj:={ cls:=.type "builtin_function_or_method",data:=.fields #[.builtin "type.__prepare__",.type "type"] }
def Cp (P:Params):Obj:={ cls:=.type "dict",data:=.dict #[hE P "__module__" 358 (.str ("oldhands.errors") 187),hE P "__qualname__" 360 (.str ("Taken") 359),hE P "__firstlineno__" 362 (.int 22 361),hE P "__static_attributes__" 363 (.ref 143)] 4 }
def Cq (P:Params):Obj:=hS []
def Cr (P:Params):Obj:=hN
def Cs (P:Params):Obj:=hC "Taken" "Taken" 353 354 355 [.int 22 0,.int 0 0,.int 0 0,.int 0 0,.int 0 0,.ref 139,.bool false,.int 181 0,.ref 140,.none,.none,.none,.none,.int 356 0,.int 22 0,hT 357]
def Ct (P:Params):Obj:={ cls:=.type "frame",slots:=#[some (.ref 141),some (.ref 3),some (.ref 138),none,some (.str ("oldhands.errors") 187),none,some (.ref 0)] }
def xN (P:Params):Obj:=hS []
def xO (P:Params):Obj:={ cls:=.type "dict",data:=.dict #[hE P "__module__" 358 (.str ("oldhands.errors") 187),hE P "__firstlineno__" 362 (.int 22 361),hE P "__static_attributes__" 363 (.ref 143),hE P "__doc__" 364 (.none)] 2 }
def xP (P:Params):Obj:={ cls:=.type "type",data:=.cls { name:= "Taken",bases:=[.ref 24],mro:=[.ref 145,.ref 24,.type "ValueError",.type "Exception",.type "BaseException",.type "object"],ns:=144,qualname:= "Taken" },slots:=#[some (.ref 136),none,some (.str ("Taken") 351),some (.str ("Taken") 359),some (.builtin "ValueError.__new__"),some (.bool true)] }
def Cu (P:Params):Obj:={ cls:=.type "super",data:=.fields #[.ref 145,.ref 145,.ref 145] }
def Cv (P:Params):Obj:={ cls:=.type "builtin_function_or_method",data:=.fields #[.builtin "object.__init_subclass__",.ref 145] }
def xQ (P:Params):Obj:=hS [.ref 24]
def Cw (P:Params):Obj:={ cls:=.type "builtin_function_or_method",data:=.fields #[.builtin "type.__prepare__",.type "type"] }
def Cy (P:Params):Obj:={ cls:=.type "dict",data:=.dict #[hE P "__module__" 374 (.str ("oldhands.errors") 187),hE P "__qualname__" 376 (.str ("NoDeed") 375),hE P "__firstlineno__" 378 (.int 24 377),hE P "__static_attributes__" 379 (.ref 155)] 4 }
def Cz (P:Params):Obj:=hS []
def CA (P:Params):Obj:=hN
def CB (P:Params):Obj:=hC "NoDeed" "NoDeed" 369 370 371 [.int 24 0,.int 0 0,.int 0 0,.int 0 0,.int 0 0,.ref 151,.bool false,.int 181 0,.ref 152,.none,.none,.none,.none,.int 372 0,.int 24 0,hT 373]
def CC (P:Params):Obj:={ cls:=.type "frame",slots:=#[some (.ref 153),some (.ref 3),some (.ref 150),none,some (.str ("oldhands.errors") 187),none,some (.ref 0)] }
def xR (P:Params):Obj:=hS []
def xS (P:Params):Obj:={ cls:=.type "dict",data:=.dict #[hE P "__module__" 374 (.str ("oldhands.errors") 187),hE P "__firstlineno__" 378 (.int 24 377),hE P "__static_attributes__" 379 (.ref 155),hE P "__doc__" 380 (.none)] 2 }
def xT (P:Params):Obj:={ cls:=.type "type",data:=.cls { name:= "NoDeed",bases:=[.ref 24],mro:=[.ref 157,.ref 24,.type "ValueError",.type "Exception",.type "BaseException",.type "object"],ns:=156,qualname:= "NoDeed" },slots:=#[some (.ref 148),none,some (.str ("NoDeed") 367),some (.str ("NoDeed") 375),some (.builtin "ValueError.__new__"),some (.bool true)] }
def CD (P:Params):Obj:={ cls:=.type "super",data:=.fields #[.ref 157,.ref 157,.ref 157] }
def CF (P:Params):Obj:={ cls:=.type "builtin_function_or_method",data:=.fields #[.builtin "object.__init_subclass__",.ref 157] }
def xU (P:Params):Obj:=hS [.ref 24]
def CG (P:Params):Obj:={ cls:=.type "builtin_function_or_method",data:=.fields #[.builtin "type.__prepare__",.type "type"] }
def CI (P:Params):Obj:={ cls:=.type "dict",data:=.dict #[hE P "__module__" 390 (.str ("oldhands.errors") 187),hE P "__qualname__" 392 (.str ("Full") 391),hE P "__firstlineno__" 394 (.int 26 393),hE P "__static_attributes__" 395 (.ref 167)] 4 }
def CJ (P:Params):Obj:=hS []
def CK (P:Params):Obj:=hN
def CL (P:Params):Obj:=hC "Full" "Full" 385 386 387 [.int 26 0,.int 0 0,.int 0 0,.int 0 0,.int 0 0,.ref 163,.bool false,.int 181 0,.ref 164,.none,.none,.none,.none,.int 388 0,.int 26 0,hT 389]
def CM (P:Params):Obj:={ cls:=.type "frame",slots:=#[some (.ref 165),some (.ref 3),some (.ref 162),none,some (.str ("oldhands.errors") 187),none,some (.ref 0)] }
def xV (P:Params):Obj:=hS []
def xW (P:Params):Obj:={ cls:=.type "dict",data:=.dict #[hE P "__module__" 390 (.str ("oldhands.errors") 187),hE P "__firstlineno__" 394 (.int 26 393),hE P "__static_attributes__" 395 (.ref 167),hE P "__doc__" 396 (.none)] 2 }
def xX (P:Params):Obj:={ cls:=.type "type",data:=.cls { name:= "Full",bases:=[.ref 24],mro:=[.ref 169,.ref 24,.type "ValueError",.type "Exception",.type "BaseException",.type "object"],ns:=168,qualname:= "Full" },slots:=#[some (.ref 160),none,some (.str ("Full") 383),some (.str ("Full") 391),some (.builtin "ValueError.__new__"),some (.bool true)] }
def CN (P:Params):Obj:={ cls:=.type "super",data:=.fields #[.ref 169,.ref 169,.ref 169] }
def CO (P:Params):Obj:={ cls:=.type "builtin_function_or_method",data:=.fields #[.builtin "object.__init_subclass__",.ref 169] }
def xY (P:Params):Obj:={ cls:=.type "dict",data:=.dict #[hE P "number" 419 (.int 3 420),hE P "text" 421 (.int 2 422),hE P "choice" 423 (.int 2 424),hE P "list" 425 (.int 3 426),hE P "record" 427 (.int 2 428),hE P "rows" 429 (.int 4 430)] 6 }
def CP (P:Params):Obj:=hS []
def CQ (P:Params):Obj:=hN
def CS (P:Params):Obj:=hU "is_name" "is_name" (top 25)
def xZ (P:Params):Obj:=hC "is_name" "is_name" 438 439 440 [.int 39 0,.int 1 0,.int 0 0,.int 0 0,.int 3 0,.ref 173,.bool true,.int 181 0,.ref 174,.none,.none,.none,.ref 175,.int 441 0,.int 39 0,hT 442]
def x9 (P:Params):Obj:=hF "is_name" "is_name" "oldhands.kinds" (top 25) 399 176
def CT (P:Params):Obj:=hS []
def CU (P:Params):Obj:=hN
def CV (P:Params):Obj:=hS [.str ("thing") 447]
def CW (P:Params):Obj:=hS []
def CY (P:Params):Obj:=hU "is_whole" "is_whole" (top 26)
def ya (P:Params):Obj:=hC "is_whole" "is_whole" 444 445 446 [.int 43 0,.int 1 0,.int 0 0,.int 0 0,.int 3 0,.ref 178,.bool true,.int 181 0,.ref 179,.none,.ref 180,.ref 181,.ref 182,.int 448 0,.int 43 0,hT 449]
def yb (P:Params):Obj:=hF "is_whole" "is_whole" "oldhands.kinds" (top 26) 399 183
def CZ (P:Params):Obj:=hS []
def C1 (P:Params):Obj:=hN
def C2 (P:Params):Obj:=hS [.str ("thing") 454,.str ("low") 455,.str ("high") 456]
def C3 (P:Params):Obj:=hS []
def C4 (P:Params):Obj:=hU "is_whole_within" "is_whole_within" (top 27)
def yc (P:Params):Obj:=hC "is_whole_within" "is_whole_within" 451 452 453 [.int 45 0,.int 3 0,.int 0 0,.int 0 0,.int 3 0,.ref 185,.bool true,.int 181 0,.ref 186,.none,.ref 187,.ref 188,.ref 189,.int 457 0,.int 45 0,hT 458]
def yd (P:Params):Obj:=hF "is_whole_within" "is_whole_within" "oldhands.kinds" (top 27) 399 190
def C5 (P:Params):Obj:=hS []
def C6 (P:Params):Obj:=hN
def C7 (P:Params):Obj:=hS [.str ("kind") 463]
def C8 (P:Params):Obj:=hS []
def C9 (P:Params):Obj:=hU "made_kind" "made_kind" (top 28)
def ye (P:Params):Obj:=hC "made_kind" "made_kind" 460 461 462 [.int 47 0,.int 1 0,.int 0 0,.int 0 0,.int 3 0,.ref 192,.bool true,.int 181 0,.ref 193,.none,.ref 194,.ref 195,.ref 196,.int 464 0,.int 47 0,hT 465]
def yf (P:Params):Obj:=hF "made_kind" "made_kind" "oldhands.kinds" (top 28) 399 197
def Da (P:Params):Obj:=hS []
def Db (P:Params):Obj:=hN
def Dc (P:Params):Obj:=hS [.str ("thing") 470,.str ("room") 471,.str ("word") 472]
def Dd (P:Params):Obj:=hS []
def De (P:Params):Obj:=hU "is_formed" "is_formed" (top 29)
def yg (P:Params):Obj:=hC "is_formed" "is_formed" 467 468 469 [.int 53 0,.int 2 0,.int 0 0,.int 0 0,.int 3 0,.ref 199,.bool true,.int 181 0,.ref 200,.none,.ref 201,.ref 202,.ref 203,.int 473 0,.int 53 0,hT 474]
def yh (P:Params):Obj:=hF "is_formed" "is_formed" "oldhands.kinds" (top 29) 399 204
def Df (P:Params):Obj:=hS []
def Dg (P:Params):Obj:=hN
def Dh (P:Params):Obj:=hS [.str ("thing") 479]
def Di (P:Params):Obj:=hS []
def Dj (P:Params):Obj:=hU "has_parts" "has_parts" (top 30)
def yi (P:Params):Obj:=hC "has_parts" "has_parts" 476 477 478 [.int 68 0,.int 1 0,.int 0 0,.int 0 0,.int 3 0,.ref 206,.bool true,.int 181 0,.ref 207,.none,.ref 208,.ref 209,.ref 210,.int 480 0,.int 68 0,hT 481]
def yj (P:Params):Obj:=hF "has_parts" "has_parts" "oldhands.kinds" (top 30) 399 211
def Dk (P:Params):Obj:=hS []
def Dl (P:Params):Obj:=hN
def Dm (P:Params):Obj:=hS [.str ("low") 486,.str ("high") 487]
def Dn (P:Params):Obj:=hS []
def Do (P:Params):Obj:=hU "are_bounds" "are_bounds" (top 31)
def yk (P:Params):Obj:=hC "are_bounds" "are_bounds" 483 484 485 [.int 72 0,.int 2 0,.int 0 0,.int 0 0,.int 3 0,.ref 213,.bool true,.int 181 0,.ref 214,.none,.ref 215,.ref 216,.ref 217,.int 488 0,.int 72 0,hT 489]
def yl (P:Params):Obj:=hF "are_bounds" "are_bounds" "oldhands.kinds" (top 31) 399 218
def Dp (P:Params):Obj:=hS []
def Dq (P:Params):Obj:=hN
def Dr (P:Params):Obj:=hU "are_words" "are_words" (top 32)
def ym (P:Params):Obj:=hC "are_words" "are_words" 491 492 493 [.int 76 0,.int 1 0,.int 0 0,.int 0 0,.int 3 0,.ref 220,.bool true,.int 181 0,.ref 221,.none,.none,.none,.ref 222,.int 494 0,.int 76 0,hT 495]
def yn (P:Params):Obj:=hF "are_words" "are_words" "oldhands.kinds" (top 32) 399 223
def Ds (P:Params):Obj:=hS []
def Du (P:Params):Obj:=hN
def Dv (P:Params):Obj:=hU "are_fields" "are_fields" (top 33)
def yo (P:Params):Obj:=hC "are_fields" "are_fields" 497 498 499 [.int 80 0,.int 2 0,.int 0 0,.int 0 0,.int 3 0,.ref 225,.bool true,.int 181 0,.ref 226,.none,.none,.none,.ref 227,.int 500 0,.int 80 0,hT 501]
def yp (P:Params):Obj:=hF "are_fields" "are_fields" "oldhands.kinds" (top 33) 399 228
def Dw (P:Params):Obj:=hS []
def Dx (P:Params):Obj:=hN
def Dy (P:Params):Obj:=hS [.str ("field") 506,.str ("room") 507]
def Dz (P:Params):Obj:=hS []
def DA (P:Params):Obj:=hU "is_field" "is_field" (top 34)
def yq (P:Params):Obj:=hC "is_field" "is_field" 503 504 505 [.int 87 0,.int 2 0,.int 0 0,.int 0 0,.int 3 0,.ref 230,.bool true,.int 181 0,.ref 231,.none,.ref 232,.ref 233,.ref 234,.int 508 0,.int 87 0,hT 509]
def yr (P:Params):Obj:=hF "is_field" "is_field" "oldhands.kinds" (top 34) 399 235
def DB (P:Params):Obj:=hS []
def DC (P:Params):Obj:=hN
def DD (P:Params):Obj:=hS [.str ("key") 514,.str ("items") 515,.str ("room") 516,.str ("key_kind") 517]
def DE (P:Params):Obj:=hS []
def DF (P:Params):Obj:=hU "are_rows" "are_rows" (top 35)
def yt (P:Params):Obj:=hC "are_rows" "are_rows" 511 512 513 [.int 91 0,.int 3 0,.int 0 0,.int 0 0,.int 3 0,.ref 237,.bool true,.int 181 0,.ref 238,.none,.ref 239,.ref 240,.ref 241,.int 518 0,.int 91 0,hT 519]
def yu (P:Params):Obj:=hF "are_rows" "are_rows" "oldhands.kinds" (top 35) 399 242
def DG (P:Params):Obj:=hS []
def DH (P:Params):Obj:=hN
def DI (P:Params):Obj:=hS [.str ("kind") 524,.str ("name") 525,.str ("own") 526,.str ("inner") 527]
def DJ (P:Params):Obj:=hS []
def DK (P:Params):Obj:=hU "field_kind" "field_kind" (top 36)
def yv (P:Params):Obj:=hC "field_kind" "field_kind" 521 522 523 [.int 96 0,.int 2 0,.int 0 0,.int 0 0,.int 3 0,.ref 244,.bool true,.int 181 0,.ref 245,.none,.ref 246,.ref 247,.ref 248,.int 528 0,.int 96 0,hT 529]
def yw (P:Params):Obj:=hF "field_kind" "field_kind" "oldhands.kinds" (top 36) 399 249
def DL (P:Params):Obj:=hS []
def DM (P:Params):Obj:=hN
def DN (P:Params):Obj:=hS [.str ("kind") 534]
def DO (P:Params):Obj:=hS []
def DP (P:Params):Obj:=hU "item_kind" "item_kind" (top 37)
def yx (P:Params):Obj:=hC "item_kind" "item_kind" 531 532 533 [.int 103 0,.int 1 0,.int 0 0,.int 0 0,.int 3 0,.ref 251,.bool true,.int 181 0,.ref 252,.none,.ref 253,.ref 254,.ref 255,.int 535 0,.int 103 0,hT 536]
def yy (P:Params):Obj:=hF "item_kind" "item_kind" "oldhands.kinds" (top 37) 399 256
def DQ (P:Params):Obj:=hS []
def DR (P:Params):Obj:=hN
def DS (P:Params):Obj:=hU "kinds_within" "kinds_within" (top 38)
def yz (P:Params):Obj:=hC "kinds_within" "kinds_within" 538 539 540 [.int 109 0,.int 1 0,.int 0 0,.int 0 0,.int 3 0,.ref 258,.bool true,.int 181 0,.ref 259,.none,.none,.none,.ref 260,.int 541 0,.int 109 0,hT 542]
def yA (P:Params):Obj:=hF "kinds_within" "kinds_within" "oldhands.kinds" (top 38) 399 261
def DT (P:Params):Obj:=hS []
def DU (P:Params):Obj:=hN
def DV (P:Params):Obj:=hU "kind_many" "kind_many" (top 39)
def yB (P:Params):Obj:=hC "kind_many" "kind_many" 544 545 546 [.int 114 0,.int 1 0,.int 0 0,.int 0 0,.int 3 0,.ref 263,.bool true,.int 181 0,.ref 264,.none,.none,.none,.ref 265,.int 547 0,.int 114 0,hT 548]
def yC (P:Params):Obj:=hF "kind_many" "kind_many" "oldhands.kinds" (top 39) 399 266
def DW (P:Params):Obj:=hS []
def DX (P:Params):Obj:=hN
def DY (P:Params):Obj:=hS [.str ("letter") 557]
def DZ (P:Params):Obj:=hS []
def D4 (P:Params):Obj:=hU "is_sign" "is_sign" (top 42)
def yD (P:Params):Obj:=hC "is_sign" "is_sign" 554 555 556 [.int 118 0,.int 1 0,.int 0 0,.int 0 0,.int 3 0,.ref 268,.bool true,.int 181 0,.ref 269,.none,.ref 270,.ref 271,.ref 272,.int 558 0,.int 118 0,hT 559]
def yE (P:Params):Obj:=hF "is_sign" "is_sign" "oldhands.values" (top 42) 550 273
def D5 (P:Params):Obj:=hS []
def D9 (P:Params):Obj:=hN
def Ea (P:Params):Obj:=hS [.str ("value") 564,.str ("kind") 565,.str ("word") 566]
def Eb (P:Params):Obj:=hS []
def Ec (P:Params):Obj:=hU "is_of" "is_of" (top 43)
def yF (P:Params):Obj:=hC "is_of" "is_of" 561 562 563 [.int 120 0,.int 2 0,.int 0 0,.int 0 0,.int 3 0,.ref 275,.bool true,.int 181 0,.ref 276,.none,.ref 277,.ref 278,.ref 279,.int 567 0,.int 120 0,hT 568]
def yG (P:Params):Obj:=hF "is_of" "is_of" "oldhands.values" (top 43) 550 280
def Ed (P:Params):Obj:=hS []
def Ee (P:Params):Obj:=hN
def Ef (P:Params):Obj:=hU "is_text_of" "is_text_of" (top 44)
def yH (P:Params):Obj:=hC "is_text_of" "is_text_of" 570 571 572 [.int 133 0,.int 2 0,.int 0 0,.int 0 0,.int 3 0,.ref 282,.bool true,.int 181 0,.ref 283,.none,.none,.none,.ref 284,.int 573 0,.int 133 0,hT 574]
def yI (P:Params):Obj:=hF "is_text_of" "is_text_of" "oldhands.values" (top 44) 550 285
def Eg (P:Params):Obj:=hS []
def Eh (P:Params):Obj:=hN
def Ei (P:Params):Obj:=hS [.str ("value") 579,.str ("word") 580]
def Ej (P:Params):Obj:=hS []
def Ek (P:Params):Obj:=hU "holds_tuple" "holds_tuple" (top 45)
def yJ (P:Params):Obj:=hC "holds_tuple" "holds_tuple" 576 577 578 [.int 137 0,.int 2 0,.int 0 0,.int 0 0,.int 3 0,.ref 287,.bool true,.int 181 0,.ref 288,.none,.ref 289,.ref 290,.ref 291,.int 581 0,.int 137 0,hT 582]
def yK (P:Params):Obj:=hF "holds_tuple" "holds_tuple" "oldhands.values" (top 45) 550 292
def El (P:Params):Obj:=hS []
def Em (P:Params):Obj:=hN
def En (P:Params):Obj:=hU "holds_items" "holds_items" (top 46)
def yL (P:Params):Obj:=hC "holds_items" "holds_items" 584 585 586 [.int 139 0,.int 4 0,.int 0 0,.int 0 0,.int 3 0,.ref 294,.bool true,.int 181 0,.ref 295,.none,.none,.none,.ref 296,.int 587 0,.int 139 0,hT 588]
def yM (P:Params):Obj:=hF "holds_items" "holds_items" "oldhands.values" (top 46) 550 297
def Eo (P:Params):Obj:=hS []
def Ep (P:Params):Obj:=hN
def Er (P:Params):Obj:=hU "is_record_of" "is_record_of" (top 47)
def yN (P:Params):Obj:=hC "is_record_of" "is_record_of" 590 591 592 [.int 143 0,.int 2 0,.int 0 0,.int 0 0,.int 3 0,.ref 299,.bool true,.int 181 0,.ref 300,.none,.none,.none,.ref 301,.int 593 0,.int 143 0,hT 594]
def yP (P:Params):Obj:=hF "is_record_of" "is_record_of" "oldhands.values" (top 47) 550 302
def Es (P:Params):Obj:=hS []
def Et (P:Params):Obj:=hN
def Eu (P:Params):Obj:=hS [.str ("pair") 599,.str ("field") 600]
def Ev (P:Params):Obj:=hS []
def Ew (P:Params):Obj:=hU "is_pair_of" "is_pair_of" (top 48)
def yQ (P:Params):Obj:=hC "is_pair_of" "is_pair_of" 596 597 598 [.int 147 0,.int 2 0,.int 0 0,.int 0 0,.int 3 0,.ref 304,.bool true,.int 181 0,.ref 305,.none,.ref 306,.ref 307,.ref 308,.int 601 0,.int 147 0,hT 602]
def yR (P:Params):Obj:=hF "is_pair_of" "is_pair_of" "oldhands.values" (top 48) 550 309
def Ex (P:Params):Obj:=hS []
def Ey (P:Params):Obj:=hN
def Ez (P:Params):Obj:=hU "are_keyed" "are_keyed" (top 49)
def yS (P:Params):Obj:=hC "are_keyed" "are_keyed" 604 605 606 [.int 151 0,.int 2 0,.int 0 0,.int 0 0,.int 3 0,.ref 311,.bool true,.int 181 0,.ref 312,.none,.none,.none,.ref 313,.int 607 0,.int 151 0,hT 608]
def yT (P:Params):Obj:=hF "are_keyed" "are_keyed" "oldhands.values" (top 49) 550 314
def EA (P:Params):Obj:=hS []
def EB (P:Params):Obj:=hN
def EC (P:Params):Obj:=hU "least_value" "least_value" (top 50)
def yU (P:Params):Obj:=hC "least_value" "least_value" 610 611 612 [.int 154 0,.int 1 0,.int 0 0,.int 0 0,.int 3 0,.ref 316,.bool true,.int 181 0,.ref 317,.none,.none,.none,.ref 318,.int 613 0,.int 154 0,hT 614]
def yV (P:Params):Obj:=hF "least_value" "least_value" "oldhands.values" (top 50) 550 319
def ED (P:Params):Obj:=hS []
def EE (P:Params):Obj:=hN
def EF (P:Params):Obj:=hS [.str ("record") 619,.str ("name") 620,.str ("own") 621,.str ("value") 622]
def EG (P:Params):Obj:=hS []
def EH (P:Params):Obj:=hU "field_of" "field_of" (top 51)
def yW (P:Params):Obj:=hC "field_of" "field_of" 616 617 618 [.int 165 0,.int 2 0,.int 0 0,.int 0 0,.int 3 0,.ref 321,.bool true,.int 181 0,.ref 322,.none,.ref 323,.ref 324,.ref 325,.int 623 0,.int 165 0,hT 624]
def yX (P:Params):Obj:=hF "field_of" "field_of" "oldhands.values" (top 51) 550 326
def yY (P:Params):Obj:={ cls:=.type "dict",data:=.dict #[hE P "bounds" 634 (.int 3 635),hE P "scale" 636 (.int 2 637),hE P "shrink" 638 (.int 2 639),hE P "figures" 640 (.int 2 641),hE P "number" 642 (.int 3 643),hE P "words" 644 (.int 3 645),hE P "cut" 646 (.int 2 647),hE P "first" 648 (.int 2 649),hE P "one" 650 (.int 2 651),hE P "out" 652 (.int 1 653),hE P "items" 654 (.int 2 655)] 11 }
def yZ (P:Params):Obj:={ cls:=.type "dict",data:=.dict #[hE P "bounds" 668 (.ref 330),hE P "scale" 670 (.ref 331),hE P "shrink" 672 (.ref 332),hE P "figures" 674 (.ref 333),hE P "number" 676 (.ref 334),hE P "words" 678 (.ref 335),hE P "cut" 680 (.ref 336),hE P "first" 682 (.ref 337),hE P "out" 685 (.ref 338),hE P "items" 687 (.ref 339)] 10 }
def y3 (P:Params):Obj:=hS [.str ("number") 669]
def y4 (P:Params):Obj:=hS [.str ("number") 671]
def y6 (P:Params):Obj:=hS [.str ("number") 673]
def y7 (P:Params):Obj:=hS [.str ("number") 675]
def y8 (P:Params):Obj:=hS [.str ("text") 677]
def y9 (P:Params):Obj:=hS [.str ("choice") 679]
def za (P:Params):Obj:=hS [.str ("text") 681]
def zb (P:Params):Obj:=hS [.str ("list") 683,.str ("rows") 684]
def zc (P:Params):Obj:=hS [.str ("list") 686]
def zd (P:Params):Obj:=hS [.str ("list") 688]
def EI (P:Params):Obj:=hS []
def EJ (P:Params):Obj:=hN
def EK (P:Params):Obj:=hS [.str ("number") 703]
def EL (P:Params):Obj:=hS []
def EM (P:Params):Obj:=hU "figures_of" "figures_of" (top 58)
def ze (P:Params):Obj:=hC "figures_of" "figures_of" 700 701 702 [.int 176 0,.int 1 0,.int 0 0,.int 0 0,.int 3 0,.ref 340,.bool true,.int 181 0,.ref 341,.none,.ref 342,.ref 343,.ref 344,.int 704 0,.int 176 0,hT 705]
def zf (P:Params):Obj:=hF "figures_of" "figures_of" "oldhands.turns" (top 58) 626 345
def EN (P:Params):Obj:=hS []
def EO (P:Params):Obj:=hN
def EQ (P:Params):Obj:=hU "number_of" "number_of" (top 59)
def zg (P:Params):Obj:=hC "number_of" "number_of" 707 708 709 [.int 178 0,.int 1 0,.int 0 0,.int 0 0,.int 3 0,.ref 347,.bool true,.int 181 0,.ref 348,.none,.none,.none,.ref 349,.int 710 0,.int 178 0,hT 711]
def zh (P:Params):Obj:=hF "number_of" "number_of" "oldhands.turns" (top 59) 626 350
def ER (P:Params):Obj:=hS []
def ES (P:Params):Obj:=hN
def ET (P:Params):Obj:=hS [.str ("number") 716,.str ("low") 717,.str ("high") 718]
def EU (P:Params):Obj:=hS []
def EV (P:Params):Obj:=hU "nearest" "nearest" (top 60)
def zi (P:Params):Obj:=hC "nearest" "nearest" 713 714 715 [.int 185 0,.int 3 0,.int 0 0,.int 0 0,.int 3 0,.ref 352,.bool true,.int 181 0,.ref 353,.none,.ref 354,.ref 355,.ref 356,.int 719 0,.int 185 0,hT 720]
def zj (P:Params):Obj:=hF "nearest" "nearest" "oldhands.turns" (top 60) 626 357
def EW (P:Params):Obj:=hS []
def EX (P:Params):Obj:=hN
def EY (P:Params):Obj:=hS [.str ("thing") 725]
def EZ (P:Params):Obj:=hS []
def E1 (P:Params):Obj:=hU "is_factor" "is_factor" (top 61)
def zk (P:Params):Obj:=hC "is_factor" "is_factor" 722 723 724 [.int 187 0,.int 1 0,.int 0 0,.int 0 0,.int 3 0,.ref 359,.bool true,.int 181 0,.ref 360,.none,.ref 361,.ref 362,.ref 363,.int 726 0,.int 187 0,hT 727]
def zl (P:Params):Obj:=hF "is_factor" "is_factor" "oldhands.turns" (top 61) 626 364
def E3 (P:Params):Obj:=hS []
def E4 (P:Params):Obj:=hN
def E5 (P:Params):Obj:=hS [.str ("turn") 732,.str ("kind") 733]
def E6 (P:Params):Obj:=hS []
def E7 (P:Params):Obj:=hU "kind_behind" "kind_behind" (top 62)
def zm (P:Params):Obj:=hC "kind_behind" "kind_behind" 729 730 731 [.int 189 0,.int 2 0,.int 0 0,.int 0 0,.int 3 0,.ref 366,.bool true,.int 181 0,.ref 367,.none,.ref 368,.ref 369,.ref 370,.int 734 0,.int 189 0,hT 735]
def zn (P:Params):Obj:=hF "kind_behind" "kind_behind" "oldhands.turns" (top 62) 626 371
def E8 (P:Params):Obj:=hS []
def E9 (P:Params):Obj:=hN
def Fa (P:Params):Obj:=hS [.str ("turn") 740,.str ("kind") 741,.str ("word") 742]
def Fb (P:Params):Obj:=hS []
def Fc (P:Params):Obj:=hU "is_turn_of" "is_turn_of" (top 63)
def zo (P:Params):Obj:=hC "is_turn_of" "is_turn_of" 737 738 739 [.int 196 0,.int 2 0,.int 0 0,.int 0 0,.int 3 0,.ref 373,.bool true,.int 181 0,.ref 374,.none,.ref 375,.ref 376,.ref 377,.int 743 0,.int 196 0,hT 744]
def zp (P:Params):Obj:=hF "is_turn_of" "is_turn_of" "oldhands.turns" (top 63) 626 378
def Fd (P:Params):Obj:=hS []
def Fe (P:Params):Obj:=hN
def Ff (P:Params):Obj:=hS [.str ("thing") 749]
def Fg (P:Params):Obj:=hS []
def Fh (P:Params):Obj:=hU "has_turn_parts" "has_turn_parts" (top 64)
def zq (P:Params):Obj:=hC "has_turn_parts" "has_turn_parts" 746 747 748 [.int 217 0,.int 1 0,.int 0 0,.int 0 0,.int 3 0,.ref 380,.bool true,.int 181 0,.ref 381,.none,.ref 382,.ref 383,.ref 384,.int 750 0,.int 217 0,hT 751]
def zr (P:Params):Obj:=hF "has_turn_parts" "has_turn_parts" "oldhands.turns" (top 64) 626 385
def Fi (P:Params):Obj:=hS []
def Fj (P:Params):Obj:=hN
def Fk (P:Params):Obj:=hS [.str ("low") 756,.str ("high") 757]
def Fm (P:Params):Obj:=hS []
def Fn (P:Params):Obj:=hU "most_figures" "most_figures" (top 65)
def zt (P:Params):Obj:=hC "most_figures" "most_figures" 753 754 755 [.int 221 0,.int 2 0,.int 0 0,.int 0 0,.int 3 0,.ref 387,.bool true,.int 181 0,.ref 388,.none,.ref 389,.ref 390,.ref 391,.int 758 0,.int 221 0,hT 759]
def zu (P:Params):Obj:=hF "most_figures" "most_figures" "oldhands.turns" (top 65) 626 392
def Fo (P:Params):Obj:=hS []
def Fp (P:Params):Obj:=hN
def Fq (P:Params):Obj:=hU "are_led_words" "are_led_words" (top 66)
def zv (P:Params):Obj:=hC "are_led_words" "are_led_words" 761 762 763 [.int 223 0,.int 3 0,.int 0 0,.int 0 0,.int 3 0,.ref 394,.bool true,.int 181 0,.ref 395,.none,.none,.none,.ref 396,.int 764 0,.int 223 0,hT 765]
def zw (P:Params):Obj:=hF "are_led_words" "are_led_words" "oldhands.turns" (top 66) 626 397
def Fr (P:Params):Obj:=hS []
def Fs (P:Params):Obj:=hN
def Ft (P:Params):Obj:=hU "words_behind" "words_behind" (top 67)
def zz (P:Params):Obj:=hC "words_behind" "words_behind" 767 768 769 [.int 238 0,.int 1 0,.int 0 0,.int 0 0,.int 3 0,.ref 399,.bool true,.int 181 0,.ref 400,.none,.none,.none,.ref 401,.int 770 0,.int 238 0,hT 771]
def zA (P:Params):Obj:=hF "words_behind" "words_behind" "oldhands.turns" (top 67) 626 402
def Fu (P:Params):Obj:=hS []
def Fv (P:Params):Obj:=hN
def Fw (P:Params):Obj:=hS [.str ("turn") 776,.str ("kind") 777,.str ("word") 778]
def Fx (P:Params):Obj:=hS []
def Fy (P:Params):Obj:=hU "led_kind" "led_kind" (top 68)
def zB (P:Params):Obj:=hC "led_kind" "led_kind" 773 774 775 [.int 240 0,.int 2 0,.int 0 0,.int 0 0,.int 3 0,.ref 404,.bool true,.int 181 0,.ref 405,.none,.ref 406,.ref 407,.ref 408,.int 779 0,.int 240 0,hT 780]
def zC (P:Params):Obj:=hF "led_kind" "led_kind" "oldhands.turns" (top 68) 626 409
def Fz (P:Params):Obj:=hS []
def FA (P:Params):Obj:=hN
def FC (P:Params):Obj:=hS [.str ("turn") 785,.str ("kind") 786,.str ("value") 787]
def FD (P:Params):Obj:=hS []
def FE (P:Params):Obj:=hU "turned" "turned" (top 69)
def zD (P:Params):Obj:=hC "turned" "turned" 782 783 784 [.int 259 0,.int 3 0,.int 0 0,.int 0 0,.int 3 0,.ref 411,.bool true,.int 181 0,.ref 412,.none,.ref 413,.ref 414,.ref 415,.int 788 0,.int 259 0,hT 789]
def zE (P:Params):Obj:=hF "turned" "turned" "oldhands.turns" (top 69) 626 416
def FF (P:Params):Obj:=hS []
def FG (P:Params):Obj:=hN
def FH (P:Params):Obj:=hU "led_value" "led_value" (top 70)
def zF (P:Params):Obj:=hC "led_value" "led_value" 791 792 793 [.int 262 0,.int 3 0,.int 0 0,.int 0 0,.int 3 0,.ref 418,.bool true,.int 181 0,.ref 419,.none,.none,.none,.ref 420,.int 794 0,.int 262 0,hT 795]
def zG (P:Params):Obj:=hF "led_value" "led_value" "oldhands.turns" (top 70) 626 421
def FI (P:Params):Obj:=hS []
def FJ (P:Params):Obj:=hN
def FL (P:Params):Obj:=hS [.str ("text") 800,.str ("kind") 801,.str ("number") 802]
def FM (P:Params):Obj:=hS []
def FN (P:Params):Obj:=hU "read_number" "read_number" (top 71)
def zH (P:Params):Obj:=hC "read_number" "read_number" 797 798 799 [.int 285 0,.int 2 0,.int 0 0,.int 0 0,.int 3 0,.ref 423,.bool true,.int 181 0,.ref 424,.none,.ref 425,.ref 426,.ref 427,.int 803 0,.int 285 0,hT 804]
def zI (P:Params):Obj:=hF "read_number" "read_number" "oldhands.turns" (top 71) 626 428
def FO (P:Params):Obj:=hS []
def FP (P:Params):Obj:=hN
def FQ (P:Params):Obj:=hS [.str ("text") 811]
def FR (P:Params):Obj:=hS []
def FS (P:Params):Obj:=hU "is_separator" "is_separator" (top 73)
def zJ (P:Params):Obj:=hC "is_separator" "is_separator" 808 809 810 [.int 291 0,.int 1 0,.int 0 0,.int 0 0,.int 3 0,.ref 430,.bool true,.int 181 0,.ref 431,.none,.ref 432,.ref 433,.ref 434,.int 812 0,.int 291 0,hT 813]
def zK (P:Params):Obj:=hF "is_separator" "is_separator" "oldhands.pieces" (top 73) 806 435
def FT (P:Params):Obj:=hS []
def FU (P:Params):Obj:=hN
def FW (P:Params):Obj:=hS [.str ("low") 818,.str ("high") 819,.str ("factor") 820]
def FX (P:Params):Obj:=hS []
def FY (P:Params):Obj:=hU "part_kinds" "part_kinds" (top 74)
def zL (P:Params):Obj:=hC "part_kinds" "part_kinds" 815 816 817 [.int 293 0,.int 3 0,.int 0 0,.int 0 0,.int 3 0,.ref 437,.bool true,.int 181 0,.ref 438,.none,.ref 439,.ref 440,.ref 441,.int 821 0,.int 293 0,hT 822]
def zM (P:Params):Obj:=hF "part_kinds" "part_kinds" "oldhands.pieces" (top 74) 806 442
def FZ (P:Params):Obj:=hS []
def F1 (P:Params):Obj:=hN
def F2 (P:Params):Obj:=hS [.str ("text") 827,.str ("separator") 828,.str ("found") 829]
def F3 (P:Params):Obj:=hS []
def F4 (P:Params):Obj:=hU "halves" "halves" (top 75)
def zN (P:Params):Obj:=hC "halves" "halves" 824 825 826 [.int 295 0,.int 2 0,.int 0 0,.int 0 0,.int 3 0,.ref 444,.bool true,.int 181 0,.ref 445,.none,.ref 446,.ref 447,.ref 448,.int 830 0,.int 295 0,hT 831]
def zO (P:Params):Obj:=hF "halves" "halves" "oldhands.pieces" (top 75) 806 449
def zP (P:Params):Obj:={ cls:=.type "dict",data:=.dict #[hE P "ahead" 837 (.str ("text") 838),hE P "behind" 839 (.str ("text") 840),hE P "parts" 841 (.str ("number") 842),hE P "rest" 843 (.str ("number") 844)] 4 }
def F5 (P:Params):Obj:=hS []
def F6 (P:Params):Obj:=hN
def F7 (P:Params):Obj:=hS [.str ("looks") 853,.str ("kind") 854,.str ("here") 855,.str ("look") 856]
def F8 (P:Params):Obj:=hS []
def F9 (P:Params):Obj:=hU "kind_looked" "kind_looked" (top 79)
def zQ (P:Params):Obj:=hC "kind_looked" "kind_looked" 850 851 852 [.int 301 0,.int 2 0,.int 0 0,.int 0 0,.int 3 0,.ref 452,.bool true,.int 181 0,.ref 453,.none,.ref 454,.ref 455,.ref 456,.int 857 0,.int 301 0,hT 858]
def zR (P:Params):Obj:=hF "kind_looked" "kind_looked" "oldhands.questions" (top 79) 833 457
def Ga (P:Params):Obj:=hS []
def Gb (P:Params):Obj:=hN
def Gc (P:Params):Obj:=hS [.str ("look") 863,.str ("kind") 864]
def Gd (P:Params):Obj:=hS []
def Ge (P:Params):Obj:=hU "kind_behind_look" "kind_behind_look" (top 80)
def zS (P:Params):Obj:=hC "kind_behind_look" "kind_behind_look" 860 861 862 [.int 308 0,.int 2 0,.int 0 0,.int 0 0,.int 3 0,.ref 459,.bool true,.int 181 0,.ref 460,.none,.ref 461,.ref 462,.ref 463,.int 865 0,.int 308 0,hT 866]
def zT (P:Params):Obj:=hF "kind_behind_look" "kind_behind_look" "oldhands.questions" (top 80) 833 464
def Gf (P:Params):Obj:=hS []
def Gg (P:Params):Obj:=hN
def Gh (P:Params):Obj:=hS [.str ("look") 871,.str ("kind") 872]
def Gi (P:Params):Obj:=hS []
def Gj (P:Params):Obj:=hU "is_half_look" "is_half_look" (top 81)
def zU (P:Params):Obj:=hC "is_half_look" "is_half_look" 868 869 870 [.int 317 0,.int 2 0,.int 0 0,.int 0 0,.int 3 0,.ref 466,.bool true,.int 181 0,.ref 467,.none,.ref 468,.ref 469,.ref 470,.int 873 0,.int 317 0,hT 874]
def zV (P:Params):Obj:=hF "is_half_look" "is_half_look" "oldhands.questions" (top 81) 833 471
def Gk (P:Params):Obj:=hS []
def Gm (P:Params):Obj:=hN
def Gp (P:Params):Obj:=hS [.str ("look") 879,.str ("kind") 880]
def Gq (P:Params):Obj:=hS []
def Gr (P:Params):Obj:=hU "is_part_look" "is_part_look" (top 82)
def zW (P:Params):Obj:=hC "is_part_look" "is_part_look" 876 877 878 [.int 319 0,.int 2 0,.int 0 0,.int 0 0,.int 3 0,.ref 473,.bool true,.int 181 0,.ref 474,.none,.ref 475,.ref 476,.ref 477,.int 881 0,.int 319 0,hT 882]
def zX (P:Params):Obj:=hF "is_part_look" "is_part_look" "oldhands.questions" (top 82) 833 478
def Gs (P:Params):Obj:=hS []
def Gu (P:Params):Obj:=hN
def Gv (P:Params):Obj:=hS [.str ("look") 887,.str ("kind") 888,.str ("sort") 889]
def Gw (P:Params):Obj:=hS []
def Gx (P:Params):Obj:=hU "has_look_form" "has_look_form" (top 83)
def zY (P:Params):Obj:=hC "has_look_form" "has_look_form" 884 885 886 [.int 321 0,.int 3 0,.int 0 0,.int 0 0,.int 3 0,.ref 480,.bool true,.int 181 0,.ref 481,.none,.ref 482,.ref 483,.ref 484,.int 890 0,.int 321 0,hT 891]
def zZ (P:Params):Obj:=hF "has_look_form" "has_look_form" "oldhands.questions" (top 83) 833 485
def Gy (P:Params):Obj:=hS []
def Gz (P:Params):Obj:=hN
def GA (P:Params):Obj:=hS [.str ("looks") 896,.str ("kind") 897,.str ("value") 898,.str ("here_kind") 899,.str ("here") 900,.str ("look") 901]
def GB (P:Params):Obj:=hS []
def GC (P:Params):Obj:=hU "looked" "looked" (top 84)
def z7 (P:Params):Obj:=hC "looked" "looked" 893 894 895 [.int 325 0,.int 3 0,.int 0 0,.int 0 0,.int 3 0,.ref 487,.bool true,.int 181 0,.ref 488,.none,.ref 489,.ref 490,.ref 491,.int 902 0,.int 325 0,hT 903]
def z8 (P:Params):Obj:=hF "looked" "looked" "oldhands.questions" (top 84) 833 492
def GD (P:Params):Obj:=hS []
def GE (P:Params):Obj:=hN
def GF (P:Params):Obj:=hS [.str ("look") 908,.str ("kind") 909,.str ("value") 910,.str ("word") 911]
def GG (P:Params):Obj:=hS []
def GH (P:Params):Obj:=hU "value_behind_look" "value_behind_look" (top 85)
def z9 (P:Params):Obj:=hC "value_behind_look" "value_behind_look" 905 906 907 [.int 333 0,.int 3 0,.int 0 0,.int 0 0,.int 3 0,.ref 494,.bool true,.int 181 0,.ref 495,.none,.ref 496,.ref 497,.ref 498,.int 912 0,.int 333 0,hT 913]
def Aa (P:Params):Obj:=hF "value_behind_look" "value_behind_look" "oldhands.questions" (top 85) 833 499
def GI (P:Params):Obj:=hS []
def GJ (P:Params):Obj:=hN
def GL (P:Params):Obj:=hS [.str ("cell") 920,.str ("k") 921,.str ("stir") 922]
def GM (P:Params):Obj:=hS []
def GN (P:Params):Obj:=hU "_law_mixed" "_law_mixed" (top 87)
def Ab (P:Params):Obj:=hC "_law_mixed" "_law_mixed" 917 918 919 [.int 345 0,.int 2 0,.int 0 0,.int 0 0,.int 3 0,.ref 501,.bool true,.int 181 0,.ref 502,.none,.ref 503,.ref 504,.ref 505,.int 923 0,.int 345 0,hT 924]
def Ac (P:Params):Obj:=hF "_law_mixed" "_law_mixed" "law_oldhands_k73_looks" (top 87) 915 506
def GO (P:Params):Obj:=hS []
def GP (P:Params):Obj:=hN
def GQ (P:Params):Obj:=hS [.str ("script") 929,.str ("k") 930,.str ("cell") 931,.str ("j") 932,.str ("found") 933]
def GR (P:Params):Obj:=hS []
def GS (P:Params):Obj:=hU "_law_stream" "_law_stream" (top 88)
def Ad (P:Params):Obj:=hC "_law_stream" "_law_stream" 926 927 928 [.int 348 0,.int 2 0,.int 0 0,.int 0 0,.int 3 0,.ref 508,.bool true,.int 181 0,.ref 509,.none,.ref 510,.ref 511,.ref 512,.int 934 0,.int 348 0,hT 935]
def Ae (P:Params):Obj:=hF "_law_stream" "_law_stream" "law_oldhands_k73_looks" (top 88) 915 513
def GU (P:Params):Obj:=hS []
def GV (P:Params):Obj:=hN
def GW (P:Params):Obj:=hS [.str ("row") 940,.str ("many") 941,.str ("digit") 942]
def GX (P:Params):Obj:=hS []
def GY (P:Params):Obj:=hU "_law_digit" "_law_digit" (top 89)
def Af (P:Params):Obj:=hC "_law_digit" "_law_digit" 937 938 939 [.int 358 0,.int 2 0,.int 0 0,.int 0 0,.int 3 0,.ref 515,.bool true,.int 181 0,.ref 516,.none,.ref 517,.ref 518,.ref 519,.int 943 0,.int 358 0,hT 944]
def Ag (P:Params):Obj:=hF "_law_digit" "_law_digit" "law_oldhands_k73_looks" (top 89) 915 520
def GZ (P:Params):Obj:=hS []
def G0 (P:Params):Obj:=hN
def G7 (P:Params):Obj:=hS [.str ("row") 949,.str ("way") 950,.str ("low") 951]
def G8 (P:Params):Obj:=hS []
def G9 (P:Params):Obj:=hU "_law_leaf" "_law_leaf" (top 90)
def Ah (P:Params):Obj:=hC "_law_leaf" "_law_leaf" 946 947 948 [.int 362 0,.int 1 0,.int 0 0,.int 0 0,.int 3 0,.ref 522,.bool true,.int 181 0,.ref 523,.none,.ref 524,.ref 525,.ref 526,.int 952 0,.int 362 0,hT 953]
def Ai (P:Params):Obj:=hF "_law_leaf" "_law_leaf" "law_oldhands_k73_looks" (top 90) 915 527
def Ha (P:Params):Obj:=hS []
def Hb (P:Params):Obj:=hN
def Hc (P:Params):Obj:=hS [.str ("row") 958,.str ("most") 959,.str ("text") 960,.str ("k") 961]
def Hd (P:Params):Obj:=hS []
def He (P:Params):Obj:=hU "_law_text" "_law_text" (top 91)
def Aj (P:Params):Obj:=hC "_law_text" "_law_text" 955 956 957 [.int 370 0,.int 2 0,.int 0 0,.int 0 0,.int 3 0,.ref 529,.bool true,.int 181 0,.ref 530,.none,.ref 531,.ref 532,.ref 533,.int 962 0,.int 370 0,hT 963]
def Ak (P:Params):Obj:=hF "_law_text" "_law_text" "law_oldhands_k73_looks" (top 91) 915 534
def Hf (P:Params):Obj:=hS []
def Hg (P:Params):Obj:=hN
def Hh (P:Params):Obj:=hS [.str ("row") 968,.str ("low") 969,.str ("high") 970,.str ("way") 971]
def Hi (P:Params):Obj:=hS []
def Hj (P:Params):Obj:=hU "_law_number" "_law_number" (top 92)
def Al (P:Params):Obj:=hC "_law_number" "_law_number" 965 966 967 [.int 375 0,.int 3 0,.int 0 0,.int 0 0,.int 3 0,.ref 536,.bool true,.int 181 0,.ref 537,.none,.ref 538,.ref 539,.ref 540,.int 972 0,.int 375 0,hT 973]
def Am (P:Params):Obj:=hF "_law_number" "_law_number" "law_oldhands_k73_looks" (top 92) 915 541
def Hk (P:Params):Obj:=hS []
def Hl (P:Params):Obj:=hN
def Hm (P:Params):Obj:=hU "_law_value" "_law_value" (top 93)
def An (P:Params):Obj:=hC "_law_value" "_law_value" 975 976 977 [.int 382 0,.int 2 0,.int 0 0,.int 0 0,.int 3 0,.ref 543,.bool true,.int 181 0,.ref 544,.none,.none,.none,.ref 545,.int 978 0,.int 382 0,hT 979]
def Ao (P:Params):Obj:=hF "_law_value" "_law_value" "law_oldhands_k73_looks" (top 93) 915 546
def Hn (P:Params):Obj:=hS []
def Ho (P:Params):Obj:=hN
def Hq (P:Params):Obj:=hU "_law_kinds" "_law_kinds" (top 94)
def Ap (P:Params):Obj:=hC "_law_kinds" "_law_kinds" 981 982 983 [.int 390 0,.int 1 0,.int 0 0,.int 0 0,.int 3 0,.ref 548,.bool true,.int 181 0,.ref 549,.none,.none,.none,.ref 550,.int 984 0,.int 390 0,hT 985]
def Aq (P:Params):Obj:=hF "_law_kinds" "_law_kinds" "law_oldhands_k73_looks" (top 94) 915 551
def Hr (P:Params):Obj:=hS []
def Hs (P:Params):Obj:=hN
def Ht (P:Params):Obj:=hS [.str ("kind") 990]
def Hu (P:Params):Obj:=hS []
def Hv (P:Params):Obj:=hU "_law_deep" "_law_deep" (top 95)
def Ar (P:Params):Obj:=hC "_law_deep" "_law_deep" 987 988 989 [.int 396 0,.int 1 0,.int 0 0,.int 0 0,.int 3 0,.ref 553,.bool true,.int 181 0,.ref 554,.none,.ref 555,.ref 556,.ref 557,.int 991 0,.int 396 0,hT 992]
def As (P:Params):Obj:=hF "_law_deep" "_law_deep" "law_oldhands_k73_looks" (top 95) 915 558
def Hw (P:Params):Obj:=hS []
def Hx (P:Params):Obj:=hN
def Hy (P:Params):Obj:=hU "_law_look_for" "_law_look_for" (top 96)
def At (P:Params):Obj:=hC "_law_look_for" "_law_look_for" 994 995 996 [.int 400 0,.int 2 0,.int 0 0,.int 0 0,.int 3 0,.ref 560,.bool true,.int 181 0,.ref 561,.none,.none,.none,.ref 562,.int 997 0,.int 400 0,hT 998]
def Au (P:Params):Obj:=hF "_law_look_for" "_law_look_for" "law_oldhands_k73_looks" (top 96) 915 563
def Hz (P:Params):Obj:=hS []
def HA (P:Params):Obj:=hN
def HB (P:Params):Obj:=hS [.str ("look") 1003,.str ("kind") 1004,.str ("value") 1005,.str ("word") 1006,.str ("at") 1007,.str ("k") 1008,.str ("part") 1009]
def HD (P:Params):Obj:=hS []
def HE (P:Params):Obj:=hU "_law_next" "_law_next" (top 97)
def Av (P:Params):Obj:=hC "_law_next" "_law_next" 1000 1001 1002 [.int 423 0,.int 3 0,.int 0 0,.int 0 0,.int 3 0,.ref 565,.bool true,.int 181 0,.ref 566,.none,.ref 567,.ref 568,.ref 569,.int 1010 0,.int 423 0,hT 1011]
def Aw (P:Params):Obj:=hF "_law_next" "_law_next" "law_oldhands_k73_looks" (top 97) 915 570
def HF (P:Params):Obj:=hS []
def HG (P:Params):Obj:=hN
def HH (P:Params):Obj:=hS [.str ("row") 1016,.str ("kind") 1017,.str ("some") 1018]
def HI (P:Params):Obj:=hS []
def HJ (P:Params):Obj:=hU "_law_odd" "_law_odd" (top 98)
def Ax (P:Params):Obj:=hC "_law_odd" "_law_odd" 1013 1014 1015 [.int 437 0,.int 2 0,.int 0 0,.int 0 0,.int 3 0,.ref 572,.bool true,.int 181 0,.ref 573,.none,.ref 574,.ref 575,.ref 576,.int 1019 0,.int 437 0,hT 1020]
def Ay (P:Params):Obj:=hF "_law_odd" "_law_odd" "law_oldhands_k73_looks" (top 98) 915 577
def HK (P:Params):Obj:=hS []
def HL (P:Params):Obj:=hN
def HM (P:Params):Obj:=hS [.str ("way") 1025,.str ("looks") 1026,.str ("kind") 1027,.str ("value") 1028,.str ("heard") 1029,.str ("e") 1030]
def HN (P:Params):Obj:=hS []
def HP (P:Params):Obj:=hU "_law_heard" "_law_heard" (top 99)
def Az (P:Params):Obj:=hC "_law_heard" "_law_heard" 1022 1023 1024 [.int 448 0,.int 4 0,.int 0 0,.int 0 0,.int 3 0,.ref 579,.bool true,.int 181 0,.ref 580,.none,.ref 581,.ref 582,.ref 583,.int 1031 0,.int 448 0,hT 1032]
def AA (P:Params):Obj:=hF "_law_heard" "_law_heard" "law_oldhands_k73_looks" (top 99) 915 584
def HQ (P:Params):Obj:=hS []
def HR (P:Params):Obj:=hN
def HS (P:Params):Obj:=hS [.str ("looks") 1037,.str ("kind") 1038,.str ("value") 1039]
def HU (P:Params):Obj:=hS []
def HV (P:Params):Obj:=hU "_law_refused" "_law_refused" (top 100)
def AB (P:Params):Obj:=hC "_law_refused" "_law_refused" 1034 1035 1036 [.int 458 0,.int 3 0,.int 0 0,.int 0 0,.int 3 0,.ref 586,.bool true,.int 181 0,.ref 587,.none,.ref 588,.ref 589,.ref 590,.int 1040 0,.int 458 0,hT 1041]
def AC (P:Params):Obj:=hF "_law_refused" "_law_refused" "law_oldhands_k73_looks" (top 100) 915 591
def HW (P:Params):Obj:=hS []
def HX (P:Params):Obj:=hN
def HY (P:Params):Obj:=hS [.str ("row") 1046,.str ("kind") 1047,.str ("value") 1048,.str ("many") 1049,.str ("looks") 1050,.str ("first") 1051,.str ("k") 1052,.str ("look") 1053]
def HZ (P:Params):Obj:=hS []
def Ia (P:Params):Obj:=hU "_law_one" "_law_one" (top 101)
def AD (P:Params):Obj:=hC "_law_one" "_law_one" 1043 1044 1045 [.int 460 0,.int 4 0,.int 0 0,.int 0 0,.int 3 0,.ref 593,.bool true,.int 181 0,.ref 594,.none,.ref 595,.ref 596,.ref 597,.int 1054 0,.int 460 0,hT 1055]
def AE (P:Params):Obj:=hF "_law_one" "_law_one" "law_oldhands_k73_looks" (top 101) 915 598
def Ig (P:Params):Obj:=hS []
def Ih (P:Params):Obj:=hN
def Ii (P:Params):Obj:=hS [.str ("script") 1060,.str ("k") 1061,.str ("row") 1062,.str ("kind") 1063]
def Ij (P:Params):Obj:=hS []
def Ik (P:Params):Obj:=hU "law" "law" (top 102)
def AF (P:Params):Obj:=hC "law" "law" 1057 1058 1059 [.int 478 0,.int 1 0,.int 0 0,.int 0 0,.int 3 0,.ref 600,.bool true,.int 181 0,.ref 601,.none,.ref 602,.ref 603,.ref 604,.int 1064 0,.int 478 0,hT 1065]
def AG (P:Params):Obj:=hF "law" "law" "law_oldhands_k73_looks" (top 102) 915 605
abbrev N (v:Obj) (l r:W.BT):W.BT:=.node v l r
abbrev E:W.BT:=.nil
def fT (P:Params):W.BT:=N (o0 P) (N (o1 P) (N (o3 P) (N (o7 P) (N o15 (N o11 (N o63 (N (Ci P) (N (DP P) (N (GR P) E E) E) (N (Fg P) E E)) (N (yd P) (N (yU P) (N (HI P) E E) E) (N (F3 P) E E))) (N o11 (N (CF P) (N (Eg P) (N (Hk P) E E) E) (N (FE P) E E)) (N (ym P) (N (zh P) E E) (N (zX P) E E)))) (N o11 (N o11 (N (xN P) (N (DZ P) (N (Ah P) E E) E) (N (Fr P) E E)) (N (Dg P) (N (y9 P) (N (AB P) E E) E) (N (Ge P) E E))) (N (BY P) (N (CS P) (N (yP P) (N (As P) E E) E) (N (FP P) E E)) (N (DD P) (N (E4 P) E E) (N (GE P) E E))))) (N (o23 P) (N o39 (N o11 (N (Cn P) (N (DT P) (N (GY P) E E) E) (N (Fn P) E E)) (N (Da P) (N (yX P) (N (HP P) E E) E) (N (F8 P) E E))) (N (BS P) (N (xV P) (N (Em P) (N (Ap P) E E) E) (N (FI P) E E)) (N (Dx P) (N (EW P) E E) (N (Gy P) E E)))) (N o11 (N o87 (N (Cz P) (N (Ec P) (N (Ak P) E E) E) (N (Fx P) E E)) (N (Dm P) (N (EL P) (N (AE P) E E) E) (N (zU P) E E))) (N (xF P) (N (ya P) (N (Ex P) (N (HB P) E E) E) (N (FW P) E E)) (N (DJ P) (N (Fa P) E E) (N (GL P) E E)))))) (N o11 (N o19 (N o11 (N o11 (N (xJ P) (N (DR P) (N (GU P) E E) E) (N (Fi P) E E)) (N (C8 P) (N (EF P) (N (HK P) E E) E) (N (zP P) E E))) (N o99 (N (CJ P) (N (Ek P) (N (Ao P) E E) E) (N (FG P) E E)) (N (Dv P) (N (EU P) E E) (N (Gw P) E E)))) (N o51 (N o11 (N (Cv P) (N (D5 P) (N (Hc P) E E) E) (N (zA P) E E)) (N (yi P) (N (zd P) (N (HY P) E E) E) (N (Gg P) E E))) (N (Ca P) (N (CU P) (N (Ev P) (N (At P) E E) E) (N (zJ P) E E)) (N (yu P) (N (zm P) E E) (N (z9 P) E E))))) (N o27 (N o11 (N o75 (N (Cq P) (N (yC P) (N (G0 P) E E) E) (N (Fp P) E E)) (N (De P) (N (y4 P) (N (HR P) E E) E) (N (Ga P) E E))) (N (xA P) (N (CO P) (N (Eo P) (N (Ht P) E E) E) (N (FN P) E E)) (N (yq P) (N (E1 P) E E) (N (GC P) E E)))) (N o11 (N o11 (N (xR P) (N (Ee P) (N (Hi P) E E) E) (N (Fz P) E E)) (N (yl P) (N (EN P) (N (Ij P) E E) E) (N (Gp P) E E))) (N (Cf P) (N (C2 P) (N (yT P) (N (Aw P) E E) E) (N (zM P) E E)) (N (DL P) (N (zp P) E E) (N (Ac P) E E))))))) (N (o5 P) (N (o9 P) (N (o17 P) (N o33 (N o16 (N (Ck P) (N (yy P) (N (Ad P) E E) E) (N (zq P) E E)) (N (C6 P) (N (ED P) (N (Ax P) E E) E) (N (zN P) E E))) (N o97 (N (CG P) (N (Ei P) (N (Hm P) E E) E) (N (zE P) E E)) (N (Ds P) (N (ES P) E E) (N (Gu P) E E)))) (N o49 (N o81 (N (xP P) (N (yD P) (N (Ha P) E E) E) (N (Ft P) E E)) (N (Di P) (N (zb P) (N (HW P) E E) E) (N (zT P) E E))) (N (BZ P) (N (x9 P) (N (Et P) (N (Hx P) E E) E) (N (FR P) E E)) (N (DF P) (N (E6 P) E E) (N (GG P) E E))))) (N o25 (N o16 (N o73 (N (Co P) (N (DV P) (N (Ag P) E E) E) (N (zu P) E E)) (N (Dc P) (N (yZ P) (N (AA P) E E) E) (N (zQ P) E E))) (N (BV P) (N (xX P) (N (yL P) (N (Hr P) E E) E) (N (FL P) E E)) (N (Dz P) (N (EY P) E E) (N (GA P) E E)))) (N o57 (N o16 (N (CB P) (N (yG P) (N (Hg P) E E) E) (N (zB P) E E)) (N (Do P) (N (ze P) (N (Ih P) E E) E) (N (Gk P) E E))) (N (xH P) (N (CZ P) (N (Ez P) (N (HE P) E E) E) (N (FY P) E E)) (N (yv P) (N (Fc P) E E) (N (GN P) E E)))))) (N o13 (N o21 (N o37 (N o69 (N (xL P) (N (yz P) (N (GW P) E E) E) (N (Fk P) E E)) (N (ye P) (N (EH P) (N (HM P) E E) E) (N (F6 P) E E))) (N (BQ P) (N (CL P) (N (yK P) (N (Ho P) E E) E) (N (zF P) E E)) (N (yp P) (N (zi P) E E) (N (zY P) E E)))) (N o16 (N o85 (N (Cw P) (N (Ea P) (N (He P) E E) E) (N (Fv P) E E)) (N (Dk P) (N (EJ P) (N (Ia P) E E) E) (N (Gi P) E E))) (N (Cc P) (N (CW P) (N (yQ P) (N (Hz P) E E) E) (N (FT P) E E)) (N (DH P) (N (E8 P) E E) (N (GI P) E E))))) (N o16 (N o45 (N o16 (N (Cs P) (N (DX P) (N (G8 P) E E) E) (N (zv P) E E)) (N (yh P) (N (y7 P) (N (HU P) E E) E) (N (Gc P) E E))) (N (xD P) (N (CP P) (N (Er P) (N (Hv P) E E) E) (N (zI P) E E)) (N (DB P) (N (zl P) E E) (N (z8 P) E E)))) (N o61 (N o93 (N (xT P) (N (yH P) (N (Al P) E E) E) (N (FC P) E E)) (N (Dq P) (N (EQ P) (N (AF P) E E) E) (N (Gr P) E E))) (N (Cg P) (N (C4 P) (N (EB P) (N (HG P) E E) E) (N (F1 P) E E)) (N (DN P) (N (Fe P) E E) (N (GP P) E E)))))))) (N (o2 P) (N (o4 P) (N (o8 P) (N o16 (N o19 (N o28 (N (Cj P) (N (yx P) (N (GS P) E E) E) (N (Fh P) E E)) (N (C5 P) (N (yV P) (N (HJ P) E E) E) (N (F4 P) E E))) (N (o96 P) (N (xU P) (N (Eh P) (N (Hl P) E E) E) (N (zD P) E E)) (N (yn P) (N (ER P) E E) (N (Gs P) E E)))) (N (o48 P) (N o19 (N (xO P) (N (D4 P) (N (Ai P) E E) E) (N (Fs P) E E)) (N (Dh P) (N (za P) (N (AC P) E E) E) (N (zS P) E E))) (N (xE P) (N (xZ P) (N (Es P) (N (Hw P) E E) E) (N (FQ P) E E)) (N (DE P) (N (E5 P) E E) (N (GF P) E E))))) (N o24 (N o28 (N (o72 P) (N (xM P) (N (DU P) (N (Af P) E E) E) (N (zt P) E E)) (N (Db P) (N (yY P) (N (Az P) E E) E) (N (F9 P) E E))) (N (BU P) (N (xW P) (N (En P) (N (Aq P) E E) E) (N (FJ P) E E)) (N (Dy P) (N (EX P) E E) (N (Gz P) E E)))) (N o19 (N o28 (N (CA P) (N (yF P) (N (Hf P) E E) E) (N (Fy P) E E)) (N (Dn P) (N (EM P) (N (Ig P) E E) E) (N (zV P) E E))) (N (xG P) (N (yb P) (N (Ey P) (N (HD P) E E) E) (N (FX P) E E)) (N (DK P) (N (Fb P) E E) (N (GM P) E E)))))) (N o12 (N o20 (N (o36 P) (N o19 (N (xK P) (N (DS P) (N (GV P) E E) E) (N (Fj P) E E)) (N (C9 P) (N (EG P) (N (HL P) E E) E) (N (F5 P) E E))) (N (xz P) (N (CK P) (N (yJ P) (N (Hn P) E E) E) (N (FH P) E E)) (N (yo P) (N (EV P) E E) (N (Gx P) E E)))) (N o28 (N (o84 P) (N (xQ P) (N (D9 P) (N (Hd P) E E) E) (N (Fu P) E E)) (N (yj P) (N (EI P) (N (HZ P) E E) E) (N (Gh P) E E))) (N (Cb P) (N (CV P) (N (Ew P) (N (Au P) E E) E) (N (zK P) E E)) (N (DG P) (N (zn P) E E) (N (Aa P) E E))))) (N o28 (N o19 (N o28 (N (Cr P) (N (DW P) (N (G7 P) E E) E) (N (Fq P) E E)) (N (yg P) (N (y6 P) (N (HS P) E E) E) (N (Gb P) E E))) (N (xB P) (N (xY P) (N (Ep P) (N (Hu P) E E) E) (N (zH P) E E)) (N (yr P) (N (zk P) E E) (N (z7 P) E E)))) (N (o60 P) (N o19 (N (xS P) (N (Ef P) (N (Hj P) E E) E) (N (FA P) E E)) (N (Dp P) (N (EO P) (N (Ik P) E E) E) (N (Gq P) E E))) (N (xI P) (N (C3 P) (N (EA P) (N (HF P) E E) E) (N (FZ P) E E)) (N (DM P) (N (Fd P) E E) (N (GO P) E E))))))) (N (o6 P) (N (o10 P) (N o11 (N o34 (N (o66 P) (N (Cl P) (N (DQ P) (N (Ae P) E E) E) (N (zr P) E E)) (N (C7 P) (N (EE P) (N (Ay P) E E) E) (N (zO P) E E))) (N o98 (N (CI P) (N (Ej P) (N (An P) E E) E) (N (FF P) E E)) (N (Du P) (N (ET P) E E) (N (Gv P) E E)))) (N o50 (N o82 (N (Cu P) (N (yE P) (N (Hb P) E E) E) (N (zz P) E E)) (N (Dj P) (N (zc P) (N (HX P) E E) E) (N (Gf P) E E))) (N (B9 P) (N (CT P) (N (Eu P) (N (Hy P) E E) E) (N (FS P) E E)) (N (yt P) (N (E7 P) E E) (N (GH P) E E))))) (N o26 (N (o42 P) (N o74 (N (Cp P) (N (yB P) (N (GZ P) E E) E) (N (Fo P) E E)) (N (Dd P) (N (y3 P) (N (HQ P) E E) E) (N (zR P) E E))) (N (BW P) (N (CN P) (N (yM P) (N (Hs P) E E) E) (N (FM P) E E)) (N (DA P) (N (EZ P) E E) (N (GB P) E E)))) (N o58 (N (o90 P) (N (CC P) (N (Ed P) (N (Hh P) E E) E) (N (zC P) E E)) (N (yk P) (N (zf P) (N (Ii P) E E) E) (N (Gm P) E E))) (N (Ce P) (N (C1 P) (N (yS P) (N (Av P) E E) E) (N (zL P) E E)) (N (yw P) (N (zo P) E E) (N (Ab P) E E)))))) (N o14 (N o11 (N o38 (N o70 (N (Cm P) (N (yA P) (N (GX P) E E) E) (N (Fm P) E E)) (N (yf P) (N (yW P) (N (HN P) E E) E) (N (F7 P) E E))) (N (BR P) (N (CM P) (N (El P) (N (Hq P) E E) E) (N (zG P) E E)) (N (Dw P) (N (zj P) E E) (N (zZ P) E E)))) (N (o54 P) (N o86 (N (Cy P) (N (Eb P) (N (Aj P) E E) E) (N (Fw P) E E)) (N (Dl P) (N (EK P) (N (AD P) E E) E) (N (Gj P) E E))) (N (Cd P) (N (CY P) (N (yR P) (N (HA P) E E) E) (N (FU P) E E)) (N (DI P) (N (E9 P) E E) (N (GJ P) E E))))) (N (o30 P) (N o46 (N (o78 P) (N (Ct P) (N (DY P) (N (G9 P) E E) E) (N (zw P) E E)) (N (Df P) (N (y8 P) (N (HV P) E E) E) (N (Gd P) E E))) (N (BX P) (N (CQ P) (N (yN P) (N (Ar P) E E) E) (N (FO P) E E)) (N (DC P) (N (E3 P) E E) (N (GD P) E E)))) (N o62 (N o94 (N (CD P) (N (yI P) (N (Am P) E E) E) (N (FD P) E E)) (N (Dr P) (N (zg P) (N (AG P) E E) E) (N (zW P) E E))) (N (Ch P) (N (yc P) (N (EC P) (N (HH P) E E) E) (N (F2 P) E E)) (N (DO P) (N (Ff P) E E) (N (GQ P) E E))))))))
def fO (P:Params) (i:Nat):Obj:=match (fT P).get i with | some v=>v | none=>hN
def mT (P:Params) (n:Nat):Nat->Nat->Nat->W.BT
 | 0,_,_=>.nil
 | k+1,a,b=>match Nat.blt b n with
  | true=>.node (fO P b) (mT P n k (Nat.mul 2 a) (Nat.add a b)) (mT P n k (Nat.mul 2 a) (Nat.add (Nat.mul 2 a) b))
  | false=>.nil
abbrev hA1:Option Value:=some (.ref 6)
abbrev hB1:List Frame:=[W.topFrame ⟨0,0,0,0⟩]
def bd:Env:={ scope:=pwX.main.scope,locals:=mainNs,globals:=mainNs,cells:=[],code:=.ref 13,frame:=some 14 }
abbrev hCo:Code:=.body (W.behindTheImports pwX) bd
def hp0 (P:Params):Heap:=⟨Array.mk (o0 P :: o1 P :: o2 P :: (gD P "__main__" 164 8 9) :: o4 P :: o5 P :: o6 P :: o7 P :: o8 P :: o9 P :: o10 P :: o11 :: (tD 0) :: o13 :: o14 :: []),{}⟩
def tB (P:Params):W.BT:=((mT P 15 11 1 0).set 3 (λ_=>gD P "__main__" 164 8 9)).set 12 (λ_=>tD 0)
def sB (w:World) (os:OsState):W.SharedT:=⟨tB w.params,15,{},Array.mk [],{},187,os⟩
def t0 (P:Params):W.BT:=(((mT P 28 11 1 0).set 3 (λ_=>gD P "oldhands.errors" 187 9 10)).set 12 (λ_=>tD 3)).set 24 (λ_=>{ cls:=.type "type",data:=.cls { name:= "HandError",bases:=[.type "ValueError"],mro:=[.ref 24,.type "ValueError",.type "Exception",.type "BaseException",.type "object"],ns:=23,qualname:= "HandError" },slots:=#[some (.ref 15),none,some (.str ("HandError") 189),some (.str ("HandError") 197),some (.builtin "ValueError.__new__"),some (.bool true)] })
def s0 (w:World) (os:OsState):W.SharedT:=⟨t0 w.params,28,{},Array.mk [],{},207,os⟩
def st0:List Stmt:=((W.behindTheImports pwX).drop 0).take 2
def t1 (P:Params):W.BT:=(((mT P 40 11 1 0).set 3 (λ_=>gD P "oldhands.errors" 187 10 11)).set 12 (λ_=>tD 6)).set 24 (λ_=>{ cls:=.type "type",data:=.cls { name:= "HandError",bases:=[.type "ValueError"],mro:=[.ref 24,.type "ValueError",.type "Exception",.type "BaseException",.type "object"],ns:=23,qualname:= "HandError",subclasses:=[.ref 37] },slots:=#[some (.ref 15),none,some (.str ("HandError") 189),some (.str ("HandError") 197),some (.builtin "ValueError.__new__"),some (.bool true)] })
def s1 (w:World) (os:OsState):W.SharedT:=⟨t1 w.params,40,{},Array.mk [],{},223,os⟩
def st1:List Stmt:=((W.behindTheImports pwX).drop 2).take 1
def t2 (P:Params):W.BT:=(((mT P 52 11 1 0).set 3 (λ_=>gD P "oldhands.errors" 187 11 12)).set 12 (λ_=>tD 9)).set 24 (λ_=>{ cls:=.type "type",data:=.cls { name:= "HandError",bases:=[.type "ValueError"],mro:=[.ref 24,.type "ValueError",.type "Exception",.type "BaseException",.type "object"],ns:=23,qualname:= "HandError",subclasses:=[.ref 37,.ref 49] },slots:=#[some (.ref 15),none,some (.str ("HandError") 189),some (.str ("HandError") 197),some (.builtin "ValueError.__new__"),some (.bool true)] })
def s2 (w:World) (os:OsState):W.SharedT:=⟨t2 w.params,52,{},Array.mk [],{},239,os⟩
def st2:List Stmt:=((W.behindTheImports pwX).drop 3).take 1
def t3 (P:Params):W.BT:=(((mT P 64 11 1 0).set 3 (λ_=>gD P "oldhands.errors" 187 12 13)).set 12 (λ_=>tD 12)).set 24 (λ_=>{ cls:=.type "type",data:=.cls { name:= "HandError",bases:=[.type "ValueError"],mro:=[.ref 24,.type "ValueError",.type "Exception",.type "BaseException",.type "object"],ns:=23,qualname:= "HandError",subclasses:=[.ref 37,.ref 49,.ref 61] },slots:=#[some (.ref 15),none,some (.str ("HandError") 189),some (.str ("HandError") 197),some (.builtin "ValueError.__new__"),some (.bool true)] })
def s3 (w:World) (os:OsState):W.SharedT:=⟨t3 w.params,64,{},Array.mk [],{},255,os⟩
def st3:List Stmt:=((W.behindTheImports pwX).drop 4).take 1
def t4 (P:Params):W.BT:=(((mT P 76 11 1 0).set 3 (λ_=>gD P "oldhands.errors" 187 13 14)).set 12 (λ_=>tD 15)).set 24 (λ_=>{ cls:=.type "type",data:=.cls { name:= "HandError",bases:=[.type "ValueError"],mro:=[.ref 24,.type "ValueError",.type "Exception",.type "BaseException",.type "object"],ns:=23,qualname:= "HandError",subclasses:=[.ref 37,.ref 49,.ref 61,.ref 73] },slots:=#[some (.ref 15),none,some (.str ("HandError") 189),some (.str ("HandError") 197),some (.builtin "ValueError.__new__"),some (.bool true)] })
def s4 (w:World) (os:OsState):W.SharedT:=⟨t4 w.params,76,{},Array.mk [],{},271,os⟩
def st4:List Stmt:=((W.behindTheImports pwX).drop 5).take 1
def t5 (P:Params):W.BT:=(((mT P 88 11 1 0).set 3 (λ_=>gD P "oldhands.errors" 187 14 15)).set 12 (λ_=>tD 18)).set 24 (λ_=>{ cls:=.type "type",data:=.cls { name:= "HandError",bases:=[.type "ValueError"],mro:=[.ref 24,.type "ValueError",.type "Exception",.type "BaseException",.type "object"],ns:=23,qualname:= "HandError",subclasses:=[.ref 37,.ref 49,.ref 61,.ref 73,.ref 85] },slots:=#[some (.ref 15),none,some (.str ("HandError") 189),some (.str ("HandError") 197),some (.builtin "ValueError.__new__"),some (.bool true)] })
def s5 (w:World) (os:OsState):W.SharedT:=⟨t5 w.params,88,{},Array.mk [],{},287,os⟩
def st5:List Stmt:=((W.behindTheImports pwX).drop 6).take 1
def t6 (P:Params):W.BT:=(((mT P 100 11 1 0).set 3 (λ_=>gD P "oldhands.errors" 187 15 16)).set 12 (λ_=>tD 21)).set 24 (λ_=>{ cls:=.type "type",data:=.cls { name:= "HandError",bases:=[.type "ValueError"],mro:=[.ref 24,.type "ValueError",.type "Exception",.type "BaseException",.type "object"],ns:=23,qualname:= "HandError",subclasses:=[.ref 37,.ref 49,.ref 61,.ref 73,.ref 85,.ref 97] },slots:=#[some (.ref 15),none,some (.str ("HandError") 189),some (.str ("HandError") 197),some (.builtin "ValueError.__new__"),some (.bool true)] })
def s6 (w:World) (os:OsState):W.SharedT:=⟨t6 w.params,100,{},Array.mk [],{},303,os⟩
def st6:List Stmt:=((W.behindTheImports pwX).drop 7).take 1
def t7 (P:Params):W.BT:=(((mT P 112 11 1 0).set 3 (λ_=>gD P "oldhands.errors" 187 16 17)).set 12 (λ_=>tD 24)).set 24 (λ_=>{ cls:=.type "type",data:=.cls { name:= "HandError",bases:=[.type "ValueError"],mro:=[.ref 24,.type "ValueError",.type "Exception",.type "BaseException",.type "object"],ns:=23,qualname:= "HandError",subclasses:=[.ref 37,.ref 49,.ref 61,.ref 73,.ref 85,.ref 97,.ref 109] },slots:=#[some (.ref 15),none,some (.str ("HandError") 189),some (.str ("HandError") 197),some (.builtin "ValueError.__new__"),some (.bool true)] })
def s7 (w:World) (os:OsState):W.SharedT:=⟨t7 w.params,112,{},Array.mk [],{},319,os⟩
def st7:List Stmt:=((W.behindTheImports pwX).drop 8).take 1
def t8 (P:Params):W.BT:=(((mT P 124 11 1 0).set 3 (λ_=>gD P "oldhands.errors" 187 17 18)).set 12 (λ_=>tD 27)).set 24 (λ_=>{ cls:=.type "type",data:=.cls { name:= "HandError",bases:=[.type "ValueError"],mro:=[.ref 24,.type "ValueError",.type "Exception",.type "BaseException",.type "object"],ns:=23,qualname:= "HandError",subclasses:=[.ref 37,.ref 49,.ref 61,.ref 73,.ref 85,.ref 97,.ref 109,.ref 121] },slots:=#[some (.ref 15),none,some (.str ("HandError") 189),some (.str ("HandError") 197),some (.builtin "ValueError.__new__"),some (.bool true)] })
def s8 (w:World) (os:OsState):W.SharedT:=⟨t8 w.params,124,{},Array.mk [],{},335,os⟩
def st8:List Stmt:=((W.behindTheImports pwX).drop 9).take 1
def t9 (P:Params):W.BT:=(((mT P 136 11 1 0).set 3 (λ_=>gD P "oldhands.errors" 187 18 19)).set 12 (λ_=>tD 30)).set 24 (λ_=>{ cls:=.type "type",data:=.cls { name:= "HandError",bases:=[.type "ValueError"],mro:=[.ref 24,.type "ValueError",.type "Exception",.type "BaseException",.type "object"],ns:=23,qualname:= "HandError",subclasses:=[.ref 37,.ref 49,.ref 61,.ref 73,.ref 85,.ref 97,.ref 109,.ref 121,.ref 133] },slots:=#[some (.ref 15),none,some (.str ("HandError") 189),some (.str ("HandError") 197),some (.builtin "ValueError.__new__"),some (.bool true)] })
def s9 (w:World) (os:OsState):W.SharedT:=⟨t9 w.params,136,{},Array.mk [],{},351,os⟩
def st9:List Stmt:=((W.behindTheImports pwX).drop 10).take 1
def t10 (P:Params):W.BT:=(((mT P 148 11 1 0).set 3 (λ_=>gD P "oldhands.errors" 187 19 20)).set 12 (λ_=>tD 33)).set 24 (λ_=>{ cls:=.type "type",data:=.cls { name:= "HandError",bases:=[.type "ValueError"],mro:=[.ref 24,.type "ValueError",.type "Exception",.type "BaseException",.type "object"],ns:=23,qualname:= "HandError",subclasses:=[.ref 37,.ref 49,.ref 61,.ref 73,.ref 85,.ref 97,.ref 109,.ref 121,.ref 133,.ref 145] },slots:=#[some (.ref 15),none,some (.str ("HandError") 189),some (.str ("HandError") 197),some (.builtin "ValueError.__new__"),some (.bool true)] })
def s10 (w:World) (os:OsState):W.SharedT:=⟨t10 w.params,148,{},Array.mk [],{},367,os⟩
def Il:List Stmt:=((W.behindTheImports pwX).drop 11).take 1
def t11 (P:Params):W.BT:=(((mT P 160 11 1 0).set 3 (λ_=>gD P "oldhands.errors" 187 20 21)).set 12 (λ_=>tD 36)).set 24 (λ_=>{ cls:=.type "type",data:=.cls { name:= "HandError",bases:=[.type "ValueError"],mro:=[.ref 24,.type "ValueError",.type "Exception",.type "BaseException",.type "object"],ns:=23,qualname:= "HandError",subclasses:=[.ref 37,.ref 49,.ref 61,.ref 73,.ref 85,.ref 97,.ref 109,.ref 121,.ref 133,.ref 145,.ref 157] },slots:=#[some (.ref 15),none,some (.str ("HandError") 189),some (.str ("HandError") 197),some (.builtin "ValueError.__new__"),some (.bool true)] })
def s11 (w:World) (os:OsState):W.SharedT:=⟨t11 w.params,160,{},Array.mk [],{},383,os⟩
def Im:List Stmt:=((W.behindTheImports pwX).drop 12).take 1
def t12 (P:Params):W.BT:=((mT P 172 11 1 0).set 3 (λ_=>gD P "oldhands.kinds" 399 30 31)).set 12 (λ_=>tD 39)
def s12 (w:World) (os:OsState):W.SharedT:=⟨t12 w.params,172,{},Array.mk [],{},419,os⟩
def Io:List Stmt:=((W.behindTheImports pwX).drop 13).take 11
def t13 (P:Params):W.BT:=((mT P 237 11 1 0).set 3 (λ_=>gD P "oldhands.kinds" 399 41 42)).set 12 (λ_=>tD 69)
def s13 (w:World) (os:OsState):W.SharedT:=⟨t13 w.params,237,{},Array.mk [],{},511,os⟩
def sJ:List Stmt:=((W.behindTheImports pwX).drop 24).take 11
def t14 (P:Params):W.BT:=((mT P 316 11 1 0).set 3 (λ_=>gD P "oldhands.values" 550 55 56)).set 12 (λ_=>tD 108)
def s14 (w:World) (os:OsState):W.SharedT:=⟨t14 w.params,316,{},Array.mk [],{},610,os⟩
def Ip:List Stmt:=((W.behindTheImports pwX).drop 35).take 15
def t15 (P:Params):W.BT:=((mT P 329 11 1 0).set 3 (λ_=>gD P "oldhands.turns" 626 61 62)).set 12 (λ_=>tD 114)
def s15 (w:World) (os:OsState):W.SharedT:=⟨t15 w.params,329,{},Array.mk [],{},668,os⟩
def sK:List Stmt:=((W.behindTheImports pwX).drop 50).take 7
def t16 (P:Params):W.BT:=((mT P 387 11 1 0).set 3 (λ_=>gD P "oldhands.turns" 626 69 70)).set 12 (λ_=>tD 135)
def s16 (w:World) (os:OsState):W.SharedT:=⟨t16 w.params,387,{},Array.mk [],{},753,os⟩
def sL:List Stmt:=((W.behindTheImports pwX).drop 57).take 8
def t17 (P:Params):W.BT:=((mT P 452 11 1 0).set 3 (λ_=>gD P "oldhands.questions" 833 81 82)).set 12 (λ_=>tD 165)
def s17 (w:World) (os:OsState):W.SharedT:=⟨t17 w.params,452,{},Array.mk [],{},850,os⟩
def sM:List Stmt:=((W.behindTheImports pwX).drop 65).take 14
def t18 (P:Params):W.BT:=((mT P 536 11 1 0).set 3 (λ_=>gD P "law_oldhands_k73_looks" 915 93 94)).set 12 (λ_=>tD 201)
def s18 (w:World) (os:OsState):W.SharedT:=⟨t18 w.params,536,{},Array.mk [],{},965,os⟩
def Iq:List Stmt:=((W.behindTheImports pwX).drop 79).take 13
def t19 (P:Params):W.BT:=mT P 607 11 1 0
def s19 (w:World) (os:OsState):W.SharedT:=⟨t19 w.params,607,{},Array.mk [],{},1067,os⟩
def Ir:List Stmt:=((W.behindTheImports pwX).drop 92).take 11
def hp1 (P:Params):Heap:=⟨Array.mk (o0 P :: o1 P :: o2 P :: o3 P :: o4 P :: o5 P :: o6 P :: o7 P :: o8 P :: o9 P :: o10 P :: o11 :: o12 :: o13 :: o14 :: o15 :: o16 :: o17 P :: o11 :: o19 :: o20 :: o21 :: o11 :: o23 P :: o24 :: o25 :: o26 :: o27 :: o28 :: o16 :: o30 P :: o11 :: o19 :: o33 :: o34 :: o11 :: o36 P :: o37 :: o38 :: o39 :: o28 :: o16 :: o42 P :: o11 :: o19 :: o45 :: o46 :: o11 :: o48 P :: o49 :: o50 :: o51 :: o28 :: o16 :: o54 P :: o11 :: o19 :: o57 :: o58 :: o11 :: o60 P :: o61 :: o62 :: o63 :: o28 :: o16 :: o66 P :: o11 :: o19 :: o69 :: o70 :: o11 :: o72 P :: o73 :: o74 :: o75 :: o28 :: o16 :: o78 P :: o11 :: o19 :: o81 :: o82 :: o11 :: o84 P :: o85 :: o86 :: o87 :: o28 :: o16 :: o90 P :: o11 :: o19 :: o93 :: o94 :: o11 :: o96 P :: o97 :: o98 :: o99 :: xz P :: BQ P :: BR P :: BS P :: BU P :: BV P :: BW P :: xA P :: xB P :: xD P :: BX P :: BY P :: xE P :: BZ P :: B9 P :: Ca P :: Cb P :: Cc P :: Cd P :: xF P :: xG P :: xH P :: Ce P :: Cf P :: xI P :: Cg P :: Ch P :: Ci P :: Cj P :: Ck P :: Cl P :: xJ P :: xK P :: xL P :: Cm P :: Cn P :: xM P :: Co P :: Cp P :: Cq P :: Cr P :: Cs P :: Ct P :: xN P :: xO P :: xP P :: Cu P :: Cv P :: xQ P :: Cw P :: Cy P :: Cz P :: CA P :: CB P :: CC P :: xR P :: xS P :: xT P :: CD P :: CF P :: xU P :: CG P :: CI P :: CJ P :: CK P :: CL P :: CM P :: xV P :: xW P :: xX P :: CN P :: CO P :: xY P :: CP P :: CQ P :: CS P :: xZ P :: x9 P :: CT P :: CU P :: CV P :: CW P :: CY P :: ya P :: yb P :: CZ P :: C1 P :: C2 P :: C3 P :: C4 P :: yc P :: yd P :: C5 P :: C6 P :: C7 P :: C8 P :: C9 P :: ye P :: yf P :: Da P :: Db P :: Dc P :: Dd P :: De P :: yg P :: yh P :: Df P :: Dg P :: Dh P :: Di P :: Dj P :: yi P :: yj P :: Dk P :: Dl P :: Dm P :: Dn P :: Do P :: yk P :: yl P :: Dp P :: Dq P :: Dr P :: ym P :: yn P :: Ds P :: Du P :: Dv P :: yo P :: yp P :: Dw P :: Dx P :: Dy P :: Dz P :: DA P :: yq P :: yr P :: DB P :: DC P :: DD P :: DE P :: DF P :: yt P :: yu P :: DG P :: DH P :: DI P :: DJ P :: DK P :: yv P :: yw P :: DL P :: DM P :: DN P :: DO P :: DP P :: yx P :: yy P :: DQ P :: DR P :: DS P :: yz P :: yA P :: DT P :: DU P :: DV P :: yB P :: yC P :: DW P :: DX P :: DY P :: DZ P :: D4 P :: yD P :: yE P :: D5 P :: D9 P :: Ea P :: Eb P :: Ec P :: yF P :: yG P :: Ed P :: Ee P :: Ef P :: yH P :: yI P :: Eg P :: Eh P :: Ei P :: Ej P :: Ek P :: yJ P :: yK P :: El P :: Em P :: En P :: yL P :: yM P :: Eo P :: Ep P :: Er P :: yN P :: yP P :: Es P :: Et P :: Eu P :: Ev P :: Ew P :: yQ P :: yR P :: Ex P :: Ey P :: Ez P :: yS P :: yT P :: EA P :: EB P :: EC P :: yU P :: yV P :: ED P :: EE P :: EF P :: EG P :: EH P :: yW P :: yX P :: yY P :: yZ P :: y3 P :: y4 P :: y6 P :: y7 P :: y8 P :: y9 P :: za P :: zb P :: zc P :: zd P :: EI P :: EJ P :: EK P :: EL P :: EM P :: ze P :: zf P :: EN P :: EO P :: EQ P :: zg P :: zh P :: ER P :: ES P :: ET P :: EU P :: EV P :: zi P :: zj P :: EW P :: EX P :: EY P :: EZ P :: E1 P :: zk P :: zl P :: E3 P :: E4 P :: E5 P :: E6 P :: E7 P :: zm P :: zn P :: E8 P :: E9 P :: Fa P :: Fb P :: Fc P :: zo P :: zp P :: Fd P :: Fe P :: Ff P :: Fg P :: Fh P :: zq P :: zr P :: Fi P :: Fj P :: Fk P :: Fm P :: Fn P :: zt P :: zu P :: Fo P :: Fp P :: Fq P :: zv P :: zw P :: Fr P :: Fs P :: Ft P :: zz P :: zA P :: Fu P :: Fv P :: Fw P :: Fx P :: Fy P :: zB P :: zC P :: Fz P :: FA P :: FC P :: FD P :: FE P :: zD P :: zE P :: FF P :: FG P :: FH P :: zF P :: zG P :: FI P :: FJ P :: FL P :: FM P :: FN P :: zH P :: zI P :: FO P :: FP P :: FQ P :: FR P :: FS P :: zJ P :: zK P :: FT P :: FU P :: FW P :: FX P :: FY P :: zL P :: zM P :: FZ P :: F1 P :: F2 P :: F3 P :: F4 P :: zN P :: zO P :: zP P :: F5 P :: F6 P :: F7 P :: F8 P :: F9 P :: zQ P :: zR P :: Ga P :: Gb P :: Gc P :: Gd P :: Ge P :: zS P :: zT P :: Gf P :: Gg P :: Gh P :: Gi P :: Gj P :: zU P :: zV P :: Gk P :: Gm P :: Gp P :: Gq P :: Gr P :: zW P :: zX P :: Gs P :: Gu P :: Gv P :: Gw P :: Gx P :: zY P :: zZ P :: Gy P :: Gz P :: GA P :: GB P :: GC P :: z7 P :: z8 P :: GD P :: GE P :: GF P :: GG P :: GH P :: z9 P :: Aa P :: GI P :: GJ P :: GL P :: GM P :: GN P :: Ab P :: Ac P :: GO P :: GP P :: GQ P :: GR P :: GS P :: Ad P :: Ae P :: GU P :: GV P :: GW P :: GX P :: GY P :: Af P :: Ag P :: GZ P :: G0 P :: G7 P :: G8 P :: G9 P :: Ah P :: Ai P :: Ha P :: Hb P :: Hc P :: Hd P :: He P :: Aj P :: Ak P :: Hf P :: Hg P :: Hh P :: Hi P :: Hj P :: Al P :: Am P :: Hk P :: Hl P :: Hm P :: An P :: Ao P :: Hn P :: Ho P :: Hq P :: Ap P :: Aq P :: Hr P :: Hs P :: Ht P :: Hu P :: Hv P :: Ar P :: As P :: Hw P :: Hx P :: Hy P :: At P :: Au P :: Hz P :: HA P :: HB P :: HD P :: HE P :: Av P :: Aw P :: HF P :: HG P :: HH P :: HI P :: HJ P :: Ax P :: Ay P :: HK P :: HL P :: HM P :: HN P :: HP P :: Az P :: AA P :: HQ P :: HR P :: HS P :: HU P :: HV P :: AB P :: AC P :: HW P :: HX P :: HY P :: HZ P :: Ia P :: AD P :: AE P :: Ig P :: Ih P :: Ii P :: Ij P :: Ik P :: AF P :: AG P :: []),{}⟩
theorem Jx:∀ w:World,(λos=>W.topGo treeTable pwX w 11 hA1 12 ⟨W.boot_heap w.params,Array.mk [],W.boot_drawn,W.boot_toks,os⟩ (W.topStub pwX))=λos=>some (⟨hp0 w.params,Array.mk [],{},187,os⟩,⟨denote treeTable hCo,hCo,⟨0,0,0,0⟩,hB1⟩):=λw=>by kernel_rfl
theorem AH:∀ w:World,(λos=>W.segRun treeTable pwX w 11 hA1 1 1 ⟨hp0 w.params,Array.mk [],{},187,os⟩ (W.blockOf (W.behindTheImports pwX) bd hCo ⟨0,0,0,0⟩ hB1))=λos=>some (.next,(sB w os).abs,hCo,⟨0,0,0,0⟩):=λw=>by kernel_rfl
theorem r0:∀ w:World,(λos=>W.segRunT treeTable pwX w 11 hA1 1 196 (sB w os) (W.piecesOf st0 bd hCo ⟨0,0,0,0⟩ hB1))=λos=>some (.next,s0 w os,hCo,⟨2,0,3,8⟩):=λw=>by kernel_rfl
theorem r1:∀ w:World,(λos=>W.segRunT treeTable pwX w 11 hA1 1 214 (s0 w os) (W.piecesOf st1 bd hCo ⟨2,0,3,8⟩ hB1))=λos=>some (.next,s1 w os,hCo,⟨4,0,5,8⟩):=λw=>by kernel_rfl
theorem r2:∀ w:World,(λos=>W.segRunT treeTable pwX w 11 hA1 1 214 (s1 w os) (W.piecesOf st2 bd hCo ⟨4,0,5,8⟩ hB1))=λos=>some (.next,s2 w os,hCo,⟨6,0,7,8⟩):=λw=>by kernel_rfl
theorem r3:∀ w:World,(λos=>W.segRunT treeTable pwX w 11 hA1 1 214 (s2 w os) (W.piecesOf st3 bd hCo ⟨6,0,7,8⟩ hB1))=λos=>some (.next,s3 w os,hCo,⟨8,0,9,8⟩):=λw=>by kernel_rfl
theorem r4:∀ w:World,(λos=>W.segRunT treeTable pwX w 11 hA1 1 214 (s3 w os) (W.piecesOf st4 bd hCo ⟨8,0,9,8⟩ hB1))=λos=>some (.next,s4 w os,hCo,⟨10,0,11,8⟩):=λw=>by kernel_rfl
theorem r5:∀ w:World,(λos=>W.segRunT treeTable pwX w 11 hA1 1 214 (s4 w os) (W.piecesOf st5 bd hCo ⟨10,0,11,8⟩ hB1))=λos=>some (.next,s5 w os,hCo,⟨12,0,13,8⟩):=λw=>by kernel_rfl
theorem r6:∀ w:World,(λos=>W.segRunT treeTable pwX w 11 hA1 1 214 (s5 w os) (W.piecesOf st6 bd hCo ⟨12,0,13,8⟩ hB1))=λos=>some (.next,s6 w os,hCo,⟨14,0,15,8⟩):=λw=>by kernel_rfl
theorem r7:∀ w:World,(λos=>W.segRunT treeTable pwX w 11 hA1 1 214 (s6 w os) (W.piecesOf st7 bd hCo ⟨14,0,15,8⟩ hB1))=λos=>some (.next,s7 w os,hCo,⟨16,0,17,8⟩):=λw=>by kernel_rfl
theorem r8:∀ w:World,(λos=>W.segRunT treeTable pwX w 11 hA1 1 214 (s7 w os) (W.piecesOf st8 bd hCo ⟨16,0,17,8⟩ hB1))=λos=>some (.next,s8 w os,hCo,⟨18,0,19,8⟩):=λw=>by kernel_rfl
theorem r9:∀ w:World,(λos=>W.segRunT treeTable pwX w 11 hA1 1 214 (s8 w os) (W.piecesOf st9 bd hCo ⟨18,0,19,8⟩ hB1))=λos=>some (.next,s9 w os,hCo,⟨20,0,21,8⟩):=λw=>by kernel_rfl
theorem r10:∀ w:World,(λos=>W.segRunT treeTable pwX w 11 hA1 1 214 (s9 w os) (W.piecesOf Il bd hCo ⟨20,0,21,8⟩ hB1))=λos=>some (.next,s10 w os,hCo,⟨22,0,23,8⟩):=λw=>by kernel_rfl
theorem r11:∀ w:World,(λos=>W.segRunT treeTable pwX w 11 hA1 1 214 (s10 w os) (W.piecesOf Im bd hCo ⟨22,0,23,8⟩ hB1))=λos=>some (.next,s11 w os,hCo,⟨24,0,25,8⟩):=λw=>by kernel_rfl
theorem r12:∀ w:World,(λos=>W.segRunT treeTable pwX w 11 hA1 1 304 (s11 w os) (W.piecesOf Io bd hCo ⟨24,0,25,8⟩ hB1))=λos=>some (.next,s12 w os,hCo,⟨37,0,37,7⟩):=λw=>by kernel_rfl
theorem Jy:∀ w:World,(λos=>W.segRunT treeTable pwX (w.withFollow "special-get-raises" false) 11 hA1 1 388 (s12 (w.withFollow "special-get-raises" false) os) (W.piecesOf sJ bd hCo ⟨37,0,37,7⟩ hB1))=λos=>some (.next,s13 (w.withFollow "special-get-raises" false) os,hCo,⟨87,0,90,58⟩):=λw=>by kernel_rfl
theorem Jz:∀ w:World,(λos=>W.segRunT treeTable pwX (w.withFollow "special-get-raises" true) 11 hA1 1 388 (s12 (w.withFollow "special-get-raises" true) os) (W.piecesOf sJ bd hCo ⟨37,0,37,7⟩ hB1))=λos=>some (.next,s13 (w.withFollow "special-get-raises" true) os,hCo,⟨87,0,90,58⟩):=λw=>by kernel_rfl
theorem r13:∀ w:World,(λos=>W.segRunT treeTable pwX w 11 hA1 1 388 (s12 w os) (W.piecesOf sJ bd hCo ⟨37,0,37,7⟩ hB1))=λos=>some (.next,s13 w os,hCo,⟨87,0,90,58⟩):=W.byRow2 "special-get-raises" (P:=λw=>(λos=>W.segRunT treeTable pwX w 11 hA1 1 388 (s12 w os) (W.piecesOf sJ bd hCo ⟨37,0,37,7⟩ hB1))=λos=>some (.next,s13 w os,hCo,⟨87,0,90,58⟩)) Jy Jz
theorem r14:∀ w:World,(λos=>W.segRunT treeTable pwX w 11 hA1 1 388 (s13 w os) (W.piecesOf Ip bd hCo ⟨87,0,90,58⟩ hB1))=λos=>some (.next,s14 w os,hCo,⟨151,0,153,73⟩):=λw=>by kernel_rfl
theorem JA:∀ w:World,(λos=>W.segRunT treeTable pwX (w.withFollow "special-get-raises" false) 11 hA1 1 270 (s14 (w.withFollow "special-get-raises" false) os) (W.piecesOf sK bd hCo ⟨151,0,153,73⟩ hB1))=λos=>some (.next,s15 (w.withFollow "special-get-raises" false) os,hCo,⟨174,0,174,11⟩):=λw=>by kernel_rfl
theorem JB:∀ w:World,(λos=>W.segRunT treeTable pwX (w.withFollow "special-get-raises" true) 11 hA1 1 270 (s14 (w.withFollow "special-get-raises" true) os) (W.piecesOf sK bd hCo ⟨151,0,153,73⟩ hB1))=λos=>some (.next,s15 (w.withFollow "special-get-raises" true) os,hCo,⟨174,0,174,11⟩):=λw=>by kernel_rfl
theorem r15:∀ w:World,(λos=>W.segRunT treeTable pwX w 11 hA1 1 270 (s14 w os) (W.piecesOf sK bd hCo ⟨151,0,153,73⟩ hB1))=λos=>some (.next,s15 w os,hCo,⟨174,0,174,11⟩):=W.byRow2 "special-get-raises" (P:=λw=>(λos=>W.segRunT treeTable pwX w 11 hA1 1 270 (s14 w os) (W.piecesOf sK bd hCo ⟨151,0,153,73⟩ hB1))=λos=>some (.next,s15 w os,hCo,⟨174,0,174,11⟩)) JA JB
theorem JC:∀ w:World,(λos=>W.segRunT treeTable pwX (w.withFollow "special-get-raises" false) 11 hA1 1 387 (s15 (w.withFollow "special-get-raises" false) os) (W.piecesOf sL bd hCo ⟨174,0,174,11⟩ hB1))=λos=>some (.next,s16 (w.withFollow "special-get-raises" false) os,hCo,⟨217,0,220,50⟩):=λw=>by kernel_rfl
theorem JD:∀ w:World,(λos=>W.segRunT treeTable pwX (w.withFollow "special-get-raises" true) 11 hA1 1 387 (s15 (w.withFollow "special-get-raises" true) os) (W.piecesOf sL bd hCo ⟨174,0,174,11⟩ hB1))=λos=>some (.next,s16 (w.withFollow "special-get-raises" true) os,hCo,⟨217,0,220,50⟩):=λw=>by kernel_rfl
theorem r16:∀ w:World,(λos=>W.segRunT treeTable pwX w 11 hA1 1 387 (s15 w os) (W.piecesOf sL bd hCo ⟨174,0,174,11⟩ hB1))=λos=>some (.next,s16 w os,hCo,⟨217,0,220,50⟩):=W.byRow2 "special-get-raises" (P:=λw=>(λos=>W.segRunT treeTable pwX w 11 hA1 1 387 (s15 w os) (W.piecesOf sL bd hCo ⟨174,0,174,11⟩ hB1))=λos=>some (.next,s16 w os,hCo,⟨217,0,220,50⟩)) JC JD
theorem JE:∀ w:World,(λos=>W.segRunT treeTable pwX (w.withFollow "special-get-raises" false) 11 hA1 1 390 (s16 (w.withFollow "special-get-raises" false) os) (W.piecesOf sM bd hCo ⟨217,0,220,50⟩ hB1))=λos=>some (.next,s17 (w.withFollow "special-get-raises" false) os,hCo,⟨300,0,300,10⟩):=λw=>by kernel_rfl
theorem JF:∀ w:World,(λos=>W.segRunT treeTable pwX (w.withFollow "special-get-raises" true) 11 hA1 1 390 (s16 (w.withFollow "special-get-raises" true) os) (W.piecesOf sM bd hCo ⟨217,0,220,50⟩ hB1))=λos=>some (.next,s17 (w.withFollow "special-get-raises" true) os,hCo,⟨300,0,300,10⟩):=λw=>by kernel_rfl
theorem r17:∀ w:World,(λos=>W.segRunT treeTable pwX w 11 hA1 1 390 (s16 w os) (W.piecesOf sM bd hCo ⟨217,0,220,50⟩ hB1))=λos=>some (.next,s17 w os,hCo,⟨300,0,300,10⟩):=W.byRow2 "special-get-raises" (P:=λw=>(λos=>W.segRunT treeTable pwX w 11 hA1 1 390 (s16 w os) (W.piecesOf sM bd hCo ⟨217,0,220,50⟩ hB1))=λos=>some (.next,s17 w os,hCo,⟨300,0,300,10⟩)) JE JF
theorem r18:∀ w:World,(λos=>W.segRunT treeTable pwX w 11 hA1 1 387 (s17 w os) (W.piecesOf Iq bd hCo ⟨300,0,300,10⟩ hB1))=λos=>some (.next,s18 w os,hCo,⟨370,0,374,15⟩):=λw=>by kernel_rfl
theorem r19:∀ w:World,(λos=>W.segRunT treeTable pwX w 11 hA1 1 339 (s18 w os) (W.piecesOf Ir bd hCo ⟨370,0,374,15⟩ hB1))=λos=>some (.next,s19 w os,hCo,⟨478,0,486,15⟩):=λw=>by kernel_rfl
theorem JG:∀ w:World,(λos=>W.topRun treeTable pwX w 11 hA1 2 (s19 w os).abs ⟨W.doneF .next,hCo,⟨478,0,486,15⟩,hB1⟩)=λos=>some (⟨hp1 w.params,Array.mk [],{},1067,os⟩:Shared):=λw=>by kernel_rfl
theorem JH:W.behindTheImports pwX=st0++(st1++(st2++(st3++(st4++(st5++(st6++(st7++(st8++(st9++(Il++(Im++(Io++(sJ++(Ip++(sK++(sL++(sM++(Iq++(Ir++[]))))))))))))))))))):=by kernel_rfl
theorem JI (w:World) (os:OsState):W.topRun treeTable pwX w 11 hA1 (12+(1+(196+(214+(214+(214+(214+(214+(214+(214+(214+(214+(214+(214+(304+(388+(388+(270+(387+(390+(387+(339+(2))))))))))))))))))))))) ⟨W.boot_heap w.params,Array.mk [],W.boot_drawn,W.boot_toks,os⟩ (W.topStub pwX)=some ⟨hp1 w.params,Array.mk [],{},1067,os⟩:=by
 refine W.go_top (congrFun (Jx w) os) (W.piece_block (congrFun (AH w) os) ?_);rw [JH];exact (W.piece_app (W.segRun_of (congrFun (r0 w) os)) (W.piece_app (W.segRun_of (congrFun (r1 w) os)) (W.piece_app (W.segRun_of (congrFun (r2 w) os)) (W.piece_app (W.segRun_of (congrFun (r3 w) os)) (W.piece_app (W.segRun_of (congrFun (r4 w) os)) (W.piece_app (W.segRun_of (congrFun (r5 w) os)) (W.piece_app (W.segRun_of (congrFun (r6 w) os)) (W.piece_app (W.segRun_of (congrFun (r7 w) os)) (W.piece_app (W.segRun_of (congrFun (r8 w) os)) (W.piece_app (W.segRun_of (congrFun (r9 w) os)) (W.piece_app (W.segRun_of (congrFun (r10 w) os)) (W.piece_app (W.segRun_of (congrFun (r11 w) os)) (W.piece_app (W.segRun_of (congrFun (r12 w) os)) (W.piece_app (W.segRun_of (congrFun (r13 w) os)) (W.piece_app (W.segRun_of (congrFun (r14 w) os)) (W.piece_app (W.segRun_of (congrFun (r15 w) os)) (W.piece_app (W.segRun_of (congrFun (r16 w) os)) (W.piece_app (W.segRun_of (congrFun (r17 w) os)) (W.piece_app (W.segRun_of (congrFun (r18 w) os)) (W.piece_app (W.segRun_of (congrFun (r19 w) os)) (show W.topRun treeTable pwX w 11 hA1 2 _ (W.restOf [] bd hCo ⟨478,0,486,15⟩ hB1)=_ from congrFun (JG w) os)))))))))))))))))))))
def hK:Params->W.Frag:=λP =>
 (nat_lit 3,o3 P) :: (nat_lit 4,o4 P) :: (nat_lit 6,o6 P) :: (nat_lit 15,o15) :: (nat_lit 22,o11) :: (nat_lit 23,o23 P) :: (nat_lit 24,o24) :: (nat_lit 25,o25) :: (nat_lit 28,o28) :: (nat_lit 35,o11) :: (nat_lit 36,o36 P) :: (nat_lit 37,o37) :: (nat_lit 40,o28) :: (nat_lit 47,o11) :: (nat_lit 48,o48 P) :: (nat_lit 49,o49) :: (nat_lit 52,o28) :: (nat_lit 59,o11) :: (nat_lit 60,o60 P) :: (nat_lit 61,o61) :: (nat_lit 64,o28) :: (nat_lit 71,o11) :: (nat_lit 72,o72 P) :: (nat_lit 73,o73) :: (nat_lit 76,o28) :: (nat_lit 83,o11) :: (nat_lit 84,o84 P) :: (nat_lit 85,o85) :: (nat_lit 88,o28) :: (nat_lit 95,o11) :: (nat_lit 96,o96 P) :: (nat_lit 97,o97) :: (nat_lit 100,xz P) :: (nat_lit 107,xA P) :: (nat_lit 108,xB P) :: (nat_lit 109,xD P) :: (nat_lit 112,xE P) :: (nat_lit 119,xF P) :: (nat_lit 120,xG P) :: (nat_lit 121,xH P) :: (nat_lit 124,xI P) :: (nat_lit 131,xJ P) :: (nat_lit 132,xK P) :: (nat_lit 133,xL P) :: (nat_lit 136,xM P) :: (nat_lit 143,xN P) :: (nat_lit 144,xO P) :: (nat_lit 145,xP P) :: (nat_lit 148,xQ P) :: (nat_lit 155,xR P) :: (nat_lit 156,xS P) :: (nat_lit 157,xT P) :: (nat_lit 160,xU P) :: (nat_lit 167,xV P) :: (nat_lit 168,xW P) :: (nat_lit 169,xX P) :: (nat_lit 172,xY P) :: (nat_lit 176,xZ P) :: (nat_lit 177,x9 P) :: (nat_lit 183,ya P) :: (nat_lit 184,yb P) :: (nat_lit 190,yc P) :: (nat_lit 191,yd P) :: (nat_lit 197,ye P) :: (nat_lit 198,yf P) :: (nat_lit 204,yg P) :: (nat_lit 205,yh P) :: (nat_lit 211,yi P) :: (nat_lit 212,yj P) :: (nat_lit 218,yk P) :: (nat_lit 219,yl P) :: (nat_lit 223,ym P) :: (nat_lit 224,yn P) :: (nat_lit 228,yo P) :: (nat_lit 229,yp P) :: (nat_lit 235,yq P) :: (nat_lit 236,yr P) :: (nat_lit 242,yt P) :: (nat_lit 243,yu P) :: (nat_lit 249,yv P) :: (nat_lit 250,yw P) :: (nat_lit 256,yx P) :: (nat_lit 257,yy P) :: (nat_lit 261,yz P) :: (nat_lit 262,yA P) :: (nat_lit 266,yB P) :: (nat_lit 267,yC P) :: (nat_lit 273,yD P) :: (nat_lit 274,yE P) :: (nat_lit 280,yF P) :: (nat_lit 281,yG P) :: (nat_lit 285,yH P) :: (nat_lit 286,yI P) :: (nat_lit 292,yJ P) :: (nat_lit 293,yK P) :: (nat_lit 297,yL P) :: (nat_lit 298,yM P) :: (nat_lit 302,yN P) :: (nat_lit 303,yP P) :: (nat_lit 309,yQ P) :: (nat_lit 310,yR P) :: (nat_lit 314,yS P) :: (nat_lit 315,yT P) :: (nat_lit 319,yU P) :: (nat_lit 320,yV P) :: (nat_lit 326,yW P) :: (nat_lit 327,yX P) :: (nat_lit 328,yY P) :: (nat_lit 329,yZ P) :: (nat_lit 330,y3 P) :: (nat_lit 331,y4 P) :: (nat_lit 332,y6 P) :: (nat_lit 333,y7 P) :: (nat_lit 334,y8 P) :: (nat_lit 335,y9 P) :: (nat_lit 336,za P) :: (nat_lit 337,zb P) :: (nat_lit 338,zc P) :: (nat_lit 339,zd P) :: (nat_lit 345,ze P) :: (nat_lit 346,zf P) :: (nat_lit 350,zg P) :: (nat_lit 351,zh P) :: (nat_lit 357,zi P) :: (nat_lit 358,zj P) :: (nat_lit 364,zk P) :: (nat_lit 365,zl P) :: (nat_lit 371,zm P) :: (nat_lit 372,zn P) :: (nat_lit 378,zo P) :: (nat_lit 379,zp P) :: (nat_lit 385,zq P) :: (nat_lit 386,zr P) :: (nat_lit 392,zt P) :: (nat_lit 393,zu P) :: (nat_lit 397,zv P) :: (nat_lit 398,zw P) :: (nat_lit 402,zz P) :: (nat_lit 403,zA P) :: (nat_lit 409,zB P) :: (nat_lit 410,zC P) :: (nat_lit 416,zD P) :: (nat_lit 417,zE P) :: (nat_lit 421,zF P) :: (nat_lit 422,zG P) :: (nat_lit 428,zH P) :: (nat_lit 429,zI P) :: (nat_lit 435,zJ P) :: (nat_lit 436,zK P) :: (nat_lit 442,zL P) :: (nat_lit 443,zM P) :: (nat_lit 449,zN P) :: (nat_lit 450,zO P) :: (nat_lit 451,zP P) :: (nat_lit 457,zQ P) :: (nat_lit 458,zR P) :: (nat_lit 464,zS P) :: (nat_lit 465,zT P) :: (nat_lit 471,zU P) :: (nat_lit 472,zV P) :: (nat_lit 478,zW P) :: (nat_lit 479,zX P) :: (nat_lit 485,zY P) :: (nat_lit 486,zZ P) :: (nat_lit 492,z7 P) :: (nat_lit 493,z8 P) :: (nat_lit 499,z9 P) :: (nat_lit 500,Aa P) :: (nat_lit 506,Ab P) :: (nat_lit 507,Ac P) :: (nat_lit 513,Ad P) :: (nat_lit 514,Ae P) :: (nat_lit 520,Af P) :: (nat_lit 521,Ag P) :: (nat_lit 527,Ah P) :: (nat_lit 528,Ai P) :: (nat_lit 534,Aj P) :: (nat_lit 535,Ak P) :: (nat_lit 541,Al P) :: (nat_lit 542,Am P) :: (nat_lit 546,An P) :: (nat_lit 547,Ao P) :: (nat_lit 551,Ap P) :: (nat_lit 552,Aq P) :: (nat_lit 558,Ar P) :: (nat_lit 559,As P) :: (nat_lit 563,At P) :: (nat_lit 564,Au P) :: (nat_lit 570,Av P) :: (nat_lit 571,Aw P) :: (nat_lit 577,Ax P) :: (nat_lit 578,Ay P) :: (nat_lit 584,Az P) :: (nat_lit 585,AA P) :: (nat_lit 591,AB P) :: (nat_lit 592,AC P) :: (nat_lit 598,AD P) :: (nat_lit 599,AE P) :: (nat_lit 605,AF P) :: (nat_lit 606,AG P) :: []
def hA:List Addr:=[3,4,6,15,22,23,24,25,28,35,36,37,40,47,48,49,52,59,60,61,64,71,72,73,76,83,84,85,88,95,96,97,100,107,108,109,112,119,120,121,124,131,132,133,136,143,144,145,148,155,156,157,160,167,168,169,172,176,177,183,184,190,191,197,198,204,205,211,212,218,219,223,224,228,229,235,236,242,243,249,250,256,257,261,262,266,267,273,274,280,281,285,286,292,293,297,298,302,303,309,310,314,315,319,320,326,327,328,329,330,331,332,333,334,335,336,337,338,339,345,346,350,351,357,358,364,365,371,372,378,379,385,386,392,393,397,398,402,403,409,410,416,417,421,422,428,429,435,436,442,443,449,450,451,457,458,464,465,471,472,478,479,485,486,492,493,499,500,506,507,513,514,520,521,527,528,534,535,541,542,546,547,551,552,558,559,563,564,570,571,577,578,584,585,591,592,598,599,605,606]
theorem hKA:∀ P,hA=(hK P).map (·.1):=λ_=>by kernel_rfl
abbrev hH:W.Hook:=W.kHook hK hA hKA
abbrev hQ:Program:=W.view pwX [102]
def hW:List Str:= "HandError" :: "BadKind" :: "BadValue" :: "BadPath" :: "BadTurn" :: "BadPiece" :: "BadVersion" :: "BadText" :: "BadQuestion" :: "NoRecord" :: "Taken" :: "NoDeed" :: "Full" :: "LETTERS" :: "LONGEST_NAME" :: "EACH" :: "MOST_SIGNS" :: "MOST_WORDS" :: "MOST_FIELDS" :: "MOST_ITEMS" :: "MOST_KINDS" :: "DEEPEST" :: "PART_COUNTS" :: "is_name" :: "is_whole" :: "is_whole_within" :: "made_kind" :: "is_formed" :: "has_parts" :: "are_bounds" :: "are_words" :: "are_fields" :: "is_field" :: "are_rows" :: "field_kind" :: "item_kind" :: "kinds_within" :: "kind_many" :: "PERCENT" :: "is_sign" :: "is_of" :: "is_text_of" :: "holds_tuple" :: "holds_items" :: "is_record_of" :: "is_pair_of" :: "are_keyed" :: "least_value" :: "field_of" :: "FIGURES" :: "LEAST_FACTOR" :: "GREATEST_FACTOR" :: "TURN_COUNTS" :: "TURN_SORTS" :: "figures_of" :: "number_of" :: "nearest" :: "is_factor" :: "kind_behind" :: "is_turn_of" :: "has_turn_parts" :: "most_figures" :: "are_led_words" :: "words_behind" :: "led_kind" :: "turned" :: "led_value" :: "read_number" :: "is_separator" :: "part_kinds" :: "halves" :: "MOST_LOOKS" :: "LOOK_SORTS" :: "kind_looked" :: "kind_behind_look" :: "is_half_look" :: "is_part_look" :: "has_look_form" :: "looked" :: "value_behind_look" :: "_law_mixed" :: "_law_stream" :: "_law_digit" :: "_law_leaf" :: "_law_text" :: "_law_number" :: "_law_value" :: "_law_kinds" :: "_law_deep" :: "_law_look_for" :: "_law_next" :: "_law_odd" :: "_law_heard" :: "_law_refused" :: "_law_one" :: []
abbrev hX (s:Shared):Bool:=W.recOk (W.RowW.records (W.OpenRow.toRowW PySem.Challenge.rw_oldhands_k73_looks.row)) s
theorem Iu:∀ w:World,((W.boot_heap w.params).isNs mainGlobals && (Array.mk []:Array GenState).size == 0,(W.boot_heap w.params).objs.size,(W.boot_heap w.params).nsMap mainGlobals "__annotations__")=(true,11,hA1):=λw=>by kernel_rfl
theorem rL1:∀ w:World,(λos=>(W.staticsOk (importedModules pwX.main.body) (W.boot_heap w.params) (hp1 w.params) && W.namesBound pwX (hp1 w.params) && W.gensDone ⟨hp1 w.params,Array.mk [],{},1067,os⟩ && W.laidKept (W.boot_heap w.params) (hp1 w.params)))=λ_=>true:=λw=>by kernel_rfl
theorem rL2:∀ w:World,(λos=>W.openSeen hQ hW (importedModules pwX.main.body) hX true ⟨hp1 w.params,Array.mk [],{},1067,os⟩)=λ_=>W.openGood hQ hW:=λw=>by kernel_rfl
theorem rL3:∀ w:World,(λos=>hH.obs ⟨hp1 w.params,Array.mk [],{},1067,os⟩)=λ_=>hH.val w:=λw=>by kernel_rfl
theorem hl:W.LeftO pwX hQ hW hX hH.obs hH.val 6418 :=
 W.LeftO.of_pieces (H₀:=W.boot_heap) (H₁:=hp1) (gs₀:=Array.mk []) (gs₁:=Array.mk []) (d₀:=W.boot_drawn) (d₁:={}) (k₀:=W.boot_toks) (k₁:=1067) (m₀:=11) (ann:=hA1) (M:=12+(1+(196+(214+(214+(214+(214+(214+(214+(214+(214+(214+(214+(214+(304+(388+(388+(270+(387+(390+(387+(339+(2)))))))))))))))))))))))
  (W.boot_open (by kernel_rfl) (by rfl) (λs=>by rfl)) Iu JI (0) (λw=>funext λos=>W.looks_pair (congrFun (rL1 w) os) (W.looks_pair (congrFun (rL2 w) os) (congrFun (rL3 w) os)))
theorem said:PySem.Challenge.rw_oldhands_k73_looks.wellSaid=true:=by
 unfold W.OpenLaw.wellSaid W.OpenRow.wellSaid W.OpenRow.partSaid W.looksOpen
 repeat' (with_reducible refine W.look_both ?_ ?_)
 all_goals decide +kernel
end K73
namespace L2
open PySem PySem.Spec PyProof.Rows
abbrev Key:=Sum Int Str
def km:Key->Value->Bool
 | .inl k,v=>Value.isInt k v
 | .inr x,v=>Value.isStrOf x v
def JJ (w:World):Key->Int
 | .inl k=>hashInt k
 | .inr x=>hashStr w x
theorem aJ:∀ {k:Key} {v:Value},km k v=true->(∃ i t,k=Sum.inl i/\v=Value.int i t)\/(∃ x t,k=Sum.inr x/\v=Value.str x t)
 | .inl i,v,h=>by
  obtain ⟨t,e⟩:=Value.isInt_shape (k:=i) (v:=v) h;exact .inl ⟨i,t,rfl,e⟩
 | .inr x,v,h=>by
  obtain ⟨t,e⟩:=Value.isStrOf_shape (x:=x) (v:=v) h;exact .inr ⟨x,t,rfl,e⟩
theorem qY (i:Int) (t:Tok):km (.inl i) (.int i t)=true:=by simp [km,Value.isInt]
theorem qZ (x:Str) (t:Tok):km (.inr x) (.str x t)=true:=by simp [km,Value.isStrOf]
theorem AI (a b:Int):decide ((Sum.inl a:Key)=Sum.inl b)=(a == b):=by
 by_cases e:a=b
 ·subst e;simp
 ·have h:¬ (Sum.inl a:Key)=Sum.inl b:=λq=>e (Sum.inl.inj q);rw [decide_eq_false h];exact (beq_eq_false_iff_ne.mpr e).symm
theorem AJ (a b:Str):decide ((Sum.inr a:Key)=Sum.inr b)=decide (a=b):=by
 by_cases e:a=b
 ·subst e;simp
 ·have h:¬ (Sum.inr a:Key)=Sum.inr b:=λq=>e (Sum.inr.inj q);rw [decide_eq_false h,decide_eq_false e]
theorem AK (a:Int) (b:Str):decide ((Sum.inl a:Key)=Sum.inr b)=false:=decide_eq_false (λq=>nomatch q)
theorem AL (a:Str) (b:Int):decide ((Sum.inr a:Key)=Sum.inl b)=false:=decide_eq_false (λq=>nomatch q)
def ar (prog:Program) (w:World):PySem.KeyKind prog w Key where
 is:=km
 hash:=JJ w
 inj:=λv a b ha hb=>by
  rcases aJ ha with ⟨i,t,rfl,rfl⟩ | ⟨x,t,rfl,rfl⟩
  ·rcases aJ hb with ⟨j,u,rfl,e⟩ | ⟨y,u,rfl,e⟩
   ·injection e with e1 _;rw [e1]
   ·exact nomatch e
  ·rcases aJ hb with ⟨j,u,rfl,e⟩ | ⟨y,u,rfl,e⟩
   ·exact nomatch e
   ·injection e with e1 _;rw [e1]
 byValue:=λk v h=>by
  rcases aJ h with ⟨i,t,rfl,rfl⟩ | ⟨x,t,rfl,rfl⟩ <;> rfl
 pyHash:=λhv h=>by
  rcases aJ hv with ⟨i,t,rfl,rfl⟩ | ⟨x,t,rfl,rfl⟩
  ·exact wpAny_pyHash_int h
  ·exact wpAny_pyHash_str h
 eqBool:=λhu hv h=>by
  rcases aJ hu with ⟨i,t,rfl,rfl⟩ | ⟨x,t,rfl,rfl⟩
  ·rcases aJ hv with ⟨j,u,rfl,rfl⟩ | ⟨y,u,rfl,rfl⟩
   ·rw [AI] at h;exact wpAny_eqBool_int h
   ·rw [AK] at h;exact SeqAt.EqAt.int_str i t y u _ _ _ _ h
  ·rcases aJ hv with ⟨j,u,rfl,rfl⟩ | ⟨y,u,rfl,rfl⟩
   ·rw [AL] at h;exact SeqAt.EqAt.str_int x t j u _ _ _ _ h
   ·rw [AJ] at h;exact wpAny_eqBool_str h
 «strs»:=λk x t v h=>by
  rcases aJ h with ⟨i,u,rfl,e⟩ | ⟨y,u,rfl,e⟩
  ·exact nomatch e
  ·injection e with e1 _
   subst e1
   cases v <;> rfl
theorem mB (prog:Program) (w:World) (i:Int) (t:Tok):(ar prog w).is (.inl i) (.int i t)=true:=qY i t
theorem mC (prog:Program) (w:World) (x:Str) (t:Tok):(ar prog w).is (.inr x) (.str x t)=true:=qZ x t
inductive V where
 | non | bl (b:Bool) | int (i:Int) | str (x:Str) | byt (b:Array UInt8) | flt (b:UInt64) | ref (a:Addr) | ty (n:String)
 deriving DecidableEq
def RelV:V->Value->Prop
 | .non,u=>u=Value.none
 | .bl b,u=>u=Value.bool b
 | .int i,u=>∃ t,u=Value.int i t
 | .str x,u=>∃ t,u=Value.str x t
 | .byt b,u=>∃ t,u=Value.bytes b t
 | .flt b,u=>∃ t,u=Value.float b t
 | .ref a,u=>u=Value.ref a
 | .ty n,u=>u=Value.type n
abbrev Vals:List V->List Value->Prop:=Paired RelV
theorem Vals.length {xs:List V} {us:List Value} (r:Vals xs us):xs.length=us.length:=Paired.length r
theorem Vals.get:∀ {xs:List V} {us:List Value} {i:Nat} {x:V},Vals xs us->xs[i]?=some x->∃ u,us[i]?=some u/\RelV x u
 | _,_,_,_,.nil,e=>by simp at e
 | _,_,0,_,.cons r _,e=>by simp at e;subst e;exact ⟨_,rfl,r⟩
 | _,_,i+1,x,.cons _ t,e=>by
  obtain ⟨u,h1,h2⟩:=Vals.get (i:=i) (x:=x) t (by simpa using e);exact ⟨u,by simpa using h1,h2⟩
theorem Vals.set {x:V} {u:Value} (r:RelV x u):∀ {xs:List V} {us:List Value} (i:Nat),Vals xs us->Vals (xs.set i x) (us.set i u)
 | _,_,_,.nil=>.nil
 | _,_,0,.cons _ t=>.cons r t
 | _,_,i+1,.cons q t=>.cons q (Vals.set r i t)
theorem Vals.append:∀ {xs ys:List V} {us ws:List Value},Vals xs us->Vals ys ws->Vals (xs++ys) (us++ws)
 | _,_,_,_,.nil,s=>s
 | _,_,_,_,.cons r t,s=>.cons r (Vals.append t s)
theorem Vals.take:∀ {xs:List V} {us:List Value} (n:Nat),Vals xs us->Vals (xs.take n) (us.take n)
 | _,_,0,_=>.nil
 | _,_,_+1,.nil=>.nil
 | _,_,n+1,.cons r t=>.cons r (Vals.take n t)
theorem Vals.drop:∀ {xs:List V} {us:List Value} (n:Nat),Vals xs us->Vals (xs.drop n) (us.drop n)
 | _,_,0,r=>r
 | _,_,_+1,.nil=>.nil
 | _,_,n+1,.cons _ t=>Vals.drop n t
def RelO:Option V->Option Value->Prop
 | some v,some u=>RelV v u
 | none,none=>True
 | _,_=>False
def KV {κ:Type}:List (κ×V)->List (κ×Value)->Prop:=Paired λ(p:κ×V) (q:κ×Value)=>p.1=q.1/\RelV p.2 q.2
def kV:Key->V
 | .inl i=>.int i
 | .inr x=>.str x
inductive HO where
 | lst (xs:List V)
 | tup (xs:List V)
 | dK (kvs:List (Key×V)) | dT (kvs:List (List Key×V))
 | set (S:Int->Bool) (n:Nat)
 | ins (C dx:Addr) (fs:List (Str×V))
 | own (x:Addr)
 | xd (fs:List (Str×V))
 | met (f x:Addr)
 | rng (lo hi:Int)
 | frz (o:Obj) (u:HO)
 | tbl (ps:Array Value)
 | ext (φ:Heap->Prop)
abbrev Hp:=Addr->Option HO
def upd (H:Hp) (a:Addr) (o:HO):Hp:=λb=>if b=a then some o else H b
theorem ac {H:Hp} {a:Addr} {o:HO}:upd H a o a=some o:=by unfold upd;rw [if_pos rfl]
theorem ag {H:Hp} {a b:Addr} {o:HO} (h:b≠a):upd H a o b=H b:=by unfold upd;rw [if_neg h]
theorem vp {H:Hp} {a:Addr} {o u:HO}:upd (upd H a o) a u=upd H a u:=by
 funext b;unfold upd;split <;> rfl
theorem sN {H:Hp} {a b:Addr} {o u:HO} (h:H a=some o) (h':H b=some u) (d:o≠u):a≠b:=by
 intro e;subst e;rw [h] at h';exact d (Option.some.inj h')
theorem ah {H:Hp} {a b:Addr} {o:HO} (h:H a=some o) (h':H b=none):a≠b:=by
 intro e;subst e;rw [h] at h';cases h'
section
variable (P:Program) (w:World)
def ObjOk (H:Hp) (h:Heap) (a:Addr):HO->Prop
 | .lst xs=>xs.length<=sizeLine/\∃ (its:List Value) (n:Nat),Vals xs its/\h.get? a=some { cls:=.type "list",data:=.seq its.toArray n }
 | .tup xs=>xs.length<=sizeLine/\∃ its:List Value,Vals xs its/\IsTup h a its.toArray
 | .dK kvs=>kvs.length<=sizeLine/\(a == sysModules)=false/\∃ vs,KV kvs vs/\h.DictOf (ar P w) a vs
 | .dT kvs=>kvs.length<=sizeLine/\(a == sysModules)=false/\∃ xs:List (List Key×Addr×Value),
   Paired (λ(p:List Key×V) (q:List Key×Addr×Value)=>p.1=q.1/\H q.2.1=some (.tup (p.1.map kV))/\RelV p.2 q.2.2) kvs xs /\
   ∃ o es ep,h.get? a=some o/\o.ExactDict/\o.data=.dict es ep/\es.toList=xs.map (entryOfKey (tupleKind (ar P w)))/\(xs.map (·.1)).Nodup
 | .set S n=>h.SetOf (intKind P w) a S n
 | .ins C dx fs=>H dx=some (.own a)/\fs.length<=1000/\dx≠a/\h.get? a=some (W.instObj C dx) /\
   ∃ mA,h.Ns1 dx mA/\(∀ f,RelO (fs.lookup f) (mA f))/\PySem.Within mA (fs.map (·.1))
 | .own _=>∃ o,h.get? a=some o
 | .xd fs=>∃ mA,h.Ns1 a mA/\∀ f,RelO (fs.lookup f) (mA f)
 | .rng lo hi=>∃ t u v,h.get? a=some { cls:=.type "range",data:=.fields #[.int lo t,.int hi u,.int 1 v] }
 | .frz o u=>h.get? a=some o/\ObjOk H h a u
 | .tbl ps=>h.get? a=some { cls:=.none,data:=.fields ps }
 | .met f x=>h.get? a=some (W.methodObj (.ref f) (.ref x))
 | .ext φ=>φ h/\(∃ o,h.get? a=some o)/\∀ h1 h2:Heap,φ h1->(∀ o,h1.get? a=some o->h2.get? a=some o)->φ h2
def HOk (H:Hp) (h:Heap):Prop:=∀ a o,H a=some o->ObjOk P w H h a o
end
section
variable {P:Program} {w:World} {H H':Hp} {h h':Heap} {a:Addr} {o:HO}
theorem ObjOk.lt (x:ObjOk P w H h a o):a < h.objs.size:=by
 cases o with
 | lst xs=>obtain ⟨_,_,_,_,e⟩:=x;exact aAb e
 | tup xs=>obtain ⟨_,_,_,p⟩:=x;exact p.lt
 | dK kvs=>obtain ⟨_,_,_,_,o,_,_,e,_⟩:=x;exact aAb e
 | dT kvs=>obtain ⟨_,_,_,_,o,_,_,e,_⟩:=x;exact aAb e
 | set S n=>obtain ⟨o,_,_,_,e,_⟩:=x;exact aAb e
 | ins C dx fs=>obtain ⟨_,_,_,e,_⟩:=x;exact aAb e
 | own y=>obtain ⟨_,e⟩:=x;exact aAb e
 | xd fs=>obtain ⟨_,⟨_,_,_,e,_⟩,_⟩:=x;exact aAb e
 | rng lo hi=>obtain ⟨_,_,_,e⟩:=x;exact aAb e
 | frz ob u=>obtain ⟨e,_⟩:=x;exact aAb e
 | tbl ps=>exact aAb (show h.get? a=some _ from x)
 | met f y=>exact aAb (show h.get? a=some _ from x)
 | ext φ=>obtain ⟨_,⟨_,e⟩,_⟩:=x;exact aAb e
theorem Paired.mapP {α β:Type} {F G:α->β->Prop}:∀ {l₁:List α} {l₂:List β},Paired F l₁ l₂->(∀ a b,F a b->G a b)->Paired G l₁ l₂
 | _,_,.nil,_=>.nil
 | _,_,.cons r t,f=>.cons (f _ _ r) (Paired.mapP t f)
theorem ObjOk.stay (x:ObjOk P w H h a o) (k:∀ b u,(b=a\/H b=some (.own a))->h.get? b=some u->h'.get? b=some u)
  (ho:∀ b,H b=some (.own a)->H' b=some (.own a)) (ht:∀ b xs,H b=some (.tup xs)->H' b=some (.tup xs)):ObjOk P w H' h' a o:=by
 induction o with
 | lst xs=>obtain ⟨z,its,n,r,e⟩:=x;exact ⟨z,its,n,r,k _ _ (.inl rfl) e⟩
 | tup xs=>obtain ⟨z,its,r,ob,e,c⟩:=x;exact ⟨z,its,r,ob,k _ _ (.inl rfl) e,c⟩
 | dK kvs=>obtain ⟨z,y,vs,r,ob,es,ep,e,c⟩:=x;exact ⟨z,y,vs,r,ob,es,ep,k _ _ (.inl rfl) e,c⟩
 | dT kvs =>
  obtain ⟨z,y,xs,r,ob,es,ep,e,c⟩:=x;exact ⟨z,y,xs,Paired.mapP r λp q z=>⟨z.1,ht _ _ z.2.1,z.2.2⟩,ob,es,ep,k _ _ (.inl rfl) e,c⟩
 | set S n=>obtain ⟨ob,es,ep,t,e,c⟩:=x;exact ⟨ob,es,ep,t,k _ _ (.inl rfl) e,c⟩
 | ins C dx fs =>
  obtain ⟨d,z,ne,e,mA,⟨od,es,ep,e2,c⟩,r⟩:=x;exact ⟨ho _ d,z,ne,k _ _ (.inl rfl) e,mA,⟨od,es,ep,k _ _ (.inr d) e2,c⟩,r⟩
 | own y=>obtain ⟨ob,e⟩:=x;exact ⟨ob,k _ _ (.inl rfl) e⟩
 | xd fs=>obtain ⟨mA,⟨od,es,ep,e,c⟩,r⟩:=x;exact ⟨mA,⟨od,es,ep,k _ _ (.inl rfl) e,c⟩,r⟩
 | rng lo hi=>obtain ⟨t,u,v,e⟩:=x;exact ⟨t,u,v,k _ _ (.inl rfl) e⟩
 | frz ob u ih=>obtain ⟨e,q⟩:=x;exact ⟨k _ _ (.inl rfl) e,ih q⟩
 | tbl ps =>
  have e:h.get? a=some { cls:=.none,data:=.fields ps }:=x;show h'.get? a=some { cls:=.none,data:=.fields ps };exact k a _ (.inl rfl) e
 | met f y =>
  have e:h.get? a=some (W.methodObj (.ref f) (.ref y)):=x;show h'.get? a=some (W.methodObj (.ref f) (.ref y));exact k a _ (.inl rfl) e
 | ext φ=>obtain ⟨p,⟨o,e⟩,st⟩:=x;exact ⟨st _ _ p λo q=>k _ _ (.inl rfl) q,⟨o,k _ _ (.inl rfl) e⟩,st⟩
theorem HOk.lt (x:HOk P w H h) (e:H a=some o):a < h.objs.size:=(x a o e).lt
theorem HOk.fresh (x:HOk P w H h) (e:h.objs.size<=a):H a=none:=by
 cases q:H a with
 | none=>rfl
 | some u=>exact absurd (aAd (x.lt q) e) (aAx _)
theorem HOk.kept (x:HOk P w H h) (k:∀ b u,h.get? b=some u->h'.get? b=some u):HOk P w H h':=λa o e =>
 (x a o e).stay (λb u _ q=>k b u q) (λ_ q=>q) λ_ _ q=>q
theorem HOk.laid (x:HOk P w H h) (k:∀ b u,h.get? b=some u->h'.get? b=some u) (hp:h.objs.size<=a) (new:ObjOk P w (upd H a o) h' a o):HOk P w (upd H a o) h':=λb u e=>by
 have hn:=x.fresh hp
 by_cases hb:b=a
 ·subst hb;rw [ac] at e;cases e;exact new
 ·rw [ag hb] at e;exact (x b u e).stay (λc v _ q=>k c v q) (λc q=>by rw [ag (ah q hn)];exact q) λc xs q=>by rw [ag (ah q hn)];exact q
end
def Rd (H:Hp) (a:Addr) (u:HO):Prop:=H a=some u\/∃ o,H a=some (.frz o u)
theorem Rd.ok {P:Program} {w:World} {H:Hp} {h:Heap} {a:Addr} {u:HO} (r:Rd H a u) (x:HOk P w H h):ObjOk P w H h a u:=by
 rcases r with r | ⟨o,r⟩
 ·exact x a u r
 ·obtain ⟨_,q⟩:=x a _ r;exact q
def Mut:Option HO->Prop
 | some (.lst _)=>True
 | some (.dK _)=>True
 | some (.dT _)=>True
 | some (.set _ _)=>True
 | some (.ins _ _ _)=>True
 | some (.ext _)=>True
 | _=>False
section
variable {P:Program} {w:World} {H:Hp} {h h':Heap} {x e:Addr} {o':HO}
theorem HOk.write (ok:HOk P w H h) (mu:Mut (H x)) (he:e=x\/H e=some (.own x)) (k:∀ b u,b≠e->h.get? b=some u->h'.get? b=some u) (heo:∃ u,h'.get? e=some u)
  (new:ObjOk P w (upd H x o') h' x o'):HOk P w (upd H x o') h':=λb u q=>by
 have nown:∀ c y,H c=some (.own y)->c≠x:=λc y r z=>by subst z;rw [r] at mu;exact mu
 have ntup:∀ c xs,H c=some (.tup xs)->c≠x:=λc xs r z=>by subst z;rw [r] at mu;exact mu
 by_cases hb:b=x
 ·subst hb;rw [ac] at q;cases q;exact new
 ·rw [ag hb] at q
  by_cases hbe:b=e
  ·have q':H b=some (.own x):=by
    rcases he with z | z
    ·exact absurd (hbe.trans z) hb
    ·rw [hbe];exact z
   rw [q] at q';cases q';obtain ⟨v,hv⟩:=heo;exact ⟨v,by rw [hbe];exact hv⟩
  ·refine (ok b u q).stay (λc v hc r=>k c v ?_ r) (λc r=>by rw [ag (nown c b r)];exact r) λc xs r=>by rw [ag (ntup c xs r)];exact r
   rcases hc with rfl | hc
   ·exact hbe
   ·rintro rfl;rcases he with z | z
    ·exact nown c b hc z
    ·rw [hc] at z;cases z;exact hb rfl
end
structure Un (fs ex:List Addr) (H H':Hp) (h h':Heap):Prop where
 keep:∀ b o,h.get? b=some o->H b=none->b∉fs->b∉ex->h'.get? b=some o
 slot:∀ b o,h.get? b=some o->H b=none->b∈fs->b∉ex->∃ sl,h'.get? b=some { o with slots:=sl }
 free:∀ b o,h.get? b=some o->H b=none->b∉ex->H' b=none
 there:∀ b o,h.get? b=some o->b∉ex->∃ o',h'.get? b=some o'
 tups:∀ b xs,H b=some (.tup xs)->H' b=some (.tup xs)
 frzs:∀ b o u,H b=some (.frz o u)->H' b=some (.frz o u)
 tbls:∀ b ps,H b=some (.tbl ps)->∃ more,H' b=some (.tbl (ps++more))
section
variable {fs fs' ex ex':List Addr} {H H1 H2:Hp} {h h1 h2 h':Heap} {a x e:Addr} {o:HO}
theorem Un.any (u:Un fs ex H H1 h h1) {b:Addr} {ob:Obj} (q:h.get? b=some ob) (n:H b=none) (hx:b∉ex):∃ sl,h1.get? b=some { ob with slots:=sl }:=by
 by_cases hb:b∈fs
 ·exact u.slot b ob q n hb hx
 ·exact ⟨ob.slots,u.keep b ob q n hb hx⟩
theorem Un.trans (a:Un fs ex H H1 h h1) (b:Un fs ex H1 H2 h1 h2):Un fs ex H H2 h h2 where
 keep:=λc ob q n hc hx=>b.keep c ob (a.keep c ob q n hc hx) (a.free c ob q n hx) hc hx
 slot:=λc ob q n hc hx=>by
  obtain ⟨sl,e1⟩:=a.slot c ob q n hc hx;obtain ⟨sl',e2⟩:=b.slot c _ e1 (a.free c ob q n hx) hc hx;exact ⟨sl',e2⟩
 free:=λc ob q n hx=>by
  obtain ⟨o',e1⟩:=a.there c ob q hx;exact b.free c o' e1 (a.free c ob q n hx) hx
 there:=λc ob q hx=>by
  obtain ⟨o',e1⟩:=a.there c ob q hx;exact b.there c o' e1 hx
 tups:=λc xs q=>b.tups c xs (a.tups c xs q)
 frzs:=λc ob xs q=>b.frzs c ob xs (a.frzs c ob xs q)
 tbls:=λc ps q=>by
  obtain ⟨m1,e1⟩:=a.tbls c ps q;obtain ⟨m2,e2⟩:=b.tbls c _ e1;exact ⟨m1++m2,by rw [e2,aBC]⟩
theorem Un.kept (k:∀ b u,h.get? b=some u->h'.get? b=some u):Un fs ex H H h h' :=
 ⟨λb ob q _ _ _=>k b ob q,λb ob q _ _ _=>⟨ob.slots,k b ob q⟩,λ_ _ _ n _=>n,λb ob q _=>⟨ob,k b ob q⟩,λ_ _ q=>q,λ_ _ _ q=>q,λ_ ps q=>⟨#[],by rw [q];simp⟩⟩
theorem Un.refl:Un fs ex H H h h:=Un.kept λ_ _ q=>q
theorem Un.laid (k:∀ b u,h.get? b=some u->h'.get? b=some u) (hp:h.objs.size<=a) (hn:H a=none):Un fs ex H (upd H a o) h h' where
 keep:=λb u q _ _ _=>k b u q
 slot:=λb u q _ _ _=>⟨u.slots,k b u q⟩
 free:=λb u q n _=>by rw [ag (aAk (aAd (aAb q) hp))];exact n
 there:=λb u q _=>⟨u,k b u q⟩
 tups:=λb xs q=>by rw [ag (ah q hn)];exact q
 frzs:=λb u xs q=>by rw [ag (ah q hn)];exact q
 tbls:=λb ps q=>⟨#[],by rw [ag (ah q hn),q];simp⟩
theorem Un.write (mu:Mut (H x)) (he:e=x\/H e=some (.own x)) (k:∀ b u,b≠e->h.get? b=some u->h'.get? b=some u) (heo:∃ u,h'.get? e=some u):Un fs ex H (upd H x o) h h':=by
 have hx:∀ b,H b=none->b≠x:=λb n z=>by subst z;rw [n] at mu;exact mu
 have hb:∀ b,H b=none->b≠e:=λb n z=>by
  subst z;rcases he with r | r
  ·exact hx b n r
  ·rw [n] at r;cases r
 have hm:∀ b u,H b=some u->¬ Mut (some u)->b≠x:=λb u q nm z=>by subst z;rw [q] at mu;exact nm mu
 refine ⟨λb u q n _ _=>k b u (hb b n) q,λb u q n _ _=>⟨u.slots,k b u (hb b n) q⟩,λb u q n _=>by rw [ag (hx b n)];exact n,λb u q _=>?_,
  λb xs q=>by rw [ag (hm b _ q λz=>z)];exact q,λb u xs q=>by rw [ag (hm b _ q λz=>z)];exact q,λb ps q=>⟨#[],by rw [ag (hm b _ q λz=>z),q];simp⟩⟩
 by_cases hbe:b=e
 ·subst hbe;exact heo
 ·exact ⟨u,k b u hbe q⟩
end
def trk (h:Heap) (H:Hp):List Addr:=(List.range h.objs.size).filter λa=>(H a).isSome
def kT (h:Heap) (H:Hp):Heap:=W.hideAll h (trk h H)
theorem q9 (h:Heap) (H:Hp):(kT h H).objs.size=h.objs.size:=W.hideAll_size _ _
theorem sO {h:Heap} {H:Hp} {b:Addr} {o:Obj} (e:h.get? b=some o) (n:H b=none):(kT h H).get? b=some o :=
 W.hideAll_get _ e λhm=>by
  have q:(H b).isSome=true:=(aBJ.mp hm).2;rw [n] at q;simp at q
theorem vq {h:Heap} {H:Hp} {b:Addr} {o:Obj} (e:(kT h H).get? b=some o):h.get? b=some o/\H b=none:=by
 have e':h.get? b=some o:=W.of_hideAll (trk h H) e;refine ⟨e',?_⟩
 cases q:H b with
 | none=>rfl
 | some x =>
  have hm:b∈trk h H:=aBJ.mpr ⟨aBL.mpr (aAb e'),by simp [q]⟩;have z:(kT h H).get? b=none:=W.hideAll_none (trk h H) hm;rw [z] at e;cases e
def vv (g h:Heap) (L:Addr):List (Addr×Obj):=(List.range h.objs.size).filterMap λa=>if a=L\/(g.get? a).isSome=true then none else (h.get? a).map λo=>(a,o)
def rest (g h:Heap) (L d:Addr):List (Addr×Obj):=(vv g h L).filter λp=>decide (p.1≠d)
structure Mod (K:W.Frag) (mg:Str->Option Value) (base:Heap):Prop where
 kin:K.In base
 glob:base.Ns mainGlobals mg
 blt:∃ mb,base.Ns builtinsNs mb/\∀ x:Str,x≠ "__name__" ->mb x=bootBuiltins x
 nolimit:base.NoLimit
structure Cx where
 prog:Program
 w:World
 K:W.Frag
 mg:Str->Option Value
 base:Heap
 A:Around
 N:List Str
 s₀:Shared
 H₀:Hp
 env:Env
 outer:List Env
 stack:List Env
 ex:List Addr
 fn:Str->Bool
 calm:Bool
 pn:List (Addr×Obj)
 xe:Value->Shared->Prop
def frs (l:List Env):List Addr:=l.filterMap (·.frame)
abbrev Cx.fs (X:Cx):List Addr:=frs X.outer
def Vis (sc:Scope) (x:Str):Prop:=sc.names.lookup x=some .local\/sc.names.lookup x=some .cell\/sc.names.lookup x=some .free
def Loc (sc:Scope) (x:Str):Prop:=sc.names.lookup x=some .local\/sc.names.lookup x=some .cell
def JK (env:Env) (h:Heap) (m:Str->Option Value) (x:Str) (u:Value):Prop :=
 (env.kindOf x=some .local/\m x=some u)\/((env.kindOf x=some .cell\/env.kindOf x=some .free)/\∃ c,env.cells.lookup x=some c/\h.IsCell c (some u))
structure Cx.Ok (X:Cx):Prop where
 mod:Mod X.K X.mg X.base
 kind:X.env.scope.kind=.function
 glob:X.env.globals=mainGlobals
 blt:X.env.builtins=builtinsNs
 above:X.s₀.heap.objs.size<=X.env.locals
 inj:∀ x y c,X.env.cells.lookup x=some c->X.env.cells.lookup y=some c->x=y
 has:∀ x,(X.env.kindOf x=some .cell\/X.env.kindOf x=some .free)->∃ c,X.env.cells.lookup x=some c
 cab:∀ x c,X.fn x=true->X.env.cells.lookup x=some c->X.s₀.heap.objs.size<=c
 hd:X.calm=true->X.A.handled=none
 frames:X.A.frames=some X.stack
 stk:X.stack=X.outer\/(X.stack=X.env :: X.outer/\X.env.frame=some X.env.locals)
 exf:∀ b∈X.ex,b≠X.env.locals/\∀ x c,X.env.cells.lookup x=some c->c≠b
 bs:∀ b o,X.base.get? b=some o->X.s₀.heap.get? b=some o/\X.H₀ b=none
 bsz:X.base.objs.size<=X.s₀.heap.objs.size
 noex:∀ b o,X.base.get? b=some o->b∉X.ex
 exfs:∀ b∈X.ex,b∉X.fs
 funs:X.s₀.heap.FunFrames X.base X.outer
 frf:∀ b∈X.fs,X.H₀ b=none
structure Inv (X:Cx) (pins:List (Addr×Obj)) (σ:List (Option V)) (H:Hp) (s:Shared):Prop where
 ok:X.Ok
 os:s.os=X.s₀.os
 bare:AllBare s.gens
 base:Un X.fs X.ex X.H₀ H X.s₀.heap s.heap
 loc:∃ m,s.heap.Ns X.env.locals m/\∀ (i:Nat) (x:Str) (v:V),X.N[i]?=some x->σ[i]?=some (some v)->Vis X.env.scope x->∃ u,RelV v u/\JK X.env s.heap m x u
 cell:∀ x c,X.env.cells.lookup x=some c->∃ v,s.heap.IsCell c v
 free:H X.env.locals=none
 freeC:∀ x c,X.env.cells.lookup x=some c->H c=none
 pin:∀ p∈X.pn++pins,s.heap.get? p.1=some p.2/\H p.1=none/\p.1≠X.env.locals/\p.1∉X.fs/\∀ v,p.2.data≠.cell v
 hok:HOk X.prog X.w H s.heap
 len:σ.length=X.N.length
section
variable {X:Cx} {pins:List (Addr×Obj)} {σ:List (Option V)} {H H':Hp} {s:Shared} {h':Heap}
theorem Cx.Ok.nofr (ok:X.Ok) {b:Addr} {o:Obj} (e:X.base.get? b=some o):b∉X.fs:=λhb=>by
 have:=(ok.funs.mem hb).1;rw [e] at this;cases this
theorem Inv.bs (I:Inv X pins σ H s):∀ b o,X.base.get? b=some o->s.heap.get? b=some o/\H b=none:=λb o e =>
 ⟨I.base.keep b o (I.ok.bs b o e).1 (I.ok.bs b o e).2 (I.ok.nofr e) (I.ok.noex b o e),I.base.free b o (I.ok.bs b o e).1 (I.ok.bs b o e).2 (I.ok.noex b o e)⟩
theorem Inv.bk (I:Inv X pins σ H s):∀ b o,X.base.get? b=some o->s.heap.get? b=some o:=λb o e=>(I.bs b o e).1
theorem Inv.mod (I:Inv X pins σ H s):Mod X.K X.mg X.base:=I.ok.mod
theorem Inv.kIn (I:Inv X pins σ H s):X.K.In s.heap:=I.ok.mod.kin.keeps I.bk
theorem Inv.lt (I:Inv X pins σ H s):X.env.locals < s.heap.objs.size:=let ⟨_,hn,_⟩:=I.loc;hn.lt
theorem Inv.sz (I:Inv X pins σ H s):X.s₀.heap.objs.size<=s.heap.objs.size:=aAw I.ok.above (aAM I.lt)
theorem Inv.nofs (I:Inv X pins σ H s) {a:Addr} (h:s.heap.objs.size<=a):a∉X.fs:=λhb=>by
 obtain ⟨_,o,ho,_⟩:=I.ok.funs.mem hb;exact absurd (aAd (aAb ho) (aAw I.sz h)) (aAx _)
theorem Inv.cne (I:Inv X pins σ H s):∀ x c,X.env.cells.lookup x=some c->c≠X.env.locals:=λx c e z=>by
 obtain ⟨v,o,ho,hd⟩:=I.cell x c e;obtain ⟨m,⟨o',es,ep,ho',hd',_⟩,_⟩:=I.loc;rw [z,ho'] at ho;cases ho;rw [hd'] at hd;cases hd
theorem Inv.funs (I:Inv X pins σ H s):s.heap.FunFrames X.base X.outer:=by
 have all:∀ (l:List Env),(∀ b∈frs l,b∈X.fs)->X.s₀.heap.FunFrames X.base l->s.heap.FunFrames X.base l:=by
  intro l
  induction l with
  | nil=>intro _ _;trivial
  | cons env r ih =>
   intro hs hl;obtain ⟨hk,⟨L,o,hf,hn,ho,hd⟩,hr⟩:=hl;have hL:L∈X.fs:=hs L (by unfold frs;rw [aBz,hf];exact aAr);obtain ⟨sl,e⟩:=I.base.slot L o ho (I.ok.frf L hL) hL λz=>I.ok.exfs L z hL;exact ⟨hk,⟨L,_,hf,hn,e,hd⟩,ih (λb hb=>hs b (by unfold frs;rw [aBz,hf];exact aAp _ hb)) hr⟩
 exact all X.outer (λ_ hb=>hb) I.ok.funs
theorem Inv.stack (I:Inv X pins σ H s):s.heap.FunFrames X.base X.stack:=by
 rcases I.ok.stk with e | ⟨e,hf⟩
 ·rw [e];exact I.funs
 ·rw [e];obtain ⟨m,hn,_⟩:=I.loc;refine .cons (by rw [I.ok.kind];decide) hf hn ?_ I.funs;exact Heap.get?_none_of_le (aAw I.ok.bsz I.ok.above)
theorem Inv.stkSub (I:Inv X pins σ H s):∀ b∈frs X.stack,b∈X.env.locals :: X.fs:=λb hb=>by
 rcases I.ok.stk with e | ⟨e,hf⟩
 ·rw [e] at hb;exact aAp _ hb
 ·rw [e] at hb;unfold frs at hb;rw [aBz,hf] at hb;exact hb
theorem Inv.stkFree (I:Inv X pins σ H s):∀ b∈frs X.stack,H b=none:=λb hb=>by
 rcases aAm.mp (I.stkSub b hb) with e | hb
 ·rw [e];exact I.free
 ·obtain ⟨_,o,ho,_⟩:=I.ok.funs.mem hb;exact I.base.free b o ho (I.ok.frf b hb) λz=>I.ok.exfs b z hb
theorem Inv.step {g':Array GenState} {t':Nat} {d':Drawn} {ch:List Addr} (I:Inv X pins σ H s)
  (hch:∀ b∈ch,(b∈X.ex\/X.s₀.heap.objs.size<=b)/\b≠X.env.locals/\(∀ x c,X.env.cells.lookup x=some c->c≠b)/\∀ p∈X.pn++pins,p.1≠b)
  (keep:∀ b o,b≠X.env.locals->b∉X.fs->b∉ch->s.heap.get? b=some o->H b=none->h'.get? b=some o)
  (slot:∀ b o,b≠X.env.locals->b∈X.fs->b∉ch->s.heap.get? b=some o->H b=none->∃ sl,h'.get? b=some { o with slots:=sl }) (free:∀ b o,b∉ch->s.heap.get? b=some o->H b=none->H' b=none)
  (there:∀ b o,b∉ch->s.heap.get? b=some o->∃ o',h'.get? b=some o')
  (tups:∀ b xs,H b=some (.tup xs)->H' b=some (.tup xs)) (frzs:∀ b o u,H b=some (.frz o u)->H' b=some (.frz o u)) (tbls:∀ b ps,H b=some (.tbl ps)->∃ more,H' b=some (.tbl (ps++more)))
  (ns:∀ m,s.heap.Ns X.env.locals m->h'.Ns X.env.locals m) (hok:HOk X.prog X.w H' h') (hg:AllBare g') :
  Inv X pins σ H' { s with heap:=h',gens:=g',drawn:=d',toks:=t' }:=by
 have neL:∀ b o,X.s₀.heap.get? b=some o->b≠X.env.locals:=λb o e=>aAk (aAd (aAb e) I.ok.above);have neC:∀ b o,X.s₀.heap.get? b=some o->b∉X.ex->b∉ch:=λb o e hx hb=>by
  rcases (hch b hb).1 with z | z
  ·exact hx z
  ·exact absurd (aAd (aAb e) z) (aAx _)
 have cellK:∀ x c,X.env.cells.lookup x=some c->∀ v,s.heap.IsCell c v->h'.IsCell c v:=λx c e v ⟨o,ho,hd⟩=>by
  have nch:c∉ch:=λz=>(hch c z).2.2.1 x c e rfl
  by_cases hc:c∈X.fs
  ·obtain ⟨sl,q⟩:=slot c o (I.cne x c e) hc nch ho (I.freeC x c e);exact ⟨_,q,hd⟩
  ·exact ⟨o,keep c o (I.cne x c e) hc nch ho (I.freeC x c e),hd⟩
 refine ⟨I.ok,I.os,hg,⟨λb o e n hb hx=>?_,λb o e n hb hx=>?_,λb o e n hx=>?_,λb o e hx=>?_,λb xs e=>tups b xs (I.base.tups b xs e),λb o xs e=>frzs b o xs (I.base.frzs b o xs e),λb ps e=>?_⟩,?_,λx c e=>?_,?_,λx c e=>?_,λp hp=>?_,hok,I.len⟩
 ·exact keep b o (neL b o e) hb (neC b o e hx) (I.base.keep b o e n hb hx) (I.base.free b o e n hx)
 ·obtain ⟨sl,e1⟩:=I.base.slot b o e n hb hx;obtain ⟨sl',e2⟩:=slot b _ (neL b o e) hb (neC b o e hx) e1 (I.base.free b o e n hx);exact ⟨sl',e2⟩
 ·obtain ⟨o',e1⟩:=I.base.there b o e hx;exact free b o' (neC b o e hx) e1 (I.base.free b o e n hx)
 ·obtain ⟨o',e1⟩:=I.base.there b o e hx;exact there b o' (neC b o e hx) e1
 ·obtain ⟨m1,e1⟩:=I.base.tbls b ps e;obtain ⟨m2,e2⟩:=tbls b _ e1;exact ⟨m1++m2,by rw [e2,aBC]⟩
 ·obtain ⟨m,hn,hl⟩:=I.loc;refine ⟨m,ns m hn,λi x v e1 e2 e3=>?_⟩;obtain ⟨u,r,l⟩:=hl i x v e1 e2 e3;refine ⟨u,r,?_⟩;rcases l with l | ⟨k,c,e,z⟩
  ·exact .inl l
  ·exact .inr ⟨k,c,e,cellK x c e _ z⟩
 ·obtain ⟨v,z⟩:=I.cell x c e;exact ⟨v,cellK x c e v z⟩
 ·obtain ⟨m,⟨o,_,_,ho,_⟩,_⟩:=I.loc;exact free _ o (λz=>(hch _ z).2.1 rfl) ho I.free
 ·obtain ⟨v,o,ho,hd⟩:=I.cell x c e;exact free c o (λz=>(hch c z).2.2.1 x c e rfl) ho (I.freeC x c e)
 ·obtain ⟨e,n,ne,nf,d⟩:=I.pin p hp;have nch:p.1∉ch:=λz=>(hch p.1 z).2.2.2 p hp rfl;exact ⟨keep p.1 p.2 ne nf nch e n,free p.1 p.2 nch e n,ne,nf,d⟩
theorem Inv.un {t':Nat} (I:Inv X pins σ H s) (u:Un X.fs [] H H' s.heap h') (hok:HOk X.prog X.w H' h'):Inv X pins σ H' { s with heap:=h',toks:=t' }:=by
 obtain ⟨m,⟨o,es,ep,ho,r⟩,_⟩:=id I.loc;obtain ⟨sl,hL⟩:=u.any ho I.free (by simp);exact I.step (g':=s.gens) (d':=s.drawn) (ch:=[]) (λ_ z=>nomatch z) (λb o _ hb _ e n=>u.keep b o e n hb (by simp)) (λb o _ hb _ e n=>u.slot b o e n hb (by simp)) (λb o _ e n=>u.free b o e n (by simp)) (λb o _ e=>u.there b o e (by simp)) u.tups u.frzs u.tbls (λm' hm=>by
  obtain ⟨o',es',ep',ho',r'⟩:=hm;rw [ho] at ho';cases ho';exact ⟨_,es',ep',hL,r'⟩) hok I.bare
theorem Inv.call {g':Array GenState} {t':Nat} {d':Drawn} {ch:List Addr} (I:Inv X pins σ H s) (u:Un (frs X.stack) ch H H' s.heap h') (hok:HOk X.prog X.w H' h') (hg:AllBare g')
  (hch:∀ b∈ch,(b∈X.ex\/X.s₀.heap.objs.size<=b)/\b≠X.env.locals/\(∀ x c,X.env.cells.lookup x=some c->c≠b)/\∀ p∈X.pn++pins,p.1≠b) :
  Inv X pins σ H' { s with heap:=h',gens:=g',drawn:=d',toks:=t' }:=by
 obtain ⟨m,⟨o,es,ep,ho,r⟩,_⟩:=id I.loc;obtain ⟨sl,hL⟩:=u.any ho I.free λz=>(hch _ z).2.1 rfl;exact I.step (ch:=ch) hch (λb o hL hb hc e n=>u.keep b o e n (λz=>(aAm.mp (I.stkSub b z)).elim hL hb) hc) (λb o _ _ hc e n=>u.any e n hc) (λb o hc e n=>u.free b o e n hc) (λb o hc e=>u.there b o e hc) u.tups u.frzs u.tbls (λm' hm=>by
  obtain ⟨o',es',ep',ho',r'⟩:=hm;rw [ho] at ho';cases ho';exact ⟨_,es',ep',hL,r'⟩) hok hg
theorem Inv.turned {t':Nat} {it:Addr} (I:Inv X pins σ H s) (k:∀ b o,b≠it->s.heap.get? b=some o->h'.get? b=some o) (hn:H it=none) (hL:it≠X.env.locals)
  (h1:it∈X.ex\/X.s₀.heap.objs.size<=it) (h2:∀ x c,X.env.cells.lookup x=some c->c≠it) (h3:∀ p∈X.pn++pins,p.1≠it):Inv X pins σ H { s with heap:=h',toks:=t' }:=by
 have nit:∀ b u,H b=some u->b≠it:=λb u e z=>by rw [z,hn] at e;cases e
 refine I.step (g':=s.gens) (d':=s.drawn) (ch:=[it]) (λb hb=>?_) (λb o _ _ hc e _=>k b o (λz=>hc (by simp [z])) e) (λb o _ _ hc e _=>⟨o.slots,k b o (λz=>hc (by simp [z])) e⟩) (λ_ _ _ _ n=>n)
  (λb o hc e=>⟨o,k b o (λz=>hc (by simp [z])) e⟩) (λ_ _ e=>e) (λ_ _ _ e=>e) (λb ps e=>⟨#[],by rw [e];simp⟩) (λm hm=>?_) (λb u e=>?_) I.bare
 ·have e:b=it:=by simpa using hb
  subst e;exact ⟨h1,hL,h2,h3⟩
 ·obtain ⟨o,es,ep,ho,r⟩:=hm;exact ⟨o,es,ep,k _ o (Ne.symm hL) ho,r⟩
 ·refine (I.hok b u e).stay (λc v hc q=>k c v ?_ q) (λ_ q=>q) λ_ _ q=>q;rcases hc with z | z
  ·rw [z];exact nit b u e
  ·exact nit c _ z
theorem Inv.tok (I:Inv X pins σ H s) (t:Nat):Inv X pins σ H { s with toks:=t }:=I.un (h':=s.heap) (t':=t) Un.refl I.hok
theorem Inv.kept {t':Nat} (I:Inv X pins σ H s) (k:∀ b u,s.heap.get? b=some u->h'.get? b=some u):Inv X pins σ H { s with heap:=h',toks:=t' }:=I.un (Un.kept k) (I.hok.kept k)
theorem Inv.laid {a:Addr} {o:HO} {t':Nat} (I:Inv X pins σ H s) (k:∀ b u,s.heap.get? b=some u->h'.get? b=some u) (hp:s.heap.objs.size<=a) (new:ObjOk X.prog X.w (upd H a o) h' a o) :
  Inv X pins σ (upd H a o) { s with heap:=h',toks:=t' }:=I.un (Un.laid k hp (I.hok.fresh hp)) (I.hok.laid k hp new)
theorem Inv.write {x e:Addr} {o:HO} {t':Nat} (I:Inv X pins σ H s) (mu:Mut (H x)) (he:e=x\/H e=some (.own x)) (k:∀ b u,b≠e->s.heap.get? b=some u->h'.get? b=some u) (heo:∃ u,h'.get? e=some u)
  (new:ObjOk X.prog X.w (upd H x o) h' x o):Inv X pins σ (upd H x o) { s with heap:=h',toks:=t' }:=I.un (Un.write mu he k heo) (I.hok.write mu he k heo new)
theorem Inv.pins_of {pins':List (Addr×Obj)} (I:Inv X pins σ H s) (h:∀ p∈pins',s.heap.get? p.1=some p.2/\H p.1=none/\p.1≠X.env.locals/\p.1∉X.fs/\∀ v,p.2.data≠.cell v):Inv X pins' σ H s :=
 ⟨I.ok,I.os,I.bare,I.base,I.loc,I.cell,I.free,I.freeC,λp hp=>(aA9.mp hp).elim (λz=>I.pin p (aBr _ z)) (h p),I.hok,I.len⟩
theorem iW {N:List Str} (hN:N.Nodup) {i j:Nat} {x:Str} (a:N[i]?=some x) (b:N[j]?=some x):i=j:=by
 obtain ⟨h1,e1⟩:=aAc.mp a;obtain ⟨h2,e2⟩:=aAc.mp b;exact (List.getElem_inj hN).mp (e1.trans e2.symm)
theorem kn {M:Model} {A:Around} {E:Value->Shared->Prop} {i:Nat} {x:Str} {v:V} {u:Value} {Q:Unit->Shared->Prop} (I:Inv X pins σ H s) (hN:X.N.Nodup) (hi:X.N[i]?=some x) (hx:Loc X.env.scope x) (r:RelV v u)
  (h:∀ s',Inv X pins (σ.set i (some v)) H s'->(∃ a,Heap.SameBut a s.heap s'.heap/\(a=X.env.locals\/X.env.cells.lookup x=some a))->Q () s') (hf:X.fn x=true\/X.env.scope.names.lookup x=some .local:=by first | exact .inl rfl | exact .inr rfl | assumption):wpAny M A (storeName X.env x u) Q E s:=by
 obtain ⟨m,hn,hl⟩:=id I.loc;have hcls:(X.env.scope.kind == .class || (X.env.scope.kind == .module && X.env.locals != X.env.globals))=false:=by rw [I.ok.kind];rfl
 have hiσ:i < σ.length:=by rw [I.len];exact (aAc.mp hi).1
 have cne:=I.cne;have tracked:∀ {a:Addr} {h':Heap},(∃ o,s.heap.get? a=some o/\H a=none)->Heap.SameBut a s.heap h'->HOk X.prog X.w H h':=λ{a h'} ha hs b ob e=>by
  obtain ⟨_,_,hfree⟩:=ha;refine (I.hok b ob e).stay (λc w' hc q=>(hs.2 c ?_).trans q) (λ_ q=>q) λ_ _ q=>q;rintro rfl;rcases hc with rfl | hc
  ·rw [hfree] at e;cases e
  ·rw [hfree] at hc;cases hc
 rcases hx with hk | hk
 ·refine wpAny_storeName_local hk hn (λh' hn' hs=>?_) hcls;obtain ⟨oL,_,_,hoL,_⟩:=id hn;refine h _ ⟨I.ok,I.os,I.bare,⟨λb o e n hb hx=>?_,λb o e n hb hx=>?_,I.base.free,λb o e hx=>?_,I.base.tups,I.base.frzs,I.base.tbls⟩,⟨_,hn',λj y v' e1 e2 e3=>?_⟩,λy c e=>?_,I.free,I.freeC,λp hp=>?_,tracked ⟨oL,hoL,I.free⟩ hs,by simpa using I.len⟩ ⟨_,hs,.inl rfl⟩
  ·exact (hs.2 b (aAk (aAd (aAb e) I.ok.above))).trans (I.base.keep b o e n hb hx)
  ·obtain ⟨sl,e1⟩:=I.base.slot b o e n hb hx;exact ⟨sl,(hs.2 b (aAk (aAd (aAb e) I.ok.above))).trans e1⟩
  ·obtain ⟨o',e1⟩:=I.base.there b o e hx;exact ⟨o',(hs.2 b (aAk (aAd (aAb e) I.ok.above))).trans e1⟩
  ·by_cases hj:j=i
   ·subst hj;rw [hi] at e1;cases e1;rw [aBn hiσ] at e2
    cases e2
    exact ⟨u,r,.inl ⟨hk,by simp⟩⟩
   ·rw [aBs (Ne.symm hj)] at e2;obtain ⟨u',r',q⟩:=hl j y v' e1 e2 e3;refine ⟨u',r',?_⟩;rcases q with ⟨k,e⟩ | ⟨k,c,e,z⟩
    ·refine .inl ⟨k,?_⟩;have:y≠x:=λe=>hj (iW hN e1 (e ▸ hi));simp [this,e]
    ·exact .inr ⟨k,c,e,z.sameBut hs (cne y c e)⟩
  ·obtain ⟨w',z⟩:=I.cell y c e;exact ⟨w',z.sameBut hs (cne y c e)⟩
  ·obtain ⟨e,n,ne,nf,d⟩:=I.pin p hp;exact ⟨(hs.2 p.1 ne).trans e,n,ne,nf,d⟩
 ·have hfn:X.fn x=true:=by
   rcases hf with z | z
   ·exact z
   ·rw [z] at hk;cases hk
  obtain ⟨c,hc⟩:=I.ok.has x (.inl hk);obtain ⟨w',z⟩:=I.cell x c hc;refine wpAny_storeName_cell I.ok.kind hk hc z (λh' hc' hs=>?_);obtain ⟨oc,hoc,hocd⟩:=id z;refine h { s with heap:=h' } ⟨I.ok,I.os,I.bare,⟨λb o e n hb hx=>?_,λb o e n hb hx=>?_,I.base.free,λb o e hx=>?_,I.base.tups,I.base.frzs,I.base.tbls⟩,⟨m,hn.sameBut hs (Ne.symm (cne x c hc)),λj y v' e1 e2 e3=>?_⟩,λy c' e=>?_,I.free,I.freeC,λp hp=>?_,tracked ⟨oc,hoc,I.freeC x c hc⟩ hs,by simpa using I.len⟩ ⟨c,hs,.inr hc⟩
  ·exact (hs.2 b (aAk (aAd (aAb e) (I.ok.cab x c hfn hc)))).trans (I.base.keep b o e n hb hx)
  ·obtain ⟨sl,e1⟩:=I.base.slot b o e n hb hx;exact ⟨sl,(hs.2 b (aAk (aAd (aAb e) (I.ok.cab x c hfn hc)))).trans e1⟩
  ·obtain ⟨o',e1⟩:=I.base.there b o e hx;exact ⟨o',(hs.2 b (aAk (aAd (aAb e) (I.ok.cab x c hfn hc)))).trans e1⟩
  ·by_cases hj:j=i
   ·subst hj;rw [hi] at e1;cases e1;rw [aBn hiσ] at e2
    cases e2
    exact ⟨u,r,.inr ⟨.inl hk,c,hc,hc'⟩⟩
   ·rw [aBs (Ne.symm hj)] at e2;obtain ⟨u',r',q⟩:=hl j y v' e1 e2 e3;refine ⟨u',r',?_⟩;rcases q with q | ⟨k,c',e,z'⟩
    ·exact .inl q
    ·refine .inr ⟨k,c',e,z'.sameBut hs ?_⟩;rintro rfl;exact hj (iW hN e1 (I.ok.inj _ _ _ e hc ▸ hi))
  ·by_cases hcc:c'=c
   ·subst hcc;exact ⟨_,hc'⟩
   ·obtain ⟨w2,z2⟩:=I.cell y c' e;exact ⟨w2,z2.sameBut hs hcc⟩
  ·obtain ⟨e,n,ne,nf,d⟩:=I.pin p hp;refine ⟨(hs.2 p.1 ?_).trans e,n,ne,nf,d⟩;intro q;rw [q,hoc] at e;have q':oc=p.2:=Option.some.inj e;exact d w' (by rw [<- q'];exact hocd)
theorem iX {M:Model} {A:Around} {E:Value->Shared->Prop} {i:Nat} {x:Str} {v:V} {u:Value} {Q:Unit->Shared->Prop} (I:Inv X pins σ H s) (hN:X.N.Nodup) (hi:X.N[i]?=some x) (hx:Loc X.env.scope x) (r:RelV v u)
  (h:∀ s',Inv X pins (σ.set i (some v)) H s'->Q () s') (hf:X.fn x=true\/X.env.scope.names.lookup x=some .local:=by first | exact .inl rfl | exact .inr rfl | assumption):wpAny M A (storeName X.env x u) Q E s :=
 kn I hN hi hx r (λs' I' _=>h s' I') hf
theorem Inv.call' {s':Shared} {ch:List Addr} (I:Inv X pins σ H s) (ho:s'.os=s.os) (u:Un (frs X.stack) ch H H' s.heap s'.heap) (hok:HOk X.prog X.w H' s'.heap) (hg:AllBare s'.gens)
  (hch:∀ b∈ch,(b∈X.ex\/X.s₀.heap.objs.size<=b)/\b≠X.env.locals/\(∀ x c,X.env.cells.lookup x=some c->c≠b)/\∀ p∈X.pn++pins,p.1≠b):Inv X pins σ H' s':=by
 obtain ⟨h',g',d',t',o'⟩:=s';have e:o'=s.os:=ho;subst e;exact I.call (g':=g') (t':=t') (d':=d') u hok hg hch
end
abbrev XK:=Value->Option Addr->Hp->Prop
abbrev St:=List (Option V)
abbrev VK:=V->Hp->Prop
abbrev TE:=St->Hp->VK->Prop
abbrev TT:=St->Hp->(Bool->Hp->Prop)->Prop
abbrev TA:=St->Hp->(List V->Hp->Prop)->Prop
structure Ends where
 nx:St->Hp->Prop
 rt:VK
 bk:St->Hp->Prop:=λ_ _=>False
 ct:St->Hp->Prop:=λ_ _=>False
abbrev TS:=Ends->St->Hp->Prop
def EP (X:Cx) (pins:List (Addr×Obj)) (σ:St) (Q:VK) (u:Value) (s':Shared):Prop:=∃ v H',Inv X pins σ H' s'/\RelV v u/\Q v H'
def TP (X:Cx) (pins:List (Addr×Obj)) (σ:St) (Q:Bool->Hp->Prop) (b:Bool) (s':Shared):Prop:=∃ H',Inv X pins σ H' s'/\Q b H'
def AP (X:Cx) (pins:List (Addr×Obj)) (σ:St) (Q:List V->Hp->Prop) (us:List Value) (s':Shared):Prop:=∃ vs H',Inv X pins σ H' s'/\Vals vs us/\Q vs H'
def SP (X:Cx) (pins:List (Addr×Obj)) (D:Ends) (f:Flow) (s':Shared):Prop :=
 match f with
 | .next=>∃ σ' H',Inv X pins σ' H' s'/\D.nx σ' H'
 | .brk=>∃ σ' H',Inv X pins σ' H' s'/\D.bk σ' H'
 | .cont=>∃ σ' H',Inv X pins σ' H' s'/\D.ct σ' H'
 | .ret u=>∃ v σ' H',Inv X pins σ' H' s'/\RelV v u/\D.rt v H'
def PE (X:Cx) (e:Expr) (t:TE):Prop :=
 ∀ (pins:List (Addr×Obj)) (s:Shared) (σ:St) (H:Hp) (Q:VK),Inv X pins σ H s->t σ H Q->wpAny (model X.prog X.w) X.A (eval e X.env) (EP X pins σ Q) X.xe s
def PT (X:Cx) (e:Expr) (t:TT):Prop :=
 ∀ (pins:List (Addr×Obj)) (s:Shared) (σ:St) (H:Hp) (Q:Bool->Hp->Prop),Inv X pins σ H s->t σ H Q->wpAny (model X.prog X.w) X.A (isTrue e X.env (eval e X.env)) (TP X pins σ Q) X.xe s
def PW (X:Cx) (e:Expr) (t:TT):Prop :=
 ∀ (whole:Sem Value) (pins:List (Addr×Obj)) (s:Shared) (σ:St) (H:Hp) (Q:Bool->Hp->Prop),Inv X pins σ H s->t σ H Q->wpAny (model X.prog X.w) X.A (isTrue e X.env whole) (TP X pins σ Q) X.xe s
theorem PW.pt {X:Cx} {e:Expr} {t:TT} (h:PW X e t):PT X e t:=h _
def PA (X:Cx) (es:List Expr) (t:TA):Prop :=
 ∀ (pos:Pos) (pins:List (Addr×Obj)) (s:Shared) (σ:St) (H:Hp) (Q:List V->Hp->Prop),Inv X pins σ H s->t σ H Q->wpAny (model X.prog X.w) X.A (spliced (backTo pos (starEach es X.env))) (AP X pins σ Q) X.xe s
def PS (X:Cx) (st:Stmt) (t:TS):Prop :=
 ∀ (pins:List (Addr×Obj)) (s:Shared) (σ:St) (H:Hp) (D:Ends),Inv X pins σ H s->t D σ H->wpAny (model X.prog X.w) X.A (exec st X.env) (SP X pins D) X.xe s
def PSs (X:Cx) (st:List Stmt) (t:TS):Prop :=
 ∀ (pins:List (Addr×Obj)) (s:Shared) (σ:St) (H:Hp) (D:Ends),Inv X pins σ H s->t D σ H->wpAny (model X.prog X.w) X.A (execs st X.env) (SP X pins D) X.xe s
theorem thn {α:Type} {t:Sem α} {Q Q':α->Shared->Prop} {M:Model} {A:Around} {E:Value->Shared->Prop} {s:Shared} (h:wpAny M A t Q E s) (hQ:∀ a s,Q a s->Q' a s):wpAny M A t Q' E s:=wpAny_mono h hQ λ_ _ x=>x
section
variable {X:Cx}
inductive IVar (i:Nat) (σ:St) (H:Hp) (Q:VK):Prop
 | mk (v:V):(σ[i]?=some (some v))->(Q v H)->IVar i σ H Q
def mD (i:Nat):TE:=λσ H Q=>IVar i σ H Q
def tC (v:V):TE:=λ_ H Q=>Q v H
theorem AM {i:Nat} {x:Str} {pos:Pos} (hN:X.N[i]?=some x) (hv:Vis X.env.scope x) (hd:(x == ("__debug__" : Str))=false:=by decide) (hcd:(x == ("__classdict__" : Str))=false:=by decide):PE X (.Name x pos) (mD i):=by
 intro pins s σ H Q I h;obtain ⟨v,e,h⟩:=h;obtain ⟨m,hn,hl⟩:=I.loc;obtain ⟨u,r,l⟩:=hl i x v hN e hv;have fin:EP X pins σ Q u s:=⟨v,H,I,r,h⟩;rcases l with ⟨hk,hm⟩ | ⟨hk,c,hc,hcell⟩
 ·exact wpAny_Name (wpAny_loadName_local I.ok.kind hk hn hm fin) hd
 ·rcases hk with hk | hk
  ·exact wpAny_Name (wpAny_loadName_cell I.ok.kind hk hc hcell fin) hd
  ·exact wpAny_Name (wpAny_loadName_free I.ok.kind hk hc hcell fin hcd) hd
theorem pe_int {i j pos}:PE X (.Constant (.int i) j pos) (tC (.int i)):=λ_ _ _ H _ I h=>wpAny_Constant_int ⟨.int i,H,I.tok _,⟨_,rfl⟩,h⟩
theorem pe_bl {b j pos}:PE X (.Constant (.bool b) j pos) (tC (.bl b)):=λ_ _ _ H _ I h=>Constant_bool ⟨.bl b,H,I,rfl,h⟩
theorem pe_non {j pos}:PE X (.Constant .none j pos) (tC .non):=λ_ _ _ H _ I h=>Constant_none ⟨.non,H,I,rfl,h⟩
theorem pe_str {x j pos}:PE X (.Constant (.str x) j pos) (tC (.str x)):=λ_ _ _ H _ I h=>Calls.Constant_str ⟨.str x,H,I.tok _,⟨_,rfl⟩,h⟩
def Gl (X:Cx) (x:Str):Prop:=X.env.kindOf x=some .globalImplicit
theorem aY {E:Value->Shared->Prop} {pins:List (Addr×Obj)} {s:Shared} {σ:St} {H:Hp} {x:Str} {u:Value} {pos:Pos} {Q:Value->Shared->Prop} (I:Inv X pins σ H s) (hg:Gl X x) (hm:X.mg x=some u) (h:Q u s)
  (hd:(x == ("__debug__" : Str))=false:=by decide):wpAny (model X.prog X.w) X.A (eval (.Name x pos) X.env) Q E s :=
 Calls.Name_function_global I.ok.kind hg (Calls.loadGlobal_global (by rw [I.ok.glob];exact I.mod.glob.keeps I.bk) hm h) hd
theorem di {E:Value->Shared->Prop} {pins:List (Addr×Obj)} {s:Shared} {σ:St} {H:Hp} {x:Str} {u:Value} {pos:Pos} {Q:Value->Shared->Prop} (I:Inv X pins σ H s) (hg:Gl X x) (hm:X.mg x=none) (hv:bootBuiltins x=some u) (h:Q u s)
  (hn:x≠ "__name__" :=by decide) (hd:(x == ("__debug__" : Str))=false:=by decide):wpAny (model X.prog X.w) X.A (eval (.Name x pos) X.env) Q E s:=by
 obtain ⟨mb,h1,h2⟩:=I.mod.blt;exact Calls.Name_function_global I.ok.kind hg (Calls.loadGlobal_builtin (by rw [I.ok.glob];exact I.mod.glob.keeps I.bk) hm (by rw [I.ok.blt];exact h1.keeps I.bk) ((h2 x hn).trans hv) h) hd
theorem kU {x:Str} {v:V} {u:Value} {pos:Pos} (hg:Gl X x) (hm:X.mg x=some u) (r:RelV v u) (hd:(x == ("__debug__" : Str))=false:=by decide):PE X (.Name x pos) (tC v) :=
 λ_ _ _ H _ I h=>aY I hg hm ⟨v,H,I,r,h⟩ hd
theorem vw {x:Str} {v:V} {u:Value} {pos:Pos} (hg:Gl X x) (hm:X.mg x=none) (hv:bootBuiltins x=some u) (r:RelV v u) (hn:x≠ "__name__" :=by decide) (hd:(x == ("__debug__" : Str))=false:=by decide):PE X (.Name x pos) (tC v) :=
 λ_ _ _ H _ I h=>di I hg hm hv ⟨v,H,I,r,h⟩ hn hd
variable {a b:Expr} {ta tb:TE} {pos:Pos}
def tB (t:TE):TT:=λσ H Q=>t σ H λx H1=>∃ c,x=.bl c/\Q c H1
theorem pt_val {e:Expr} {t:TE} (h:PE X e t) (he:∀ whole,isTrue e X.env whole=(do let v <- whole;standAt e.pos;holding [v] (truthy v)):=by intro _;rfl):PT X e (tB t):=by
 intro pins s σ H Q I hw;refine isTrue_plain (thn (h pins s σ H _ I hw) λv s1 ⟨x,H1,I1,r1,q1⟩=>?_) (he _);obtain ⟨d,rfl,q⟩:=q1
 cases r1
 exact wpAny_truthy_bool ⟨H1,I1,q⟩
variable {tA tB':TT} {rest:List Expr}
def JL (t u:TT):TT:=λσ H Q=>t σ H λc H1=>if c=true then u σ H1 Q else Q false H1
def tOr (t u:TT):TT:=λσ H Q=>t σ H λc H1=>if c=true then Q true H1 else u σ H1 Q
def JM (t:TT):TT:=λσ H Q=>t σ H λc H1=>Q (!c) H1
theorem eP (ha:PT X a tA):PW X (.BoolOp .And [a] pos) tA:=by
 intro wh pins s σ H Q I h;refine isTrue_and (thn (ha pins s σ H Q I h) λc s1 e=>?_)
 cases c with
 | true=>exact isTrue_and_nil e
 | false=>exact e
theorem pw_or1 (ha:PT X a tA):PW X (.BoolOp .Or [a] pos) tA:=by
 intro wh pins s σ H Q I h;refine isTrue_or (thn (ha pins s σ H Q I h) λc s1 e=>?_)
 cases c with
 | false=>exact isTrue_or_nil e
 | true=>exact e
theorem fA (ha:PT X a tA) (hb:PW X (.BoolOp .And (b :: rest) pos) tB'):PW X (.BoolOp .And (a :: b :: rest) pos) (JL tA tB'):=by
 intro wh pins s σ H Q I h;refine isTrue_and (thn (ha pins s σ H _ I h) λc s1 ⟨H1,I1,q1⟩=>?_)
 cases c with
 | true=>exact hb wh pins s1 σ H1 Q I1 q1
 | false=>exact ⟨H1,I1,q1⟩
theorem pw_or (ha:PT X a tA) (hb:PW X (.BoolOp .Or (b :: rest) pos) tB'):PW X (.BoolOp .Or (a :: b :: rest) pos) (tOr tA tB'):=by
 intro wh pins s σ H Q I h;refine isTrue_or (thn (ha pins s σ H _ I h) λc s1 ⟨H1,I1,q1⟩=>?_)
 cases c with
 | true=>exact ⟨H1,I1,q1⟩
 | false=>exact hb wh pins s1 σ H1 Q I1 q1
theorem pt_not (ha:PT X a tA):PT X (.UnaryOp .Not a pos) (JM tA):=by
 intro pins s σ H Q I h;exact isTrue_not (ha pins s σ H (λc H1=>Q (!c) H1) I h)
def Iv (ta tb:TE):TE:=λσ H Q=>ta σ H λx H1=>∃ c,x=.bl c/\if c=true then tb σ H1 Q else Q (.bl false) H1
def JN (ta tb:TE):TE:=λσ H Q=>ta σ H λx H1=>∃ c,x=.bl c/\if c=true then Q (.bl true) H1 else tb σ H1 Q
def Iw (ta:TE):TE:=λσ H Q=>ta σ H λx H1=>∃ c,x=.bl c/\Q (.bl (!c)) H1
theorem pe_one {op} {t:TE} (h:PE X a t):PE X (.BoolOp op [a] pos) t:=λpins s σ H Q I hw=>BoolOp_one (h pins s σ H Q I hw)
theorem pe_and (ha:PE X a ta) (hb:PE X (.BoolOp .And (b :: rest) pos) tb):PE X (.BoolOp .And (a :: b :: rest) pos) (Iv ta tb):=by
 intro pins s σ H Q I h;refine BoolOp_and (thn (ha pins s σ H _ I h) λv s1 ⟨x,H1,I1,r1,q1⟩=>?_);obtain ⟨c,rfl,q1⟩:=q1
 cases r1
 refine wpAny_truthy_bool ?_
 cases c with
 | true=>exact hb pins s1 σ H1 Q I1 q1
 | false=>exact ⟨.bl false,H1,I1,rfl,q1⟩
theorem pe_or (ha:PE X a ta) (hb:PE X (.BoolOp .Or (b :: rest) pos) tb):PE X (.BoolOp .Or (a :: b :: rest) pos) (JN ta tb):=by
 intro pins s σ H Q I h;refine BoolOp_or (thn (ha pins s σ H _ I h) λv s1 ⟨x,H1,I1,r1,q1⟩=>?_);obtain ⟨c,rfl,q1⟩:=q1
 cases r1
 refine wpAny_truthy_bool ?_
 cases c with
 | false=>exact hb pins s1 σ H1 Q I1 q1
 | true=>exact ⟨.bl true,H1,I1,rfl,q1⟩
theorem AN (ha:PE X a ta):PE X (.UnaryOp .Not a pos) (Iw ta):=by
 intro pins s σ H Q I h;refine UnaryOp_ (thn (ha pins s σ H _ I h) λv s1 ⟨x,H1,I1,r1,q1⟩=>?_);obtain ⟨c,rfl,q1⟩:=q1
 cases r1
 exact not_of (wpAny_truthy_bool ⟨.bl (!c),H1,I1,rfl,q1⟩)
def tIf (t:TT) (ta tb:TE):TE:=λσ H Q=>t σ H λc H1=>if c=true then ta σ H1 Q else tb σ H1 Q
theorem iY {c:Expr} (hc:PT X c tA) (ha:PE X a ta) (hb:PE X b tb):PE X (.IfExp c a b pos) (tIf tA ta tb):=by
 intro pins s σ H Q I h;refine wpAny_IfExp (thn (hc pins s σ H _ I h) λd s1 ⟨H1,I1,q1⟩=>?_)
 cases d with
 | true=>exact ha pins s1 σ H1 Q I1 q1
 | false=>exact hb pins s1 σ H1 Q I1 q1
end
def SqL (K:W.Frag) (H:Hp) (a:Addr) (xs:List V):Prop :=
 Rd H a (.lst xs) \/
  ∃ (o:Obj) (its:Array Value) (n:Nat),K.lookup a=some o/\o.cls=.type "list" /\o.dict=none/\o.data=.seq its n/\its.size<=sizeLine/\Vals xs its.toList
def SqT (K:W.Frag) (H:Hp) (a:Addr) (xs:List V):Prop :=
 Rd H a (.tup xs) \/
  ∃ (o:Obj) (its:Array Value) (n:Nat),K.lookup a=some o/\o.cls=.type "tuple" /\o.data=.seq its n/\its.size<=sizeLine/\Vals xs its.toList
def JO:Value->Option V
 | .none=>some .non
 | .bool b=>some (.bl b)
 | .int i _=>some (.int i)
 | .str x _=>some (.str x)
 | .bytes b _=>some (.byt b)
 | .float b _=>some (.flt b)
 | .ref a=>some (.ref a)
 | .type n=>some (.ty n)
 | _=>none
theorem RelV.abs {x:V} {u:Value} (r:RelV x u):JO u=some x:=by
 cases x with
 | non=>cases r;rfl
 | bl _=>cases r;rfl
 | int _=>obtain ⟨t,rfl⟩:=r;rfl
 | str _=>obtain ⟨t,rfl⟩:=r;rfl
 | byt _=>obtain ⟨t,rfl⟩:=r;rfl
 | flt _=>obtain ⟨t,rfl⟩:=r;rfl
 | ref _=>cases r;rfl
 | ty _=>cases r;rfl
theorem RelV.inj {x y:V} {u:Value} (r:RelV x u) (q:RelV y u):x=y:=Option.some.inj (r.abs.symm.trans q.abs)
theorem Vals.inj:∀ {xs ys:List V} {us:List Value},Vals xs us->Vals ys us->xs=ys
 | _,_,_,.nil,.nil=>rfl
 | _,_,_,.cons r t,.cons r' t'=>by rw [r.inj r',Vals.inj t t']
section
variable {X:Cx} {pins:List (Addr×Obj)} {σ:St} {H:Hp} {s:Shared} {a:Addr} {xs ys:List V}
theorem SqL.of {K:W.Frag} (h:H a=some (.lst xs)):SqL K H a xs:=.inl (.inl h)
theorem Inv.list (I:Inv X pins σ H s) (h:SqL X.K H a xs):∃ its:List Value,Vals xs its/\PlainL s.heap a its.toArray/\xs.length<=sizeLine:=by
 rcases h with h | ⟨o,its,n,hk,hc,hd,hs,hz,r⟩
 ·obtain ⟨z,its,n,r,e⟩:=h.ok I.hok;exact ⟨its,r,⟨_,n,e,rfl,rfl,rfl⟩,z⟩
 ·refine ⟨its.toList,r,⟨o,n,I.kIn a o hk,hc,hd,by simpa using hs⟩,?_⟩;have e:=r.length;simp only [aA1] at e;lia
theorem Inv.tuple (I:Inv X pins σ H s) (h:SqT X.K H a xs):∃ its:List Value,Vals xs its/\IsTup s.heap a its.toArray/\xs.length<=sizeLine:=by
 rcases h with h | ⟨o,its,n,hk,hc,hs,hz,r⟩
 ·obtain ⟨z,its,r,p⟩:=h.ok I.hok;exact ⟨its,r,p,z⟩
 ·refine ⟨its.toList,r,⟨o,I.kIn a o hk,hc,n,by simpa using hs⟩,?_⟩;have e:=r.length;simp only [aA1] at e;lia
theorem Inv.list_inj (I:Inv X pins σ H s) (h:SqL X.K H a xs) (h':SqL X.K H a ys):xs=ys:=by
 obtain ⟨its,r,⟨o,n,e,_,_,d⟩,_⟩:=I.list h;obtain ⟨its',r',⟨o',n',e',_,_,d'⟩,_⟩:=I.list h';rw [e] at e';cases e';rw [d] at d';injection d' with d1 _
 have:its=its':=by simpa using congrArg Array.toList d1
 subst this;exact r.inj r'
theorem Inv.tuple_inj (I:Inv X pins σ H s) (h:SqT X.K H a xs) (h':SqT X.K H a ys):xs=ys:=by
 obtain ⟨its,r,⟨o,e,_,n,d⟩,_⟩:=I.tuple h;obtain ⟨its',r',⟨o',e',_,n',d'⟩,_⟩:=I.tuple h';rw [e] at e';cases e';rw [d] at d';injection d' with d1 _
 have:its=its':=by simpa using congrArg Array.toList d1
 subst this;exact r.inj r'
end
abbrev Cx.wish (X:Cx) (E:Value->Shared->Prop):Cx:={ X with xe:=E }
abbrev Cx.nox (X:Cx):Cx:=X.wish λ_ _=>False
theorem Cx.Ok.wish {X:Cx} (ok:X.Ok) (E:Value->Shared->Prop):(X.wish E).Ok :=
 ⟨ok.mod,ok.kind,ok.glob,ok.blt,ok.above,ok.inj,ok.has,ok.cab,ok.hd,ok.frames,ok.stk,ok.exf,ok.bs,ok.bsz,ok.noex,ok.exfs,ok.funs,ok.frf⟩
theorem Cx.Ok.unwish {X:Cx} {E:Value->Shared->Prop} (ok:(X.wish E).Ok):X.Ok :=
 ⟨ok.mod,ok.kind,ok.glob,ok.blt,ok.above,ok.inj,ok.has,ok.cab,ok.hd,ok.frames,ok.stk,ok.exf,ok.bs,ok.bsz,ok.noex,ok.exfs,ok.funs,ok.frf⟩
section
variable {X:Cx} {pins:List (Addr×Obj)} {σ:St} {H:Hp} {s:Shared} {E:Value->Shared->Prop}
theorem Inv.wish (I:Inv X pins σ H s) (E:Value->Shared->Prop):Inv (X.wish E) pins σ H s:=⟨I.ok.wish E,I.os,I.bare,I.base,I.loc,I.cell,I.free,I.freeC,I.pin,I.hok,I.len⟩
theorem Inv.unwish (I:Inv (X.wish E) pins σ H s):Inv X pins σ H s:=⟨I.ok.unwish,I.os,I.bare,I.base,I.loc,I.cell,I.free,I.freeC,I.pin,I.hok,I.len⟩
theorem SP.unwish {D:Ends} {f:Flow} {s':Shared} (h:SP (X.wish E) pins D f s'):SP X pins D f s':=by
 cases f with
 | next=>obtain ⟨σ',H',I,q⟩:=h;exact ⟨σ',H',I.unwish,q⟩
 | brk=>obtain ⟨σ',H',I,q⟩:=h;exact ⟨σ',H',I.unwish,q⟩
 | cont=>obtain ⟨σ',H',I,q⟩:=h;exact ⟨σ',H',I.unwish,q⟩
 | ret u=>obtain ⟨v,σ',H',I,r,q⟩:=h;exact ⟨v,σ',H',I.unwish,r,q⟩
theorem PSs.nox {st:List Stmt} {t:TS} (h:PSs X.nox st t):PSs X st t:=λpins s σ H D I hw =>
 wpAny_mono (h pins s σ H D (I.wish _) hw) (λ_ _ q=>q.unwish) λ_ _ z=>False.elim z
end
section
variable {X:Cx} {st:Stmt} {rest:List Stmt} {t u:TS} {e:Expr} {te:TE} {pos:Pos}
def mE:TS:=λD σ H=>D.nx σ H
def sP (t u:TS):TS:=λD σ H=>t { D with nx:=u D } σ H
theorem pss_nil:PSs X [] mE:=λ_ _ σ H _ I h=>wpAny_execs_nil ⟨σ,H,I,h⟩
theorem pss_cons (h1:PS X st t) (h2:PSs X rest u):PSs X (st :: rest) (sP t u):=by
 intro pins s σ H D I h;refine wpAny_execs_cons (thn (h1 pins s σ H { D with nx:=u D } I h) λf s1 q=>?_)
 cases f with
 | next =>
  obtain ⟨σ',H',I',q⟩:=q;exact h2 pins s1 σ' H' D I' q
 | ret v=>exact q
 | brk=>exact q
 | cont=>exact q
theorem pss_one (h1:PS X st t):PSs X [st] t:=by
 intro pins s σ H D I h;refine wpAny_execs_cons (thn (h1 pins s σ H D I h) λf s1 q=>?_)
 cases f with
 | next=>exact wpAny_execs_nil q
 | ret v=>exact q
 | brk=>exact q
 | cont=>exact q
theorem Inv.quiet {pins:List (Addr×Obj)} {σ:St} {H:Hp} {s:Shared} (I:Inv X pins σ H s):interactive X.env=false:=by simp [interactive,I.ok.kind]
def Ix (te:TE):TS:=λD σ H=>te σ H λ_ H1=>D.nx σ H1
theorem qk (he:PE X e te) (hs:swapsWith e none pos.line X.env=pure false:=by rfl):PS X (.Expr e pos) (Ix te):=by
 intro pins s σ H D I h;exact wpAny_Expr_any (thn (he pins s σ H _ I h) λv s1 ⟨x,H1,I1,r1,q1⟩=>⟨σ,H1,I1,q1⟩) I.quiet hs
def JP (te:TE):TS:=λD σ H=>te σ H D.rt
theorem ps_ret (he:PE X e te):PS X (.Return (some e) pos) (JP te):=by
 intro pins s σ H D I h;exact wpAny_Return_some (thn (he pins s σ H _ I h) λv s1 ⟨x,H1,I1,r1,q1⟩=>⟨x,σ,H1,I1,r1,q1⟩)
def AO (c:TT) (t u:TS):TS:=λD σ H=>c σ H λb H1=>if b=true then t D σ H1 else u D σ H1
theorem ps_if {c:Expr} {a b:List Stmt} {tc:TT} (hc:PT X c tc) (ha:PSs X a t) (hb:PSs X b u):PS X (.If c a b pos) (AO tc t u):=by
 intro pins s σ H D I h;refine wpAny_If (thn (hc pins s σ H _ I h) λd s1 ⟨H1,I1,q1⟩=>?_)
 cases d with
 | true=>exact ha pins s1 σ H1 D I1 q1
 | false=>exact hb pins s1 σ H1 D I1 q1
end
abbrev TG:=V->St->Hp->(St->Hp->Prop)->Prop
abbrev TGs:=List V->St->Hp->(St->Hp->Prop)->Prop
def PG (X:Cx) (target:Expr) (t:TG):Prop :=
 ∀ (pins:List (Addr×Obj)) (s:Shared) (σ:St) (H:Hp) (v:V) (u:Value) (Q:St->Hp->Prop),Inv X pins σ H s->RelV v u->t v σ H Q ->
  wpAny (model X.prog X.w) X.A (assign target X.env u) (λ_ s'=>∃ σ' H',Inv X pins σ' H' s'/\Q σ' H') X.xe s
def PGs (X:Cx) (ts:List Expr) (t:TGs):Prop :=
 ∀ (pins:List (Addr×Obj)) (s:Shared) (σ:St) (H:Hp) (vs:List V) (us:List Value) (Q:St->Hp->Prop),Inv X pins σ H s->Vals vs us->t vs σ H Q ->
  wpAny (model X.prog X.w) X.A (assignInOrder ((assignEach ts X.env).map (·.2)) us) (λ_ s'=>∃ σ' H',Inv X pins σ' H' s'/\Q σ' H') X.xe s
abbrev AQ:=V->V->V->Hp->(Hp->Prop)->Prop
def Iy (X:Cx) (t:AQ):Prop :=
 ∀ (pins:List (Addr×Obj)) (s:Shared) (σ:St) (H:Hp) (o i v:V) (ov iv u:Value) (Q:Hp->Prop),Inv X pins σ H s->RelV o ov->RelV i iv->RelV v u->t o i v H Q ->
  wpAny (model X.prog X.w) X.A (setItem ov iv u) (λ_ s'=>∃ H',Inv X pins σ H' s'/\Q H') X.xe s
section
variable {X:Cx} {pos:Pos}
def dX (i:Nat):TG:=λv σ H Q=>Q (σ.set i (some v)) H
theorem ai {i:Nat} {x:Str} (hN:X.N.Nodup) (hi:X.N[i]?=some x) (hx:Loc X.env.scope x) (hf:X.fn x=true\/X.env.scope.names.lookup x=some .local:=by first | exact .inl rfl | exact .inr rfl | assumption):PG X (.Name x pos) (dX i):=by
 intro pins s σ H v u Q I r h;exact wpAny_assign_Name (iX I hN hi hx r (λs' I'=>⟨_,H,I',h⟩) hf)
def JQ:TGs:=λvs σ H Q=>vs=[]/\Q σ H
def Iz (t:TG) (u:TGs):TGs:=λvs σ H Q=>∃ v r,vs=v :: r/\t v σ H λσ' H'=>u r σ' H' Q
theorem bY:PGs X [] JQ:=by
 intro pins s σ H vs us Q I r h;obtain ⟨e,h⟩:=h;subst e
 cases r
 exact assignInOrder_nil ⟨σ,H,I,h⟩
theorem az {e:Expr} {es:List Expr} {t:TG} {u:TGs} (h1:PG X e t) (h2:PGs X es u)
  (hs:(assignEach (e :: es) X.env).map (·.2)=assign e X.env :: (assignEach es X.env).map (·.2):=by rfl):PGs X (e :: es) (Iz t u):=by
 intro pins s σ H vs us Q I r h;obtain ⟨v,vr,e1,h⟩:=h;subst e1
 cases r with
 | cons r rr =>
  rw [hs];refine assignInOrder_cons (thn (h1 pins s σ H _ _ _ I r h) λ_ s1 ⟨σ1,H1,I1,q1⟩=>?_);exact h2 pins s1 σ1 H1 _ _ Q I1 rr q1
def IA (K:W.Frag) (n:Nat) (t:TGs):TG:=λv σ H Q=>∃ a xs,v=.ref a/\SqT K H a xs/\xs.length=n/\t xs σ H Q
theorem oE {es:List Expr} {k:Nat} {t:TGs} {n:Nat} (hc:X.calm=true) (h:PGs X es t)
  (hn:(assignEach es X.env).length=n:=by rfl) (hst:(assignEach es X.env).findIdx? (·.1)=none:=by rfl):PG X (.Tuple es k pos) (IA X.K n t):=by
 intro pins s σ H v u Q I r hw;obtain ⟨a,xs,e1,hq,hl,hw⟩:=hw;subst e1
 cases r
 obtain ⟨its,rv,ht,hz⟩:=I.tuple hq;refine assign_Tuple_tuple (I.ok.hd hc) ht (by simp [hn,<- hl,rv.length]) hst λh' hx=>?_;have I1:Inv X pins σ H { s with heap:=h' }:=I.kept (t':=s.toks) λb o e=>hx b o (aAk (aAb e)) e;exact h pins _ σ H xs _ Q I1 (by simpa using rv) hw
def gSub (to ti:TE) (t:AQ):TG:=λv σ H Q=>to σ H λo H1=>ti σ H1 λi H2=>t o i v H2 λH3=>Q σ H3
theorem AR {o i:Expr} {to ti:TE} {t:AQ} (ho:PE X o to) (hi:PE X i ti) (hs:Iy X t)
  (ha:∀ v,assign (.Subscript o i pos) X.env v=(do
   let ov <- holding [v] (eval o X.env)
   let iv <- holding [v,ov] (eval i X.env)
   standAt pos
   holding [v,ov,iv] (setItem ov iv v)
   release [v,ov,iv] []):=by intro _;rfl):PG X (.Subscript o i pos) (gSub to ti t):=by
 intro pins s σ H v u Q I r h;rw [ha];refine wpAny_bind (wpAny_holding (thn (ho pins s σ H _ I h) λov s1 ⟨x,H1,I1,r1,q1⟩=>?_));refine wpAny_bind (wpAny_holding (thn (hi pins s1 σ H1 _ I1 q1) λiv s2 ⟨y,H2,I2,r2,q2⟩=>?_));refine wpAny_bind (wpAny_standAt (wpAny_bind (wpAny_holding (thn (hs pins s2 σ H2 x y v ov iv u _ I2 r1 r2 r q2) λ_ s3 ⟨H3,I3,q3⟩=>?_))));exact wpAny_release ⟨σ,H3,I3,q3⟩
def re (te:TE) (g:TG):TS:=λD σ H=>te σ H λx H1=>g x σ H1 D.nx
theorem sQ {tg e:Expr} {te:TE} {g:TG} (he:PE X e te) (hg:PG X tg g) (hs:swapsWithSole [tg] e pos.line X.env=pure false:=by rfl) (hw:swappedStores [tg] e X.env=pure none:=by rfl)
  (h1:(assignEach [tg] X.env).map (·.2)=[assign tg X.env]:=by rfl):PS X (.Assign [tg] e pos) (re te g):=by
 intro pins s σ H D I h;refine wpAny_Assign_stores (thn (he pins s σ H _ I h) λv s1 ⟨x,H1,I1,r1,q1⟩=>?_) hs hw;rw [h1];exact thn (hg pins s1 σ H1 x v _ I1 r1 q1) λ_ s2 q=>q
theorem ps_set {i:Nat} {x:Str} {e:Expr} {te:TE} {pos':Pos} (hN:X.N.Nodup) (hi:X.N[i]?=some x) (hx:Loc X.env.scope x) (he:PE X e te) (hs:swapsWith e (some (.Name x pos')) pos.line X.env=pure false:=by rfl) (hf:X.fn x=true\/X.env.scope.names.lookup x=some .local:=by first | exact .inl rfl | exact .inr rfl | assumption) :
  PS X (.Assign [.Name x pos'] e pos) (re te (dX i)):=by
 intro pins s σ H D I h;refine wpAny_Assign_Name (thn (he pins s σ H _ I h) λv s1 ⟨y,H1,I1,r1,q1⟩=>?_) hs;exact iX I1 hN hi hx r1 (λs2 I2=>⟨_,H1,I2,q1⟩) hf
end
section
variable {X:Cx} {pos:Pos}
end
structure It where
 go:Nat->Hp->Prop
 yld:Nat->Hp->V->Hp->Prop
 stop:Nat->Hp->Prop
def dj (X:Cx) (pins:List (Addr×Obj)) (H:Hp) (b:Addr):Prop :=
 H b=none/\b≠X.env.locals/\b∉X.fs/\(b∈X.ex\/X.s₀.heap.objs.size<=b)/\(∀ x c,X.env.cells.lookup x=some c->c≠b)/\∀ p∈X.pn++pins,p.1≠b
theorem Inv.fpOk {X:Cx} {pins:List (Addr×Obj)} {σ:St} {H H':Hp} {s:Shared} {b:Addr} (I:Inv X pins σ H s) (hb:s.heap.objs.size<=b) (hn:H' b=none):dj X pins H' b:=by
 refine ⟨hn,aAQ (aAd I.lt hb),I.nofs hb,.inr (aAw I.sz hb),λx c e z=>?_,λp hp z=>?_⟩
 ·obtain ⟨v,q⟩:=I.cell x c e;exact absurd (aAd q.lt (by rw [z];exact hb)) (aAx _)
 ·exact absurd (aAd (aAb (I.pin p hp).1) (by rw [z];exact hb)) (aAx _)
structure Turn (P:Program) (w:World) (K:W.Frag) (tg:Expr) (J:It) (fp:List Addr) (it:Addr) (tn:Nat->Heap->Prop):Prop where
 mem:it∈fp
 obj:∀ i h,tn i h->∀ b∈fp,∃ o,h.get? b=some o/\∀ v,o.data≠.cell v
 keep:∀ i h h',tn i h->(∀ b∈fp,∀ o,h.get? b=some o->h'.get? b=some o)->tn i h'
 item:∀ (X:Cx),X.prog=P->X.w=w->X.K=K->X.calm=true->∀ (i:Nat) (pins:List (Addr×Obj)) (s:Shared) (σ:St) (H:Hp) (E:Value->Shared->Prop),Inv X pins σ H s->(∀ b∈fp,dj X pins H b)->tn i s.heap->J.go i H ->
  wpAny (model P w) X.A (pyNext (.ref it)) (λr s1=>∃ u,r=some u /\
   wpAny (model P w) X.A (letOwnedTupleGo tg (.ref it) u) (λ_ s2=>∃ x H',Inv X pins σ H' s2/\RelV x u/\J.yld i H x H'/\tn (i+1) s2.heap/\∀ b∈fp,H' b=none) E s1) E s
 done:∀ (X:Cx),X.prog=P->X.w=w->X.K=K->X.calm=true->∀ (i:Nat) (pins:List (Addr×Obj)) (s:Shared) (σ:St) (H:Hp) (E:Value->Shared->Prop),Inv X pins σ H s->(∀ b∈fp,dj X pins H b)->tn i s.heap->J.stop i H ->
  wpAny (model P w) X.A (pyNext (.ref it)) (λr s1=>r=none/\Inv X pins σ H s1) E s
 self:∀ (A:Around) (i:Nat) (s:Shared) (Q:Value->Shared->Prop) (E:Value->Shared->Prop),tn i s.heap->Q (.ref it) s->wpAny (model P w) A (pyIter (.ref it)) Q E s
abbrev TI:=St->Hp->(It->Hp->Prop)->Prop
def PIE (X:Cx) (pins:List (Addr×Obj)) (σ:St) (tg:Expr) (R:It->Hp->Prop) (itv:Value) (s2:Shared):Prop :=
 ∃ (it:Addr) (fp:List Addr) (tn:Nat->Heap->Prop) (J:It) (H':Hp),itv=.ref it/\Inv X pins σ H' s2/\Turn X.prog X.w X.K tg J fp it tn/\tn 0 s2.heap/\(∀ b∈fp,dj X pins H' b)/\R J H'
def PI (X:Cx) (tg iter:Expr) (wi:TI):Prop :=
 ∀ (pins:List (Addr×Obj)) (s:Shared) (σ:St) (H:Hp) (R:It->Hp->Prop),Inv X pins σ H s->wi σ H R ->
  wpAny (model X.prog X.w) X.A (eval iter X.env) (λv s1=>wpAny (model X.prog X.w) X.A (pyIter v) (PIE X pins σ tg R) X.xe s1) X.xe s
theorem ko {M:Model} {A:Around} {E:Value->Shared->Prop} {s:Shared} {tg:Expr} {it:Addr} {u:Value} {o:Obj} {n:String} {vs:Array Value} {Q:Unit->Shared->Prop} (ho:s.heap.get? it=some o) (hc:o.cls=.type n) (hd:o.data=.fields vs)
    (hn:["enumerate","zip","dict_itemiterator","dict_reverseitemiterator","odict_iterator","itertools.zip_longest","itertools.pairwise"].contains n=false) (hQ:Q () s):wpAny M A (letOwnedTupleGo tg (.ref it) u) Q E s:=by
  unfold letOwnedTupleGo
  cases tg <;> first
    | exact wpAny_pure hQ
    | (cases u <;> first
        | exact wpAny_pure hQ
        | (refine wpAny_bind (wpAny_load ho ?_)
           rw [hc,hd];show wpAny M A (if (["enumerate","zip","dict_itemiterator","dict_reverseitemiterator","odict_iterator","itertools.zip_longest","itertools.pairwise"].contains n && vs[0]? == some (rawInt _))=true then _ else _) Q E s;rw [if_neg (by intro h;rw [hn,aAv] at h;cases h)];exact wpAny_pure hQ))
def Itl (K:W.Frag) (a:Addr):It :=
 ⟨λi H=>∃ xs x,SqL K H a xs/\xs[i]?=some x,λi H x H'=>H'=H/\∀ xs,SqL K H a xs->xs[i]?=some x,λi H=>∃ xs,SqL K H a xs/\xs.length<=i⟩
def Itt (K:W.Frag) (a:Addr):It :=
 ⟨λi H=>∃ xs x,SqT K H a xs/\xs[i]?=some x,λi H x H'=>H'=H/\∀ xs,SqT K H a xs->xs[i]?=some x,λi H=>∃ xs,SqT K H a xs/\xs.length<=i⟩
def Itr (lo:Int) (n:Nat):It:=⟨λi _=>i < n,λi H x H'=>H'=H/\x=.int (lo+i),λi _=>n<=i⟩
theorem rg {P:Program} {w:World} {K:W.Frag} {tg:Expr} (a it:Addr):Turn P w K tg (Itl K a) [it] it (λi h=>h.IsListIter it a i) where
 mem:=by simp
 obj:=λi h st b hb=>by
  have e:b=it:=by simpa using hb
  subst e;obtain ⟨o,e,c,d⟩:=st;exact ⟨o,e,λv z=>by rw [d] at z;cases z⟩
 keep:=λi h h' st k=>st.at λo e=>k it (by simp) o e
 item:=by
  intro X hP hw hK hc i pins s σ H E I hf st hg;subst hP hw hK;obtain ⟨xs,x,hq,hx⟩:=hg;obtain ⟨its,rv,p,hz⟩:=I.list hq;obtain ⟨u,hu,ru⟩:=rv.get hx;obtain ⟨f0,f1,f2,f3,f4,f5⟩:=hf it (by simp);refine wpAny_pyNext_list_item st p.isList (x:=u) (by simpa using hu) λh' st' sb=>?_;have I1:Inv X pins σ H { s with heap:=h' }:=I.turned (t':=s.toks) (λb o hb e=>(sb.2 b hb).trans e) f0 f1 f3 f4 f5;obtain ⟨o,e,c,d⟩:=id st';exact ⟨u,rfl,ko (s:={ s with heap:=h' }) e c d (1) ⟨x,H,I1,ru,⟨rfl,λys hy=>by rw [I.list_inj hy hq];exact hx⟩,st',λb hb=>(hf b hb).1⟩⟩
 done:=by
  intro X hP hw hK hc i pins s σ H E I hf st hg;subst hP hw hK;obtain ⟨xs,hq,hx⟩:=hg;obtain ⟨its,rv,p,hz⟩:=I.list hq;obtain ⟨f0,f1,f2,f3,f4,f5⟩:=hf it (by simp);have hl:=rv.length;exact wpAny_pyNext_list_end (I.ok.hd hc) st p.isList (by simp;lia) λh' eb=>⟨rfl,I.turned (t':=s.toks) (λb o hb e=>eb b o hb e) f0 f1 f3 f4 f5⟩
 self:=λ_ _ _ _ _ st h=>wpAny_pyIter_listiter st h
theorem oF {P:Program} {w:World} {K:W.Frag} {tg:Expr} (a it:Addr):Turn P w K tg (Itt K a) [it] it (λi h=>h.IsTupleIter it a i) where
 mem:=by simp
 obj:=λi h st b hb=>by
  have e:b=it:=by simpa using hb
  subst e;obtain ⟨o,e,c,d⟩:=st;exact ⟨o,e,λv z=>by rw [d] at z;cases z⟩
 keep:=λi h h' st k=>st.at λo e=>k it (by simp) o e
 item:=by
  intro X hP hw hK hc i pins s σ H E I hf st hg;subst hP hw hK;obtain ⟨xs,x,hq,hx⟩:=hg;obtain ⟨its,rv,p,hz⟩:=I.tuple hq;obtain ⟨u,hu,ru⟩:=rv.get hx;obtain ⟨f0,f1,f2,f3,f4,f5⟩:=hf it (by simp);refine wpAny_pyNext_tuple_item st (show s.heap.IsTuple a its.toArray from p) (x:=u) (by simpa using hu) λh' st' sb=>?_;have I1:Inv X pins σ H { s with heap:=h' }:=I.turned (t':=s.toks) (λb o hb e=>(sb.2 b hb).trans e) f0 f1 f3 f4 f5;obtain ⟨o,e,c,d⟩:=id st';exact ⟨u,rfl,ko (s:={ s with heap:=h' }) e c d (1) ⟨x,H,I1,ru,⟨rfl,λys hy=>by rw [I.tuple_inj hy hq];exact hx⟩,st',λb hb=>(hf b hb).1⟩⟩
 done:=by
  intro X hP hw hK hc i pins s σ H E I hf st hg;subst hP hw hK;obtain ⟨xs,hq,hx⟩:=hg;obtain ⟨its,rv,p,hz⟩:=I.tuple hq;obtain ⟨f0,f1,f2,f3,f4,f5⟩:=hf it (by simp);have hl:=rv.length;exact wpAny_pyNext_tuple_end (I.ok.hd hc) st (show s.heap.IsTuple a its.toArray from p) (by simp;lia) λh' eb=>⟨rfl,I.turned (t':=s.toks) (λb o hb e=>eb b o hb e) f0 f1 f3 f4 f5⟩
 self:=λ_ _ _ _ _ st h=>wpAny_pyIter_tupleiter st h
theorem iZ {P:Program} {w:World} {K:W.Frag} {tg:Expr} (it:Addr) (lo:Int) (n:Nat):Turn P w K tg (Itr lo n) [it] it (λi h=>IsRangeIter h it (lo+(i:Nat)*1) ((n:Int) - (i:Nat)) 1) where
 mem:=by simp
 obj:=λi h st b hb=>by
  have e:b=it:=by simpa using hb
  subst e;exact ⟨_,st,λv z=>by
   have z':Data.fields _=Data.cell v:=z
   cases z'⟩
 keep:=λi h h' st k=>k it (by simp) _ st
 item:=by
  intro X hP hw hK hc i pins s σ H E I hf st hg;subst hP hw hK;obtain ⟨f0,f1,f2,f3,f4,f5⟩:=hf it (by simp);have W:=Walks.range (prog:=X.prog) (w:=X.w) (I.ok.hd hc) it lo 1 n;refine W.item i s _ _ hg st λv h' tk hv st' kk=>?_;obtain ⟨t,rfl⟩:=hv;have I1:Inv X pins σ H { s with heap:=h',toks:=tk }:=I.turned (λb o hb e=>kk b o (by simpa using hb) e) f0 f1 f3 f4 f5;refine ⟨_,rfl,ko (s:={ s with heap:=h',toks:=tk }) (n:= "range_iterator") st' rfl rfl (1) ⟨.int (lo+i),H,I1,⟨t,?_⟩,⟨rfl,rfl⟩,st',λb hb=>(hf b hb).1⟩⟩;rw [Int.mul_one]
 done:=by
  intro X hP hw hK hc i pins s σ H E I hf st hg;subst hP hw hK;obtain ⟨f0,f1,f2,f3,f4,f5⟩:=hf it (by simp);exact wpAny_pyNext_range_end (I.ok.hd hc) st (by have:n<=i:=hg;lia) λh' eb=>⟨rfl,I.turned (t':=s.toks) (λb o hb e=>eb b o hb e) f0 f1 f3 f4 f5⟩
 self:=λ_ _ _ _ _ st h=>wpAny_pyIter_rangeiter st h
section
variable {X:Cx} {tg:Expr}
def wX (K:W.Frag) (tl:TE):TI:=λσ H R=>tl σ H λx H1=>∃ a,x=.ref a/\(∃ xs,SqL K H1 a xs)/\R (Itl K a) H1
def IB (K:W.Frag) (tl:TE):TI:=λσ H R=>tl σ H λx H1=>∃ a,x=.ref a/\(∃ xs,SqT K H1 a xs)/\R (Itt K a) H1
theorem vx {l:Expr} {tl:TE} (hl:PE X l tl):PI X tg l (wX X.K tl):=by
 intro pins s σ H R I h;refine thn (hl pins s σ H _ I h) λv s1 ⟨x,H1,I1,r1,q1⟩=>?_;obtain ⟨a,e,⟨xs,hq⟩,q⟩:=q1;subst e
 cases r1
 obtain ⟨its,rv,p,hz⟩:=I1.list hq;refine wpAny_pyIter_list p.isList ?_;refine ⟨s1.heap.objs.size,[s1.heap.objs.size],_,_,H1,rfl,I1.kept (t':=s1.toks) λb o e=>aAa _ e,rg a _,⟨_,aAg _ rfl,rfl,rfl⟩,λb hb=>?_,q⟩;have e:b=s1.heap.objs.size:=by simpa using hb
 subst e;exact I1.fpOk (aAf _) (I1.hok.fresh (aAf _))
theorem AS {l:Expr} {tl:TE} (hl:PE X l tl):PI X tg l (IB X.K tl):=by
 intro pins s σ H R I h;refine thn (hl pins s σ H _ I h) λv s1 ⟨x,H1,I1,r1,q1⟩=>?_;obtain ⟨a,e,⟨xs,hq⟩,q⟩:=q1;subst e
 cases r1
 obtain ⟨its,rv,p,hz⟩:=I1.tuple hq;refine wpAny_pyIter_tuple (show s1.heap.IsTuple a its.toArray from p) ?_;refine ⟨s1.heap.objs.size,[s1.heap.objs.size],_,_,H1,rfl,I1.kept (t':=s1.toks) λb o e=>aAa _ e,oF a _,⟨_,aAg _ rfl,rfl,rfl⟩,λb hb=>?_,q⟩;have e:b=s1.heap.objs.size:=by simpa using hb
 subst e;exact I1.fpOk (aAf _) (I1.hok.fresh (aAf _))
theorem sR {pins:List (Addr×Obj)} {σ:St} {H:Hp} {s:Shared} {R:It->Hp->Prop} {E:Value->Shared->Prop} {lo hi:Int} {t u v:Tok} {tk:Nat} (I:Inv X pins σ H s) (h1:-(2 ^ 62)<=lo) (h2:lo < 2 ^ 62) (h3:-(2 ^ 62)<=hi) (h4:hi < 2 ^ 62)
  (q:R (Itr lo (hi - lo).toNat) H):wpAny (model X.prog X.w) X.A (pyIter (.ref s.heap.objs.size)) (PIE X pins σ tg R) E { s with heap:=s.heap.push { cls:=.type "range",data:=.fields #[.int lo t,.int hi u,.int 1 v] },toks:=tk }:=by
 refine wpAny_pyIter_range (IsRange.new ..) (small_one h1 h2 h3 h4) ?_;have I1:Inv X pins σ H { s with heap:=s.heap.push { cls:=.type "range",data:=.fields #[.int lo t,.int hi u,.int 1 v] },toks:=tk }:=I.kept λb o e=>aAa _ e;refine ⟨(s.heap.push { cls:=.type "range",data:=.fields #[.int lo t,.int hi u,.int 1 v] }).objs.size,[(s.heap.push { cls:=.type "range",data:=.fields #[.int lo t,.int hi u,.int 1 v] }).objs.size],_,_,H,rfl,
  I1.kept (t':=tk) λb o e=>aAa _ e,iZ _ lo (hi - lo).toNat,?_,λb hb=>?_,q⟩
 ·have e1:lo+((0:Nat):Int)*1=lo:=by simp
  have e2:(((hi - lo).toNat:Nat):Int) - ((0:Nat):Int)=Builtin.Range.rangeSize lo hi 1:=by rw [rangeSize_one];split <;> lia
  show IsRangeIter _ _ (lo+((0:Nat):Int)*1) ((((hi - lo).toNat:Nat):Int) - ((0:Nat):Int)) 1;rw [e1,e2];exact aAg _ rfl
 ·have e:b=(s.heap.push { cls:=.type "range",data:=.fields #[.int lo t,.int hi u,.int 1 v] }).objs.size:=by simpa using hb
  subst e;exact I1.fpOk (aAf _) (I1.hok.fresh (aAf _))
def sS (ta:TA):TI:=λσ H R=>ta σ H λvs H1=>∃ j:Int,vs=[.int j]/\-(2 ^ 62)<=j/\j < 2 ^ 62/\R (Itr 0 j.toNat) H1
theorem cg {a:Expr} {ta:TA} {p pos:Pos} (hg:Gl X "range") (hm:X.mg "range" = none) (ha:PA X [a] ta) (hs:starEach [a] X.env=[(false,eval a X.env)]:=by rfl):PI X tg (.Call (.Name "range" p) [a] [] pos) (sS ta):=by
 intro pins s σ H R I h;refine Call_ (di I hg hm boot_range (PyProof.Rows.callWith_type1 (thn (ha pos pins s σ H _ I h) λus s1 ⟨vs,H1,I1,r1,q1⟩=>?_) hs rfl));obtain ⟨j,e,q1,q2,q⟩:=q1;subst e
 cases r1 with
 | cons r rr =>
  cases rr
  obtain ⟨t,rfl⟩:=r;exact call_range_1 (sR I1 (by lia) (by lia) q1 q2 (by simpa using q))
def tFor (wi:TI) (g:TG) (tb:TS):TS:=λD σ H=>wi σ H λJ H1=>∃ W:Nat->Nat->St->Hp->Prop,(∃ m,W 0 m σ H1)/\∀ i m σ H,W i m σ H ->
 (J.stop i H/\D.nx σ H)\/(J.go i H/\∃ N:St->Hp->Prop,(∀ σ' H',N σ' H'->∃ m',m' < m/\W (i+1) m' σ' H')/\∀ x H',J.yld i H x H'->g x σ H' λσ2 H2=>tb { D with nx:=N,ct:=N,bk:=D.nx } σ2 H2)
def kW (fp:List Addr) (h:Heap):List (Addr×Obj):=fp.filterMap λb=>(h.get? b).map λo=>(b,o)
theorem be {fp:List Addr} {h:Heap} {b:Addr} {o:Obj} (hb:b∈fp) (e:h.get? b=some o):(b,o)∈kW fp h:=aAl.mpr ⟨b,hb,by rw [e];rfl⟩
theorem rh {fp:List Addr} {h:Heap} {p:Addr×Obj} (hp:p∈kW fp h):p.1∈fp/\h.get? p.1=some p.2:=by
 obtain ⟨b,hb,e⟩:=aAl.mp hp
 cases q:h.get? b with
 | none=>rw [q] at e;cases e
 | some o =>
  rw [q] at e;have e':(b,o)=p:=Option.some.inj e;subst e';exact ⟨hb,q⟩
theorem Inv.pinned {pins:List (Addr×Obj)} {σ:St} {H:Hp} {s:Shared} {fp:List Addr} (I:Inv X pins σ H s) (hf:∀ b∈fp,dj X pins H b) (ho:∀ b∈fp,∃ o,s.heap.get? b=some o/\∀ v,o.data≠.cell v):Inv X (pins++kW fp s.heap) σ H s :=
 I.pins_of λp hp=>(aA9.mp hp).elim (λz=>I.pin p (aAn _ z)) λz=>by
  obtain ⟨hb,e⟩:=rh z;obtain ⟨f0,f1,f2,_⟩:=hf p.1 hb;obtain ⟨o,e',d⟩:=ho p.1 hb;rw [e] at e';cases e';exact ⟨e,f0,f1,f2,d⟩
theorem Inv.unpinned {pins pl:List (Addr×Obj)} {σ:St} {H:Hp} {s:Shared} (I:Inv X (pins++pl) σ H s):Inv X pins σ H s:=I.pins_of λp hp=>I.pin p (aAn _ (aBr _ hp))
theorem dm {iter:Expr} {body:List Stmt} {wi:TI} {g:TG} {tb:TS} {pos:Pos} (hp:PassesOwn (model X.prog X.w) X.A X.env X.xe) (hc:X.calm=true) (hi:PI X tg iter wi) (hg:PG X tg g) (hb:PSs X body tb)
  (hs:∀ x,foldedSetIterable iter X.env x=pure x:=by intro _;rfl):PS X (.For tg iter body [] pos) (tFor wi g tb):=by
 intro pins s σ H D I h;refine wpAny_For (thn (hi pins s σ H _ I h) λv s1 h1=>thn h1 λitv s2 h2=>?_) hs;obtain ⟨it,fp,tn,J,H2,e,I2,T,st2,f2,W,⟨m0,w0⟩,turn⟩:=h2;subst e;have stat:∀ {H':Hp},(∀ b∈fp,H' b=none)->∀ b∈fp,dj X pins H' b:=λhn b hb=>⟨hn b hb,(f2 b hb).2⟩;refine codeAny_forLoop_any (λn s'=>∃ i σ' H',Inv X pins σ' H' s'/\tn i s'.heap/\(∀ b∈fp,H' b=none)/\W i n σ' H') ?_ m0 ⟨0,σ,H2,I2,st2,λb hb=>(f2 b hb).1,w0⟩;rintro n s3 ⟨i,σ3,H3,I3,st3,fr3,w3⟩;rcases turn i n σ3 H3 w3 with ⟨stop,qn⟩ | ⟨go,N,hN,step⟩
 ·refine wpAny_passesOwn hp (thn (T.done X rfl rfl rfl hc i pins s3 σ3 H3 X.xe I3 (stat fr3) st3 stop) λr s4 ⟨hr,I4⟩=>?_);subst hr;exact wpAny_execs_nil ⟨σ3,H3,I4,qn⟩
 ·refine wpAny_passesOwn hp (thn (T.item X rfl rfl rfl hc i pins s3 σ3 H3 X.xe I3 (stat fr3) st3 go) λr s4 ⟨u,hr,h4⟩=>?_);subst hr;refine wpAny_passesOwn hp (thn h4 λ_ s5 ⟨x,H5,I5,r5,y5,st5,fr5⟩=>?_);have I5':=I5.pinned (stat fr5) (T.obj _ _ st5);refine wpAny_passesOwn hp (thn (hg _ s5 σ3 H5 x u _ I5' r5 (step x H5 y5)) λ_ s6 ⟨σ6,H6,I6,q6⟩=>?_);refine wpAny_passesOwn hp (thn (hb _ s6 σ6 H6 _ I6 q6) λf s7 q7=>?_);have again:∀ {σ7:St} {H7:Hp},Inv X (pins++kW fp s5.heap) σ7 H7 s7->N σ7 H7->∃ m,m < n/\∃ i σ' H',Inv X pins σ' H' s7/\tn i s7.heap/\(∀ b∈fp,H' b=none)/\W i m σ' H':=λ{σ7 H7} I7 n7=>by
   obtain ⟨m',hm,w7⟩:=hN σ7 H7 n7;refine ⟨m',hm,i+1,σ7,H7,I7.unpinned,T.keep _ _ _ st5 λb hb o e=>(I7.pin (b,o) (aAn _ (aAn _ (be hb e)))).1,λb hb=>?_,w7⟩;obtain ⟨o,e,d⟩:=T.obj _ _ st5 b hb;exact (I7.pin (b,o) (aAn _ (aAn _ (be hb e)))).2.1
  cases f with
  | next=>obtain ⟨σ7,H7,I7,n7⟩:=q7;exact again I7 n7
  | cont=>obtain ⟨σ7,H7,I7,n7⟩:=q7;exact again I7 n7
  | brk=>obtain ⟨σ7,H7,I7,q7⟩:=q7;exact ⟨σ7,H7,I7.unpinned,q7⟩
  | ret v=>obtain ⟨x7,σ7,H7,I7,r7,q7⟩:=q7;exact ⟨x7,σ7,H7,I7.unpinned,r7,q7⟩
end
theorem kX {K:W.Frag} {a:Addr} {xs:List V} {g:TG} {tb:TS} {D:Ends} {σ:St} {H:Hp} (Pv:Nat->St->Hp->Prop) (h0:Pv 0 σ H) (hl:∀ i σ H,i<=xs.length->Pv i σ H->SqT K H a xs)
  (hs:∀ i x σ H,xs[i]?=some x->Pv i σ H->g x σ H λσ2 H2=>tb { D with nx:=Pv (i+1),ct:=Pv (i+1),bk:=D.nx } σ2 H2) (hd:∀ σ H,Pv xs.length σ H->D.nx σ H) :
  ∃ W:Nat->Nat->St->Hp->Prop,(∃ m,W 0 m σ H)/\∀ i m σ H,W i m σ H ->
   ((Itt K a).stop i H/\D.nx σ H)\/((Itt K a).go i H/\∃ N:St->Hp->Prop,(∀ σ' H',N σ' H'->∃ m',m' < m/\W (i+1) m' σ' H')/\∀ x H',(Itt K a).yld i H x H'->g x σ H' λσ2 H2=>tb { D with nx:=N,ct:=N,bk:=D.nx } σ2 H2):=by
 refine ⟨λi m σ H=>m=xs.length - i/\i<=xs.length/\Pv i σ H,⟨xs.length,by simp,aAI _,h0⟩,?_⟩;rintro i m σ H ⟨rfl,hi,p⟩;have q:=hl i σ H hi p
 by_cases hlt:i < xs.length
 ·refine .inr ⟨⟨xs,xs[i],q,by simp [hlt]⟩,Pv (i+1),λσ' H' p'=>⟨xs.length - (i+1),by lia,rfl,hlt,p'⟩,λx H' y=>?_⟩;obtain ⟨e,y⟩:=y;subst e;exact hs i x σ _ (y xs q) p
 ·have e:i=xs.length:=by lia
  subst e;exact .inl ⟨⟨xs,q,aAf _⟩,hd σ H p⟩
theorem c7 {lo:Int} {n:Nat} {g:TG} {tb:TS} {D:Ends} {σ:St} {H:Hp} (Pv:Nat->St->Hp->Prop) (h0:Pv 0 σ H)
  (hs:∀ i σ H,i < n->Pv i σ H->g (.int (lo+i)) σ H λσ2 H2=>tb { D with nx:=Pv (i+1),ct:=Pv (i+1),bk:=D.nx } σ2 H2) (hd:∀ σ H,Pv n σ H->D.nx σ H) :
  ∃ W:Nat->Nat->St->Hp->Prop,(∃ m,W 0 m σ H)/\∀ i m σ H,W i m σ H ->
   ((Itr lo n).stop i H/\D.nx σ H)\/((Itr lo n).go i H/\∃ N:St->Hp->Prop,(∀ σ' H',N σ' H'->∃ m',m' < m/\W (i+1) m' σ' H')/\∀ x H',(Itr lo n).yld i H x H'->g x σ H' λσ2 H2=>tb { D with nx:=N,ct:=N,bk:=D.nx } σ2 H2):=by
 refine ⟨λi m σ H=>m=n - i/\i<=n/\Pv i σ H,⟨n,by simp,aAI _,h0⟩,?_⟩;rintro i m σ H ⟨rfl,hi,p⟩
 by_cases hlt:i < n
 ·refine .inr ⟨hlt,Pv (i+1),λσ' H' p'=>⟨n - (i+1),by lia,rfl,hlt,p'⟩,λx H' y=>?_⟩;obtain ⟨e,y⟩:=y;subst e y;exact hs i σ _ hlt p
 ·have e:i=n:=by lia
  subst e;exact .inl ⟨aAf _,hd σ H p⟩
abbrev R2:=V->V->Hp->VK->Prop
def OpR (X:Cx) (f:Value->Value->Sem Value) (r:R2):Prop :=
 ∀ (pins:List (Addr×Obj)) (s:Shared) (σ:St) (H:Hp) (x y:V) (v u:Value) (Q:VK),Inv X pins σ H s->RelV x v->RelV y u->r x y H Q ->
  wpAny (model X.prog X.w) X.A (f v u) (EP X pins σ Q) X.xe s
def UnR (X:Cx) (f:Value->Sem Value) (r:V->Hp->VK->Prop):Prop :=
 ∀ (pins:List (Addr×Obj)) (s:Shared) (σ:St) (H:Hp) (x:V) (v:Value) (Q:VK),Inv X pins σ H s->RelV x v->r x H Q ->
  wpAny (model X.prog X.w) X.A (f v) (EP X pins σ Q) X.xe s
def aS (X:Cx) (f:Value) (r:List V->Hp->VK->Prop):Prop :=
 ∀ (pins:List (Addr×Obj)) (s:Shared) (σ:St) (H:Hp) (xs:List V) (us:List Value) (Q:VK),Inv X pins σ H s->Vals xs us->r xs H Q ->
  wpAny (model X.prog X.w) X.A (call f us) (EP X pins σ Q) X.xe s
def tOp (r:R2) (ta tb:TE):TE:=λσ H Q=>ta σ H λx H1=>tb σ H1 λy H2=>r x y H2 Q
def tUn (r:V->Hp->VK->Prop) (ta:TE):TE:=λσ H Q=>ta σ H λx H1=>r x H1 Q
inductive IRI (C:Int->Int->Prop) (g:Int->Int->V) (x y:V) (H:Hp) (Q:VK):Prop
 | mk (i j:Int):(x=.int i)->(y=.int j)->(C i j)->(Q (g i j) H)->IRI C g x y H Q
def rI (C:Int->Int->Prop) (g:Int->Int->V):R2:=λx y H Q=>IRI C g x y H Q
inductive IRI0 (g:Int->Int->V) (x y:V) (H:Hp) (Q:VK):Prop
 | mk (i j:Int):(x=.int i)->(y=.int j)->(Q (g i j) H)->IRI0 g x y H Q
def rI0 (g:Int->Int->V):R2:=λx y H Q=>IRI0 g x y H Q
def rU (g:Int->V):V->Hp->VK->Prop:=λx H Q=>∃ i,x=.int i/\Q (g i) H
section
variable {X:Cx} {a b c:Expr} {ta tb tc:TE} {pos:Pos}
theorem AT (ha:PE X a ta) (hb:PE X b tb) {pins:List (Addr×Obj)} {s:Shared} {σ:St} {H:Hp} {R:V->V->Hp->Prop} (I:Inv X pins σ H s)
  (h:ta σ H λx H1=>tb σ H1 λy H2=>R x y H2) {Q:Value->Shared->Prop} {f:Value->Value->Sem Value}
  (hf:∀ v u s2 x y H2,Inv X pins σ H2 s2->RelV x v->RelV y u->R x y H2->wpAny (model X.prog X.w) X.A (f v u) Q X.xe s2) :
  wpAny (model X.prog X.w) X.A (eval a X.env) (λv s₁=>wpAny (model X.prog X.w) X.A (eval b X.env) (λu s₂=>wpAny (model X.prog X.w) X.A (f v u) Q X.xe s₂) X.xe s₁) X.xe s:=by
 refine thn (ha pins s σ H _ I h) λv s1 ⟨x,H1,I1,r1,q1⟩=>?_;refine thn (hb pins s1 σ H1 _ I1 q1) λu s2 ⟨y,H2,I2,r2,q2⟩=>?_;exact hf v u s2 x y H2 I2 r1 r2 q2
theorem pe_op {op:Operator} {r:R2} (ho:OpR X (binaryOp op) r) (ha:PE X a ta) (hb:PE X b tb):PE X (.BinOp a op b pos) (tOp r ta tb):=by
 intro pins s σ H Q I h;exact wpAny_BinOp (AT ha hb I h λv u s2 x y H2 I2 rx ry q=>ho pins s2 σ H2 x y v u Q I2 rx ry q)
theorem pe_un {op:UnaryOp} {r:V->Hp->VK->Prop} (ho:UnR X (unaryOp op) r) (ha:PE X a ta):PE X (.UnaryOp op a pos) (tUn r ta):=by
 intro pins s σ H Q I h;exact UnaryOp_ (thn (ha pins s σ H _ I h) λv s1 ⟨x,H1,I1,r1,q1⟩=>ho pins s1 σ H1 x v Q I1 r1 q1)
theorem opI {f:Value->Value->Sem Value} {C:Int->Int->Prop} {g:Int->Int->Int}
  (rule:∀ (i j:Int) (t u:Tok) (s:Shared) (Q:Value->Shared->Prop) (E:Value->Shared->Prop),C i j->Q (.int (g i j) s.toks) { s with toks:=s.toks+1 }->wpAny (model X.prog X.w) X.A (f (.int i t) (.int j u)) Q E s) :
  OpR X f (rI C λi j=>.int (g i j)):=by
 intro pins s σ H x y v u Q I rx ry h;obtain ⟨i,j,rfl,rfl,hc,q⟩:=h;obtain ⟨t,rfl⟩:=rx;obtain ⟨t',rfl⟩:=ry;exact rule i j t t' s _ _ hc ⟨.int (g i j),H,I.tok _,⟨_,rfl⟩,q⟩
theorem IC {f:Value->Value->Sem Value} {g:Int->Int->Int}
  (rule:∀ (i j:Int) (t u:Tok) (s:Shared) (Q:Value->Shared->Prop) (E:Value->Shared->Prop),Q (.int (g i j) s.toks) { s with toks:=s.toks+1 }->wpAny (model X.prog X.w) X.A (f (.int i t) (.int j u)) Q E s) :
  OpR X f (rI0 λi j=>.int (g i j)):=by
 intro pins s σ H x y v u Q I rx ry h;obtain ⟨i,j,rfl,rfl,q⟩:=h;obtain ⟨t,rfl⟩:=rx;obtain ⟨t',rfl⟩:=ry;exact rule i j t t' s _ _ ⟨.int (g i j),H,I.tok _,⟨_,rfl⟩,q⟩
theorem vy {f:Value->Value->Sem Value} {g:Int->Int->Bool}
  (rule:∀ (i j:Int) (t u:Tok) (s:Shared) (Q:Value->Shared->Prop) (E:Value->Shared->Prop),Q (.bool (g i j)) s->wpAny (model X.prog X.w) X.A (f (.int i t) (.int j u)) Q E s) :
  OpR X f (rI0 λi j=>.bl (g i j)):=by
 intro pins s σ H x y v u Q I rx ry h;obtain ⟨i,j,rfl,rfl,q⟩:=h;obtain ⟨t,rfl⟩:=rx;obtain ⟨t',rfl⟩:=ry;exact rule i j t t' s _ _ ⟨.bl (g i j),H,I,rfl,q⟩
def JR (i j:Int):Prop:=0<=j/\j<=1000000/\i.natAbs < 2 ^ 64
def CMul (i j:Int):Prop:=(-(2 ^ 64) < i/\i < 2 ^ 64)\/(-(2 ^ 64) < j/\j < 2 ^ 64)
theorem CMul.ok {i j:Int} (h:CMul i j):IntMulOk i j:=by
 rcases h with ⟨h1,h2⟩ | ⟨h1,h2⟩
 ·exact .of_left (intBits_le_64 h1 h2)
 ·exact .of_right (intBits_le_64 h1 h2)
theorem bg:OpR X (binaryOp .Add) (rI0 λi j=>.int (i+j)):=IC λ_ _ _ _ _ _ _ q=>add_int q
theorem op_sub:OpR X (binaryOp .Sub) (rI0 λi j=>.int (i - j)):=IC λ_ _ _ _ _ _ _ q=>sub_int q
theorem cS:OpR X (binaryOp .Mult) (rI CMul λi j=>.int (i*j)):=opI λ_ _ _ _ _ _ _ hc q=>mul_int q hc.ok
theorem cn:OpR X (binaryOp .Mod) (rI (λ_ j=>0 < j) λi j=>.int (i % j)):=opI λi j _ _ _ _ _ hc q=>by
 have h1:(0:Int) < j:=hc;exact mod_int' (by lia) (by rw [Int.fmod_eq_emod_of_nonneg i (by lia)];exact q)
theorem op_pow:OpR X (binaryOp .Pow) (rI JR λi j=>.int (i ^ j.toNat)):=opI λ_ _ _ _ _ _ _ hc q=>pow_int_small hc.1 hc.2.1 hc.2.2 q
theorem unI {f:Value->Sem Value} {g:Int->Int}
  (rule:∀ (i:Int) (t:Tok) (s:Shared) (Q:Value->Shared->Prop) (E:Value->Shared->Prop),Q (.int (g i) s.toks) { s with toks:=s.toks+1 }->wpAny (model X.prog X.w) X.A (f (.int i t)) Q E s) :
  UnR X f (rU λi=>.int (g i)):=by
 intro pins s σ H x v Q I rx h;obtain ⟨i,rfl,q⟩:=h;obtain ⟨t,rfl⟩:=rx;exact rule i t s _ _ ⟨.int (g i),H,I.tok _,⟨_,rfl⟩,q⟩
theorem un_neg:UnR X (unaryOp .USub) (rU λi=>.int (-i)):=unI λ_ _ _ _ _ q=>neg_int q
end
def AU:V->V->Bool
 | .non,.non=>true | .non,.int _=>true | .int _,.non=>true | .non,.bl _=>true | .bl _,.non=>true | .non,.str _=>true | .str _,.non=>true
 | .int _,.int _=>true | .bl _,.bl _=>true | .str _,.str _=>true | .byt _,.byt _=>true
 | .int _,.str _=>true | .str _,.int _=>true | .bl _,.str _=>true | .str _,.bl _=>true
 | _,_=>false
def rEq:R2:=λx y H Q=>AU x y=true/\Q (.bl (decide (x=y))) H
def rNe:R2:=λx y H Q=>AU x y=true/\Q (.bl (!decide (x=y))) H
theorem ql {i j:Int}:decide (V.int i=V.int j)=(i == j):=by
 rw [aAV];simp
theorem sT {i j:Bool}:decide (V.bl i=V.bl j)=(i == j):=by
 rw [aAV];simp
theorem qm {i j:Str}:decide (V.str i=V.str j)=(i == j):=by
 rw [aAV];simp
theorem qo {i j:Array UInt8}:decide (V.byt i=V.byt j)=(i.toList == j.toList):=by
 rw [aAV]
 cases i
 cases j
 simp
section
variable {X:Cx} {a b c:Expr} {ta tb tc:TE} {pos:Pos}
theorem au {pins:List (Addr×Obj)} {σ:St} {H:Hp} {s:Shared} {Q:VK} {k k':Bool} (I:Inv X pins σ H s) (q:Q (.bl k) H) (e:k=k'):EP X pins σ Q (.bool k') s:=by
 subst e;exact ⟨.bl k,H,I,rfl,q⟩
theorem op_eq:OpR X (compareOp .Eq) rEq:=by
 intro pins s σ H x y v u Q I rx ry h;obtain ⟨hs,q⟩:=h
 cases x with
 | non =>
  cases rx
  cases y with
  | non=>cases ry;exact PySem.EqNone.eq_none_none (au I q (by simp))
  | bl j=>cases ry;exact PySem.EqNone.eq_none_bool (au I q (by simp))
  | int j=>obtain ⟨t',rfl⟩:=ry;exact PySem.EqNone.eq_none_int (au I q (by simp))
  | str j=>obtain ⟨t',rfl⟩:=ry;exact PySem.EqNone.eq_none_str (au I q (by simp))
  | _=>exact absurd (show false=true from hs) aAj
 | bl i =>
  cases rx
  cases y with
  | non=>cases ry;exact PySem.EqNone.eq_bool_none (au I q (by simp))
  | bl j=>cases ry;exact eq_bool (au I q sT)
  | str j=>obtain ⟨t',rfl⟩:=ry;exact PySem.EqMixed.eq_bool_str (au I q (by simp))
  | _=>exact absurd (show false=true from hs) aAj
 | int i =>
  obtain ⟨t,rfl⟩:=rx
  cases y with
  | non=>cases ry;exact PySem.EqNone.eq_int_none (au I q (by simp))
  | int j=>obtain ⟨t',rfl⟩:=ry;exact eq_int (au I q ql)
  | str j=>obtain ⟨t',rfl⟩:=ry;exact PySem.EqMixed.eq_int_str (au I q (by simp))
  | _=>exact absurd (show false=true from hs) aAj
 | str i =>
  obtain ⟨t,rfl⟩:=rx
  cases y with
  | non=>cases ry;exact PySem.EqNone.eq_str_none (au I q (by simp))
  | bl j=>cases ry;exact PySem.EqMixed.eq_str_bool (au I q (by simp))
  | int j=>obtain ⟨t',rfl⟩:=ry;exact PySem.EqMixed.eq_str_int (au I q (by simp))
  | str j=>obtain ⟨t',rfl⟩:=ry;exact eq_str (au I q qm)
  | _=>exact absurd (show false=true from hs) aAj
 | byt i =>
  obtain ⟨t,rfl⟩:=rx
  cases y with
  | byt j=>obtain ⟨t',rfl⟩:=ry;exact W.eq_bytes (au I q qo)
  | _=>exact absurd (show false=true from hs) aAj
 | _=>cases y <;> exact absurd (show false=true from hs) aAj
theorem op_ne:OpR X (compareOp .NotEq) rNe:=by
 intro pins s σ H x y v u Q I rx ry h;obtain ⟨hs,q⟩:=h
 cases x with
 | non =>
  cases rx
  cases y with
  | non=>cases ry;exact PySem.EqNone.ne_none_none (au I q (by simp))
  | bl j=>cases ry;exact PySem.EqNone.ne_none_bool (au I q (by simp))
  | int j=>obtain ⟨t',rfl⟩:=ry;exact PySem.EqNone.ne_none_int (au I q (by simp))
  | str j=>obtain ⟨t',rfl⟩:=ry;exact PySem.EqNone.ne_none_str (au I q (by simp))
  | _=>exact absurd (show false=true from hs) aAj
 | bl i =>
  cases rx
  cases y with
  | non=>cases ry;exact PySem.EqNone.ne_bool_none (au I q (by simp))
  | bl j=>cases ry;exact ne_bool (au I q (congrArg not sT))
  | str j=>obtain ⟨t',rfl⟩:=ry;exact PySem.EqMixed.ne_bool_str (au I q (by simp))
  | _=>exact absurd (show false=true from hs) aAj
 | int i =>
  obtain ⟨t,rfl⟩:=rx
  cases y with
  | non=>cases ry;exact PySem.EqNone.ne_int_none (au I q (by simp))
  | int j=>obtain ⟨t',rfl⟩:=ry;exact ne_int (au I q (congrArg not ql))
  | str j=>obtain ⟨t',rfl⟩:=ry;exact PySem.EqMixed.ne_int_str (au I q (by simp))
  | _=>exact absurd (show false=true from hs) aAj
 | str i =>
  obtain ⟨t,rfl⟩:=rx
  cases y with
  | non=>cases ry;exact PySem.EqNone.ne_str_none (au I q (by simp))
  | bl j=>cases ry;exact PySem.EqMixed.ne_str_bool (au I q (by simp))
  | int j=>obtain ⟨t',rfl⟩:=ry;exact PySem.EqMixed.ne_str_int (au I q (by simp))
  | str j=>obtain ⟨t',rfl⟩:=ry;exact ne_str (au I q (congrArg not qm))
  | _=>exact absurd (show false=true from hs) aAj
 | byt i =>
  obtain ⟨t,rfl⟩:=rx
  cases y with
  | byt j=>obtain ⟨t',rfl⟩:=ry;exact W.ne_bytes (au I q (congrArg not qo))
  | _=>exact absurd (show false=true from hs) aAj
 | _=>cases y <;> exact absurd (show false=true from hs) aAj
theorem sU:OpR X (compareOp .Lt) (rI0 λi j=>.bl (decide (i < j))):=vy λ_ _ _ _ _ _ _ q=>lt_int q
theorem op_le:OpR X (compareOp .LtE) (rI0 λi j=>.bl (decide (i<=j))):=vy λ_ _ _ _ _ _ _ q=>le_int q
theorem op_gt:OpR X (compareOp .Gt) (rI0 λi j=>.bl (decide (j < i))):=vy λ_ _ _ _ _ _ _ q=>gt_int q
theorem sV:OpR X (compareOp .GtE) (rI0 λi j=>.bl (decide (j<=i))):=vy λ_ _ _ _ _ _ _ q=>ge_int q
theorem rj:OpR X (compareOp .Lt) (λx y H Q=>∃ i j,x=.str i/\y=.str j/\Q (.bl (decide (i.cps.toList < j.cps.toList))) H):=by
 intro pins s σ H x y v u Q I rx ry h;obtain ⟨i,j,rfl,rfl,q⟩:=h;obtain ⟨t,rfl⟩:=rx;obtain ⟨t',rfl⟩:=ry;exact lt_str (au I q rfl)
theorem rl:OpR X (compareOp .In) (λx y H Q=>∃ i j,x=.str i/\y=.str j/\Q (.bl (!(Builtin.Str.occurrences j i 0 j.length 1).isEmpty)) H):=by
 intro pins s σ H x y v u Q I rx ry h;obtain ⟨i,j,rfl,rfl,q⟩:=h;obtain ⟨t,rfl⟩:=rx;obtain ⟨t',rfl⟩:=ry;exact in_str (au I q rfl)
theorem AV:OpR X (compareOp .Is) (λx y H Q=>y=.non/\Q (.bl (decide (x=.non))) H):=by
 intro pins s σ H x y v u Q I rx ry h;obtain ⟨rfl,q⟩:=h
 cases ry
 refine is_none_gen (au I q ?_)
 cases x <;> first
  | (cases rx;rfl)
  | (obtain ⟨t,rfl⟩:=rx;rfl)
theorem op_notN:OpR X (compareOp .IsNot) (λx y H Q=>y=.non/\Q (.bl (!decide (x=.non))) H):=by
 intro pins s σ H x y v u Q I rx ry h;obtain ⟨rfl,q⟩:=h
 cases ry
 refine isnot_none_gen (au I q ?_)
 cases x <;> first
  | (cases rx;rfl)
  | (obtain ⟨t,rfl⟩:=rx;rfl)
theorem nomark (b:Expr) {op:CmpOp} (h:op≠.In:=by decide) (h2:op≠.NotIn:=by decide):behindInMarks op b=false:=by
 have e1:(op == CmpOp.In)=false:=by cases op <;> first | rfl | exact absurd rfl h
 have e2:(op == CmpOp.NotIn)=false:=by cases op <;> first | rfl | exact absurd rfl h2
 cases b <;> simp [behindInMarks,e1,e2]
theorem pe_cmpR {op:CmpOp} {r:R2} (ho:OpR X (compareOp op) r) (ha:PE X a ta) (hb:PE X b tb) (hm:behindInMarks op b=false):PE X (.Compare a [op] [b] pos) (tOp r ta tb):=by
 intro pins s σ H Q I h;exact wpAny_Compare1 (AT ha hb I h λv u s2 x y H2 I2 rx ry q=>ho pins s2 σ H2 x y v u Q I2 rx ry q) hm
inductive IBl (x:V) (H':Hp) (Q:Bool->Hp->Prop):Prop
 | mk (k:Bool):(x=.bl k)->(Q k H')->IBl x H' Q
def qp (t:TE):TT:=λσ H Q=>t σ H λx H'=>IBl x H' Q
theorem pt_cmpR {op:CmpOp} {r:R2} (ho:OpR X (compareOp op) r) (ha:PE X a ta) (hb:PE X b tb) (hm:behindInMarks op b=false):PT X (.Compare a [op] [b] pos) (qp (tOp r ta tb)):=by
 intro pins s σ H Q I h;refine wpAny_isTrue_Compare1 (thn (ha pins s σ H _ I h) λv s1 ⟨x,H1,I1,r1,q1⟩=>thn (hb pins s1 σ H1 _ I1 q1) λu s2 ⟨y,H2,I2,r2,q2⟩ =>
  thn (ho pins s2 σ H2 x y v u _ I2 r1 r2 q2) λc s3 ⟨z,H3,I3,r3,k,e,q3⟩=>?_) hm
 subst e
 cases r3
 exact wpAny_truthy_bool ⟨H3,I3,q3⟩
def sW (r r':R2) (ta tb tc:TE):TE:=λσ H Q=>ta σ H λx H1=>tb σ H1 λy H2=>r x y H2 λz H3=>∃ k,z=.bl k /\
 (if k=true then tc σ H3 λw' H4=>r' y w' H4 Q else Q (.bl false) H3)
theorem mF {op op':CmpOp} {r r':R2} (ho:OpR X (compareOp op) r) (ho':OpR X (compareOp op') r') (ha:PE X a ta) (hb:PE X b tb) (hc:PE X c tc)
  (hm:lastMarks [op,op'] [b,c]=false:=by with_unfolding_all rfl):PE X (.Compare a [op,op'] [b,c] pos) (sW r r' ta tb tc):=by
 intro pins s σ H Q I h;refine Compare_chain (thn (ha pins s σ H _ I h) λv s1 ⟨x,H1,I1,r1,q1⟩=>chain_link (thn (hb pins s1 σ H1 _ I1 q1) λu s2 ⟨y,H2,I2,r2,q2⟩ =>
  thn (ho pins s2 σ H2 x y v u _ I2 r1 r2 q2) λd s3 ⟨z,H3,I3,r3,k,e,q3⟩=>?_)) hm
 subst e
 cases r3
 refine wpAny_truthy_bool ?_
 cases k with
 | false=>exact ite_ff ⟨.bl false,H3,I3,rfl,q3⟩
 | true=>exact ite_tt (chain_last (thn (hc pins s3 σ H3 _ I3 q3) λw' s4 ⟨z',H4,I4,r4,q4⟩=>ho' pins s4 σ H4 y z' u w' Q I4 r2 r4 q4))
theorem pt_chain {op op':CmpOp} {r r':R2} (ho:OpR X (compareOp op) r) (ho':OpR X (compareOp op') r') (ha:PE X a ta) (hb:PE X b tb) (hc:PE X c tc)
  (hm:lastMarks [op,op'] [b,c]=false:=by with_unfolding_all rfl):PT X (.Compare a [op,op'] [b,c] pos) (qp (sW r r' ta tb tc)):=by
 intro pins s σ H Q I h;refine isTrue_chain (thn (ha pins s σ H _ I h) λv s1 ⟨x,H1,I1,r1,q1⟩=>test_link (thn (hb pins s1 σ H1 _ I1 q1) λu s2 ⟨y,H2,I2,r2,q2⟩ =>
  thn (ho pins s2 σ H2 x y v u _ I2 r1 r2 q2) λd s3 ⟨z,H3,I3,r3,k,e,q3⟩=>?_)) hm
 subst e
 cases r3
 refine wpAny_truthy_bool ?_
 cases k with
 | false =>
  obtain ⟨k',e',q'⟩:=q3
  cases e'
  exact ite_ff ⟨H3,I3,q'⟩
 | true =>
  refine ite_tt (test_last (thn (hc pins s3 σ H3 _ I3 q3) λw' s4 ⟨z',H4,I4,r4,q4⟩=>thn (ho' pins s4 σ H4 y z' u w' _ I4 r2 r4 q4) λd' s5 ⟨z2,H5,I5,r5,k2,e2,q5⟩=>?_));subst e2
  cases r5
  exact wpAny_truthy_bool ⟨H5,I5,q5⟩
theorem gI:(sizeLine:Nat) < 2 ^ 63:=by rw [sizeLine_eq];decide
theorem oG:OpR X (binaryOp .Add) (λx y H Q=>∃ i j,x=.str i/\y=.str j/\i.length+j.length<=sizeLine/\Q (.str (i++j)) H):=by
 intro pins s σ H x y v u Q I rx ry h;obtain ⟨i,j,rfl,rfl,hz,q⟩:=h;obtain ⟨t,rfl⟩:=rx;obtain ⟨t',rfl⟩:=ry;exact add_str (λt' tk=>⟨.str (i++j),H,I.tok _,⟨_,rfl⟩,q⟩) hz
theorem cq {x:V} {us:List Value} (r:Vals [x] us):∃ u,us=[u]/\RelV x u:=by
 cases r with
 | cons r1 r2=>cases r2;exact ⟨_,rfl,r1⟩
theorem mG {x y:V} {us:List Value} (r:Vals [x,y] us):∃ u w',us=[u,w']/\RelV x u/\RelV y w':=by
 cases r with
 | cons r1 r2 =>
  cases r2 with
  | cons r3 r4=>cases r4;exact ⟨_,_,rfl,r1,r3⟩
theorem mH:aS X (.builtin "abs") (λxs H Q=>∃ i,xs=[.int i]/\Q (.int (if i < 0 then -i else i)) H):=by
 intro pins s σ H xs us Q I r h;obtain ⟨i,rfl,q⟩:=h;obtain ⟨u,rfl,t,rfl⟩:=cq r;exact call_abs_int λu tk=>⟨.int (if i < 0 then -i else i),H,I.tok _,⟨_,rfl⟩,q⟩
theorem eQ (hc:X.calm=true):aS X (.builtin "max") (λxs H Q=>∃ i j,xs=[.int i,.int j]/\Q (.int (if j > i then j else i)) H):=by
 intro pins s σ H xs us Q I r h;obtain ⟨i,j,rfl,q⟩:=h;obtain ⟨u,w',rfl,⟨t,rfl⟩,⟨t',rfl⟩⟩:=mG r;refine max_two_ints (I.ok.hd hc) λh' tk k=>⟨_,H,I.kept k,?_,q⟩
 by_cases hj:j > i
 ·rw [if_pos hj,if_pos hj];exact ⟨_,rfl⟩
 ·rw [if_neg hj,if_neg hj];exact ⟨_,rfl⟩
theorem eR (hc:X.calm=true):aS X (.builtin "min") (λxs H Q=>∃ i j,xs=[.int i,.int j]/\Q (.int (if j < i then j else i)) H):=by
 intro pins s σ H xs us Q I r h;obtain ⟨i,j,rfl,q⟩:=h;obtain ⟨u,w',rfl,⟨t,rfl⟩,⟨t',rfl⟩⟩:=mG r;refine min_two_ints (I.ok.hd hc) λh' tk k=>⟨_,H,I.kept k,?_,q⟩
 by_cases hj:j < i
 ·rw [if_pos hj,if_pos hj];exact ⟨_,rfl⟩
 ·rw [if_neg hj,if_neg hj];exact ⟨_,rfl⟩
theorem rm:aS X (.type "int") (λxs H Q=>(∃ i,xs=[.int i]/\Q (.int i) H)\/∃ k,xs=[.bl k]/\Q (.int (if k then 1 else 0)) H):=by
 intro pins s σ H xs us Q I r h;rcases h with ⟨i,rfl,q⟩ | ⟨k,rfl,q⟩
 ·obtain ⟨u,rfl,t,rfl⟩:=cq r;exact call_int_int ⟨.int i,H,I,⟨_,rfl⟩,q⟩
 ·obtain ⟨u,rfl,r1⟩:=cq r
  cases r1
  exact call_int_bool ⟨.int (if k then 1 else 0),H,I.tok _,⟨_,rfl⟩,q⟩
theorem kY:aS X (.type "str") (λxs H Q=>∃ i,xs=[.int i]/\i.natAbs.log2 < 1920/\Q (.str (toString i)) H):=by
 intro pins s σ H xs us Q I r h;obtain ⟨i,rfl,hz,q⟩:=h;obtain ⟨u,rfl,t,rfl⟩:=cq r;exact PySem.P.str_of_int hz ⟨.str _,H,I.tok _,⟨_,rfl⟩,q⟩
theorem sX:aS X (.builtin "ord") (λxs H Q=>∃ x,xs=[.str x]/\x.length=1/\Q (.int (x.cps.getD 0 0:Nat)) H):=by
 intro pins s σ H xs us Q I r h;obtain ⟨x,rfl,hz,q⟩:=h;obtain ⟨u,rfl,t,rfl⟩:=cq r;exact ord_of_one hz ⟨.int _,H,I.tok _,⟨_,rfl⟩,q⟩
end
structure ObjM (h:Heap) (x dx C:Addr) (mA:Str->Option Value):Prop where
 obj:h.get? x=some (W.instObj C dx)
 ns:h.Ns1 dx mA
 ne:dx≠x
section
variable {prog:Program} {w:World} {A:Around} {E:Value->Shared->Prop} {s:Shared} {K:W.Frag} {x dx C f:Addr} {mA:Str->Option Value} {name:Str} {v:Value}
end
theorem RelO.some_of {v:V} {o:Option Value} (r:RelO (some v) o):∃ u,o=some u/\RelV v u:=by
 cases o with
 | none=>exact (show False from r).elim
 | some u=>exact ⟨u,rfl,r⟩
section
variable {P:Program} {w:World} {H H':Hp} {h h':Heap} {a C dx:Addr} {fs fs':List (Str×V)}
end
structure Cls (K:W.Frag) (C:Addr):Prop where
 pg:W.plainGet K C Str.empty=true
 hd:W.hasDictIn K C=true
 po:W.plainOver K C=true
 sa:W.findIn K (.ref C) "__setattr__" = some (some (.builtin "object.__setattr__"))
section
variable {X:Cx} {pins:List (Addr×Obj)} {σ:St} {H:Hp} {s:Shared} {a C dx:Addr} {fs:List (Str×V)} {f:Str} {v:V} {A:Around} {E:Value->Shared->Prop}
end
def JS (X:Cx) (op:Operator) (rd:V->V->Hp->VK->Prop):Prop :=
 ∀ (pins:List (Addr×Obj)) (s:Shared) (σ:St) (H:Hp) (x y:V) (u v:Value) (Q:VK),Inv X pins σ H s->RelV x u->RelV y v->rd x y H Q->wpAny (model X.prog X.w) X.A (inplaceOp op u v) (EP X pins σ Q) X.xe s
section
variable {X:Cx} {o e value:Expr} {f:Str} {pos pos' tpos:Pos} {ta tv:TE}
def JT:V->V->Hp->VK->Prop:=λx y H Q=>∃ i j,x=.int i/\y=.int j/\Q (.int (i+j)) H
theorem sY:JS X .Add JT:=by
 rintro pins s σ H x y u v Q I rx ry ⟨i,j,rfl,rfl,q⟩;obtain ⟨t,rfl⟩:=(show ∃ t,u=Value.int i t from rx);obtain ⟨t',rfl⟩:=(show ∃ t',v=Value.int j t' from ry);exact PyProof.Rows.iadd_int ⟨.int (i+j),H,I.tok _,⟨_,rfl⟩,q⟩
end
section
variable {X:Cx} {pins:List (Addr×Obj)} {σ:St} {H:Hp} {s:Shared} {A:Around} {E:Value->Shared->Prop} {Q:Value->Shared->Prop} {c:Value} {b:Bool}
end
structure Room (k:Nat) (A:Around):Prop where
 hd:A.handled=none
 dp:A.depth+3*k+5 < recursionLimit
 un:A.units+16*k+200 < cLine
theorem Room.mono {j k:Nat} {A:Around} (r:Room k A) (h:j<=k):Room j A:=⟨r.hd,by have:=r.dp;lia,by have:=r.un;lia⟩
theorem Room.deeper {k:Nat} {A:Around} (r:Room (k+1) A) (env:Env):Room k (A.deeper env) :=
 ⟨r.hd,by have:=r.dp;show A.depth+1+3*k+5 < _;lia,by have:=r.un;show A.units+3+16*k+200 < _;lia⟩
theorem Room.depth {k:Nat} {A:Around} (r:Room k A):A.depth < recursionLimit:=by have:=r.dp;lia
theorem Room.units {k:Nat} {A:Around} (r:Room k A):A.units+64 < cLine:=by have:=r.un;lia
def sZ:TA:=λ_ H Q=>Q [] H
def h9 (ta:TE) (tr:TA):TA:=λσ H Q=>ta σ H λx H1=>tr σ H1 λxs H2=>Q (x :: xs) H2
section
variable {X:Cx} {e:Expr} {es:List Expr} {te:TE} {t:TA} {pos:Pos}
theorem cr:PA X [] sZ:=λ_ _ _ _ H Q I h=>Calls.spliced_nil ⟨[],H,I,.nil,h⟩
theorem ak (ha:PE X e te) (hr:PA X es t) (hs:starEach (e :: es) X.env=(false,eval e X.env) :: starEach es X.env:=by rfl):PA X (e :: es) (h9 te t):=by
 intro pos pins s σ H Q I h;rw [hs];show wpAny _ _ (spliced ((false,eval e X.env) :: backTo pos (starEach es X.env))) _ _ s;refine Calls.spliced_cons (thn (ha pins s σ H _ I h) λu s1 ⟨x,H1,I1,r1,q1⟩=>?_);exact thn (hr pos pins s1 σ H1 _ I1 q1) λus s2 ⟨xs,H2,I2,r2,q2⟩=>⟨x :: xs,H2,I2,.cons r1 r2,q2⟩
def oH (t:TA):TE:=λσ H Q=>t σ H λxs H1=>xs.length<=sizeLine/\∀ p,H1 p=none->Q (.ref p) (upd H1 p (.lst xs))
theorem aB (h:PA X es t):PE X (.List es pos) (oH t):=by
 intro pins s σ H Q I hq;refine wpAny_List_spliced (thn (h pos pins s σ H _ I hq) λus s1 ⟨xs,H1,I1,r,z,q⟩=>⟨by rw [<- r.length];exact z,?_⟩);have hf:H1 s1.heap.objs.size=none:=I1.hok.fresh (aAf _);refine ⟨.ref s1.heap.objs.size,upd H1 s1.heap.objs.size (.lst xs),I1.laid (t':=s1.toks) (λb u e=>aAa _ e) (aAf _) ?_,rfl,q _ hf⟩;exact ⟨z,us,0,r,aAg _ rfl⟩
end
abbrev Sp:=List V->Hp->VK->XK->Prop
abbrev CXT:=List Env->Hp->Shared->XK->Value->Shared->Prop
structure Env0 (P:Program) (w:World) (K:W.Frag) (mg:Str->Option Value) (base:Heap) (A:Around) (outer:List Env) (s:Shared) (H:Hp):Prop where
 frames:A.frames=some outer
 mod:Mod K mg base
 bs:∀ b o,base.get? b=some o->s.heap.get? b=some o/\H b=none
 bsz:base.objs.size<=s.heap.objs.size
 funs:s.heap.FunFrames base outer
 frf:∀ b∈frs outer,H b=none
 hok:HOk P w H s.heap
 bare:AllBare s.gens
def CE (outer:List Env) (P:Program) (w:World) (H:Hp) (s:Shared) (Q:VK) (u:Value) (s':Shared):Prop :=
 ∃ v H',s'.os=s.os/\AllBare s'.gens/\Un (frs outer) [] H H' s.heap s'.heap/\HOk P w H' s'.heap/\RelV v u/\Q v H'
def CR (CX:CXT) (outer:List Env) (P:Program) (w:World) (H:Hp) (s:Shared) (Q:VK) (E:XK) (r:Result) (s':Shared):Prop :=
 match r with
 | .ok (.ret u)=>CE outer P w H s Q u s'
 | .ok _=>False
 | .error e=>CX outer H s E e s'
structure FnOk (P:Program) (w:World) (K:W.Frag) (mg:Str->Option Value) (base:Heap) (CX:CXT) (k:Nat) (f:Addr) (fd:FuncData) (ps:List Str) (sp:Sp):Prop where
 len:∀ vs H Q E,sp vs H Q E->vs.length=ps.length
 run:∀ (A:Around) (outer:List Env) (s:Shared) (H:Hp) (args:Args) (us:List Value) (vs:List V) (Q:VK) (E:XK),Room k A->Env0 P w K mg base A outer s H->BindsTo s fd args (ps.zip us)->Vals vs us->sp vs H Q E ->
  codeAny (model P w) A (.call (.ref f) args) (CR CX outer P w H s Q E) s
theorem FnOk.imp {P:Program} {w:World} {K:W.Frag} {mg:Str->Option Value} {base:Heap} {CX:CXT} {k:Nat} {f:Addr} {fd:FuncData} {ps:List Str} {sp sp':Sp} (F:FnOk P w K mg base CX k f fd ps sp)
  (h:∀ vs H Q E,sp' vs H Q E->sp vs H Q E):FnOk P w K mg base CX k f fd ps sp' :=
 ⟨λvs H Q E q=>F.len vs H Q E (h _ _ _ _ q),λA outer s H args us vs Q E hr he hb hv hs=>F.run A outer s H args us vs Q E hr he hb hv (h _ _ _ _ hs)⟩
section
variable {X:Cx} {pins:List (Addr×Obj)} {σ:St} {H:Hp} {s s':Shared}
theorem Inv.env0 (I:Inv X pins σ H s):Env0 X.prog X.w X.K X.mg X.base X.A X.stack s H :=
 ⟨I.ok.frames,I.ok.mod,I.bs,aAw I.ok.bsz I.sz,I.stack,I.stkFree,I.hok,I.bare⟩
theorem Inv.after {Q:VK} {u:Value} (I:Inv X pins σ H s) (h:CE X.stack X.prog X.w H s Q u s'):EP X pins σ Q u s':=by
 obtain ⟨v,H',os,bare,un,hok,r,q⟩:=h;obtain ⟨hh,g,d,t,os'⟩:=s';obtain rfl:os'=s.os:=os;exact ⟨v,H',I.call (h':=hh) (g':=g) (d':=d) (t':=t) (ch:=[]) un hok bare (λb z=>absurd z (by simp)),r,q⟩
end
def tj (sp:Sp) (dvs:List V) (E:XK) (t:TA):TE:=λσ H Q=>t σ H λvs H1=>sp (vs++dvs) H1 Q E
def Binds (K:W.Frag) (fd:FuncData) (ps:List Str) (ds:List Value):Prop :=
 ∀ (s:Shared) (us:List Value),K.In s.heap->(us++ds).length=ps.length->BindsTo s fd ⟨us,[]⟩ (ps.zip (us++ds))
theorem Binds.all {K:W.Frag} {fd:FuncData} {ps:List Str} (h:∀ us:List Value,us.length=ps.length->bindArgs fd ⟨us,[]⟩=pure (ps.zip us)):Binds K fd ps []:=λs us _ hl=>by
 rw [aAP] at hl ⊢;exact .of_eq (h us hl)
def fB (CX:CXT) (X:Cx) (E:XK):Prop:=∀ (pins:List (Addr×Obj)) (σ:St) (H:Hp) (s:Shared) (e:Value) (s':Shared),Inv X pins σ H s->CX X.stack H s E e s'->X.xe e s'
section
variable {X:Cx} {CX:CXT} {k:Nat} {f C:Addr} {fd:FuncData} {ps:List Str} {sp:Sp} {dvs:List V} {ds:List Value} {E:XK} {x m:Str} {p pos apos:Pos} {e o:Expr} {es:List Expr} {ta:TE} {t:TA}
theorem AW {pins:List (Addr×Obj)} {σ:St} {H:Hp} {s:Shared} {Q:VK} {us:List Value} {vs:List V} (F:FnOk X.prog X.w X.K X.mg X.base CX k f fd ps sp) (hr:Room k X.A) (hb:Binds X.K fd ps ds) (hd:Vals dvs ds) (hx:fB CX X E)
  (I:Inv X pins σ H s) (r:Vals vs us) (h:sp (vs++dvs) H Q E):wpAny (model X.prog X.w) X.A (call (.ref f) us) (EP X pins σ Q) X.xe s:=by
 have r2:Vals (vs++dvs) (us++ds):=r.append hd;have hl:(us++ds).length=ps.length:=by rw [<- r2.length];exact F.len _ _ _ _ h
 refine wpAny_call (codeAny_mono (F.run X.A X.stack s H ⟨us,[]⟩ (us++ds) (vs++dvs) Q E hr I.env0 (hb s us I.kIn hl) r2 h) λr s' hq=>?_)
 cases r with
 | error e=>exact hx pins σ H s e s' I hq
 | ok fl =>
  cases fl with
  | ret u=>exact I.after hq
  | next=>exact False.elim hq
  | brk=>exact False.elim hq
  | cont=>exact False.elim hq
theorem pe_call (F:FnOk X.prog X.w X.K X.mg X.base CX k f fd ps sp) (hr:Room k X.A) (hg:Gl X x) (hm:X.mg x=some (.ref f)) (hk:W.keepIn X.K (.ref f)=true) (hb:Binds X.K fd ps ds) (hd:Vals dvs ds) (hx:fB CX X E)
  (ha:PA X (e :: es) t) (hdb:(x == ("__debug__" : Str))=false:=by decide) (he:starEach (e :: es) X.env=(false,eval e X.env) :: starEach es X.env:=by rfl) (hpl:(backTo pos (starEach es X.env)).any (·.1)=false:=by rfl) :
  PE X (.Call (.Name x p) (e :: es) [] pos) (tj sp dvs E t):=by
 intro pins s σ H Q I h;refine wpAny_Call_Name_kw (aY I hg hm ?_ hdb);refine W.callWith_K (h₀:=X.base) I.ok.mod.kin hk (thn (ha pos pins s σ H _ I h) λus s1 ⟨vs,H1,I1,r,q⟩=>⟨I1.kIn,?_⟩) he hpl;exact AW F hr hb hd hx I1 r q
end
section
variable {X:Cx} {CX:CXT} {k:Nat} {f C:Addr} {fd:FuncData} {ps ks:List Str} {sp:Sp} {E:XK} {x m:Str} {p pos apos kpos:Pos} {e o:Expr} {es:List Expr} {kws:List Keyword} {te ta:TE} {t tk:TA} {nm:Option Str}
variable {g:List Value->List Value->List Value} {gV:List V->List V->List V}
end
structure FnScope (N P:List Str) (sc:Scope):Prop where
 kind:sc.kind=.function
 co:sc.isCoroutine=false
 gen:sc.isGenerator=false
 nd:N.Nodup
 pre:N.take P.length=P
 par:∀ x∈P,sc.names.lookup x=some .local\/sc.names.lookup x=some .cell
 nofree:∀ y∈sc.names,y.2≠.free
theorem kq {kindOf:Str->Option NameKind} {x:Str}:∀ {binds:List (Str×Value)} {m:Str->Option Value},(∀ v,(x,v)∉binds)->bindL kindOf binds m x=m x
 | [],_,_=>rfl
 | (n,v) :: r,m,h=>by
  unfold bindL;rw [kq λw hw=>h w (aAp _ hw)]
  split
  ·have:x≠n:=by rintro rfl;exact h v aAr
   simp [this]
  ·rfl
theorem kr {kindOf:Str->Option NameKind} {x:Str}:∀ {binds:List (Str×Value)} {m:Str->Option Value},(∀ v,(x,v)∉binds)->bindC kindOf binds m x=m x
 | [],_,_=>rfl
 | (n,v) :: r,m,h=>by
  unfold bindC;rw [kr λw hw=>h w (aAp _ hw)]
  split
  ·rfl
  ·have:x≠n:=by rintro rfl;exact h v aAr
   simp [this]
theorem kt {kindOf:Str->Option NameKind} {x:Str} {v:Value}:∀ {P:List Str} {vs:List Value} {i:Nat} {m:Str->Option Value},P.Nodup->P[i]?=some x->vs[i]?=some v->kindOf x=some .local ->
  bindL kindOf (P.zip vs) m x=some v
 | [],_,_,_,_,h,_,_=>by simp at h
 | _ :: _,[],_,_,_,_,h,_=>by simp at h
 | p :: P,w :: vs,0,m,nd,h1,h2,hk=>by
  simp at h1 h2;subst h1;subst h2;show bindL kindOf ((p,w) :: P.zip vs) m p=_;unfold bindL;rw [kq λv hv=>(aBa.mp nd).1 (aBi hv).1,if_pos hk];simp
 | p :: P,w :: vs,i+1,m,nd,h1,h2,hk=>by
  show bindL kindOf ((p,w) :: P.zip vs) m x=_;unfold bindL;exact kt (i:=i) (aBa.mp nd).2 (by simpa using h1) (by simpa using h2) hk
theorem ku {kindOf:Str->Option NameKind} {x:Str} {v:Value}:∀ {P:List Str} {vs:List Value} {i:Nat} {m:Str->Option Value},P.Nodup->P[i]?=some x->vs[i]?=some v->kindOf x≠some .local ->
  bindC kindOf (P.zip vs) m x=some v
 | [],_,_,_,_,h,_,_=>by simp at h
 | _ :: _,[],_,_,_,_,h,_=>by simp at h
 | p :: P,w :: vs,0,m,nd,h1,h2,hk=>by
  simp at h1 h2;subst h1;subst h2;show bindC kindOf ((p,w) :: P.zip vs) m p=_;unfold bindC;rw [kr λv hv=>(aBa.mp nd).1 (aBi hv).1,if_neg hk];simp
 | p :: P,w :: vs,i+1,m,nd,h1,h2,hk=>by
  show bindC kindOf ((p,w) :: P.zip vs) m x=_;unfold bindC;exact ku (i:=i) (aBa.mp nd).2 (by simpa using h1) (by simpa using h2) hk
def start (N:List Str) (vs:List V):St:=vs.map some++List.replicate (N.length - vs.length) none
def eZ (CX:CXT) (P:Program) (w:World) (K:W.Frag) (mg:Str->Option Value) (base:Heap) (N:List Str) (qual:Str) (scope:Scope) (f:Addr) (cd:Value) (A:Around) (outer:List Env) (s:Shared) (H:Hp) (E:XK):Cx where
 prog:=P
 w:=w
 K:=K
 mg:=mg
 base:=base
 A:=A.deeper (envOfC qual scope s.heap.objs.size f cd)
 N:=N
 s₀:=s
 H₀:=H
 env:=envOfC qual scope s.heap.objs.size f cd
 outer:=outer
 stack:=envOfC qual scope s.heap.objs.size f cd :: outer
 ex:=[]
 calm:=true
 fn:=λ_=>true
 pn:=[]
 xe:=λe s'=>wpAny (model P w) (A.deeper (envOfC qual scope s.heap.objs.size f cd)) (leaving (envOfC qual scope s.heap.objs.size f cd) e) (λ_ s''=>CX outer H s E e s'') (λe' s''=>CX outer H s E e' s'') s'
theorem mI {sc:Scope} {n:Nat} {x:Str} (h:sc.names.lookup x=some .cell):∃ c,(cellsFrom n sc.names []).lookup x=some c:=by
 have q:=W.cellsFrom_some sc.names n [] (.inl h);exact Option.isSome_iff_exists.mp q
theorem kx {CX:CXT} {P:Program} {w:World} {K:W.Frag} {mg:Str->Option Value} {base:Heap} {N ps:List Str} {qual:Str} {scope:Scope} {f:Addr} {cd:Value} {A:Around} {outer:List Env} {s s1:Shared} {H:Hp} {E:XK} {us:List Value} {vs:List V}
  (S:FnScope N ps scope) (hd:A.handled=none) (e0:Env0 P w K mg base A outer s H) (hl:vs.length=ps.length) (r:Vals vs us)
  (x:InCallC s s.heap.objs.size (bindL (envOfC qual scope s.heap.objs.size f cd).kindOf (ps.zip us) λ_=>none) (cellsFrom (s.heap.objs.size+1) scope.names []) (bindC (envOfC qual scope s.heap.objs.size f cd).kindOf (ps.zip us) λ_=>none) s1) :
  Inv (eZ CX P w K mg base N qual scope f cd A outer s H E) [] (start N vs) H s1:=by
 have hpl:ps.length<=N.length:=by have:=congrArg List.length S.pre;rw [aAB] at this;lia
 obtain ⟨h1,tk,rfl,hk⟩:=x.done;have noA:∀ b:Addr,b∉(eZ CX P w K mg base N qual scope f cd A outer s H E).ex:=λb z=>absurd (show b∈([]:List Addr) from z) (by simp);refine ⟨⟨e0.mod,S.kind,rfl,rfl,aAf _,λy z c h1 h2=>?_,λy hy=>?_,λy c _ h=>?_,λ_=>hd,Around.frames_deeper e0.frames,.inr ⟨rfl,rfl⟩,λb z=>absurd z (noA b),e0.bs,e0.bsz,λb _ _=>noA b,λb z=>absurd z (noA b),e0.funs,e0.frf⟩,
  rfl,e0.bare,Un.kept hk,⟨_,x.toInCall.ns,λi y v h1 h2 h3=>?_⟩,λy c h=>⟨_,x.cell y c h⟩,e0.hok.fresh (aAf _),λy c h=>?_,λp hp=>absurd (show p∈([]:List (Addr×Obj)) from hp) (by simp),e0.hok.kept hk,?_⟩
 ·exact name_of_addr x.apart (PySem.mem_of_lookup h1) (PySem.mem_of_lookup h2)
 ·have hy:scope.names.lookup y=some .cell\/scope.names.lookup y=some .free:=hy;rcases hy with hy | hy
  ·exact mI hy
  ·exact absurd rfl (S.nofree _ (PySem.mem_of_lookup hy))
 ·exact aAM (x.above y c (PySem.mem_of_lookup h))
 ·have hi:i < vs.length:=by
   unfold start at h2
   by_cases hi:i < vs.length
   ·exact hi
   ·rw [aBh (by simpa using hi)] at h2;rw [aBI] at h2
    split at h2 <;> cases h2
  have ha:vs[i]?=some v:=by
   unfold start at h2;rw [aBF (by simpa using hi),aAC] at h2
   cases e:vs[i]? with
   | none=>rw [e] at h2;cases h2
   | some a=>rw [e] at h2;cases h2;rfl
  obtain ⟨u,hu,rv⟩:=r.get ha;have hp:ps[i]?=some y:=by
   rw [<- S.pre,List.getElem?_take_of_lt (by lia)];exact h1
  have ndP:ps.Nodup:=by rw [<- S.pre];exact S.nd.sublist (List.take_sublist _ _)
  refine ⟨u,rv,?_⟩;rcases S.par y (aAs hp) with k | k
  ·exact .inl ⟨k,kt ndP hp hu k⟩
  ·obtain ⟨c,e⟩:=mI (n:=s.heap.objs.size+1) k;refine .inr ⟨.inl k,c,e,?_⟩;have q:=x.cell y c e;rw [ku ndP hp hu (by show scope.names.lookup y≠_;rw [k];decide)] at q;exact q
 ·exact e0.hok.fresh (aAM (x.above y c (PySem.mem_of_lookup h)))
 ·unfold start;show _=N.length;rw [aAt,aAe,aA3];lia
theorem mJ {CX:CXT} {P:Program} {w:World} {K:W.Frag} {mg:Str->Option Value} {base:Heap} {k:Nat} {f:Addr} {name qual:Str} {params:Arguments} {body:List Stmt} {scope:Scope} {dV kV doc pm cdv ct oc:Value} {an od:Option Addr}
  {osl:Array (Option Value)} {N ps:List Str} {sp:Sp} (lk:K.lookup f=some ⟨oc,od,.func (W.fnOf name qual params body scope dV kV doc pm an cdv ct),osl⟩) (hcd:W.codeIn K cdv qual=true) (S:FnScope N ps scope)
  (len:∀ vs H Q E,sp vs H Q E->vs.length=ps.length)
  (hbody:∀ (A:Around) (outer:List Env) (s:Shared) (H:Hp) (vs:List V) (Q:VK) (E:XK),Room k (A.deeper (envOfC qual scope s.heap.objs.size f cdv))->sp vs H Q E ->
   ∃ t,PSs (eZ CX P w K mg base N qual scope f cdv A outer s H E) body t/\t { nx:=λ_ H'=>Q .non H',rt:=Q } (start N vs) H) :
  FnOk P w K mg base CX (k+1) f (W.fnOf name qual params body scope dV kV doc pm an cdv ct) ps sp:=by
 refine ⟨len,λA outer s H args us vs Q E hr e0 hb r hsp=>?_⟩;have hl:=len _ _ _ _ hsp;have KX:K.In s.heap:=e0.mod.kin.keeps λb o e=>(e0.bs b o e).1;have lim:s.heap.NoLimit:=e0.mod.nolimit.keeps λb o e=>(e0.bs b o e).1;have hkind:∀ y∈ps.zip us,scope.names.lookup y.1=some .local\/(scope.names.lookup y.1=some .cell/\((cellsFrom (s.heap.objs.size+1) scope.names []).lookup y.1).isSome=true):=λ⟨n,v⟩ hy=>by
  rcases S.par n (aBi hy).1 with q | q
  ·exact .inl q
  ·exact .inr ⟨q,W.cellsFrom_some _ _ _ (.inl q)⟩
 refine codeAny_call_function hr.depth (KX _ _ lk) rfl S.co S.gen rfl (W.codeRec_of KX hcd) (hb _ _ _ _ ?_);refine wpAny_newFunctionEnv_cells S.kind hkind λenv he s1 x=>?_;subst he;refine ⟨lim.keeps x.toInCall.keep,codeAny_func ?_⟩;obtain ⟨t,ht,hq⟩:=hbody A outer s H vs Q E (hr.deeper _) hsp;have I:Inv (eZ CX P w K mg base N qual scope f cdv A outer s H E) [] (start N vs) H s1:=kx S hr.hd e0 hl r x;refine wpAny_mono (ht [] s1 (start N vs) H _ I hq) (λfl s' hs=>?_) λe s' hs=>hs;have fin:∀ {σ':St} {H':Hp} {v:V} {u:Value},Inv (eZ CX P w K mg base N qual scope f cdv A outer s H E) [] σ' H' s'->RelV v u->Q v H'->CE outer P w H s Q u s' :=
  λ{σ' H' v u} J rv q=>⟨v,H',J.os,J.bare,J.base,J.hok,rv,q⟩
 cases fl with
 | ret u =>
  obtain ⟨v,σ',H',J,rv,q⟩:=hs;exact fin J rv q
 | next =>
  obtain ⟨σ',H',J,q⟩:=hs;exact fin (v:=V.non) (u:=Value.none) J rfl q
 | brk =>
  obtain ⟨_,_,_,q⟩:=hs;exact False.elim q
 | cont =>
  obtain ⟨_,_,_,q⟩:=hs;exact False.elim q
section
variable {X:Cx} {x:Str} {p pos:Pos} {e:Expr} {es:List Expr} {t:TA} {id T:String} {r:List V->Hp->VK->Prop}
def tCB (r:List V->Hp->VK->Prop) (t:TA):TE:=λσ H Q=>t σ H λvs H1=>r vs H1 Q
theorem pe_callB (hc:aS X (.builtin id) r) (hg:Gl X x) (hm:X.mg x=none) (hv:bootBuiltins x=some (.builtin id)) (ha:PA X (e :: es) t) (hn:x≠ "__name__" :=by decide) (hdb:(x == ("__debug__" : Str))=false:=by decide)
  (he:starEach (e :: es) X.env=(false,eval e X.env) :: starEach es X.env:=by rfl) (hpl:(backTo pos (starEach es X.env)).any (·.1)=false:=by rfl):PE X (.Call (.Name x p) (e :: es) [] pos) (tCB r t):=by
 intro pins s σ H Q I h;refine wpAny_Call_Name_kw (di I hg hm hv ?_ hn hdb);exact PyProof.Rows.callWith_builtin1 (thn (ha pos pins s σ H _ I h) λus s1 ⟨vs,H1,I1,r1,q1⟩=>hc pins s1 σ H1 vs us Q I1 r1 q1) he hpl
theorem pe_callTy (hc:aS X (.type T) r) (hg:Gl X x) (hm:X.mg x=none) (hv:bootBuiltins x=some (.type T)) (ha:PA X (e :: es) t) (hn:x≠ "__name__" :=by decide) (hdb:(x == ("__debug__" : Str))=false:=by decide)
  (he:starEach (e :: es) X.env=(false,eval e X.env) :: starEach es X.env:=by rfl) (hpl:(backTo pos (starEach es X.env)).any (·.1)=false:=by rfl):PE X (.Call (.Name x p) (e :: es) [] pos) (tCB r t):=by
 intro pins s σ H Q I h;refine wpAny_Call_Name_kw (di I hg hm hv ?_ hn hdb);exact PyProof.Rows.callWith_type1 (thn (ha pos pins s σ H _ I h) λus s1 ⟨vs,H1,I1,r1,q1⟩=>hc pins s1 σ H1 vs us Q I1 r1 q1) he hpl
end
end L2
namespace HT
open PySem PyProof.Rows
section
open PySem.SeqAt
open PySem.AutoSeq1 (wpAny_loadPart')
open PySem.MeetsSeq PySem.MeetsSeq2 PySem.MeetsSeq3
end
section
variable {prog:Program} {w:World} {A:Around} {E:Value->Shared->Prop} {s:Shared}
theorem cat_tup {t b:Addr} {vs ws:List Value} {Q:Value->Shared->Prop} (ht:IsTup s.heap t vs.toArray) (hb:IsTup s.heap b ws.toArray) (hv:vs≠[])
  (h1:ws=[]->Q (.ref t) s) (h2:ws≠[]->Q (.ref s.heap.objs.size) { s with heap:=s.heap.push { cls:=.type "tuple",data:=.seq (vs++ws).toArray } })
  (hsz:vs.length+ws.length<=sizeLine):wpAny (model prog w) A (binaryOp .Add (.ref t) (.ref b)) Q E s:=by
 obtain ⟨⟨cls,dd,data,sl⟩,ho,hc,n,hd⟩:=id ht;obtain ⟨⟨cls2,dd2,data2,sl2⟩,ho2,hc2,n2,hd2⟩:=id hb;simp only at hc hd hc2 hd2;subst hc hd hc2 hd2;have e:vs.toArray++ws.toArray=(vs++ws).toArray:=by simp
 by_cases hw:ws=[]
 ·exact concat_meets ⟨_,ho,rfl⟩ ⟨_,ho2,rfl⟩ noFill_tuple_add seq_tuple_add PySem.F.slot_tuple_add PySem.F.entry_tuple_add (PySem.F.args_tuple_add_2 _ _)
   (tuple_addW1 t b vs.toArray ws.toArray n n2 dd dd2 sl sl2 (by simpa using hv) (by simp [hw])) ⟨ho,ho2,h1 hw⟩
 ·refine concat_meets ⟨_,ho,rfl⟩ ⟨_,ho2,rfl⟩ noFill_tuple_add seq_tuple_add PySem.F.slot_tuple_add PySem.F.entry_tuple_add (PySem.F.args_tuple_add_2 _ _)
   (tuple_addW2 t b vs.toArray ws.toArray n n2 dd dd2 sl sl2 (by simpa using hv) (by simpa using hw) (by rw [aAh,aAh];exact hsz)) ⟨ho,ho2,?_⟩
  rw [e];exact h2 hw
def sIx (n d:Nat):Option Int->Nat
 | none=>d
 | some v=>if v < 0 then (v+(n:Int)).toNat else min v.toNat n
theorem sIx_nat (n d k:Nat):sIx n d (some (k:Int))=min k n:=by
 show (if (k:Int) < 0 then ((k:Int)+(n:Int)).toNat else min (k:Int).toNat n)=min k n;rw [if_neg (by lia),aBc]
theorem AX (n d:Nat) (hd:d<=n) (o:Option Int):sIx n d o<=n:=by
 cases o with
 | none=>exact hd
 | some v =>
  show (if v < 0 then (v+(n:Int)).toNat else min v.toNat n)<=n
  by_cases hv:v < 0
  ·rw [if_pos hv];lia
  ·rw [if_neg hv];exact Nat.min_le_right _ _
theorem qq (v:Int) (n d:Nat):(if v < 0 then max (v+(n:Int)) 0 else min v (n:Int))=((sIx n d (some v):Nat):Int):=by
 show (if v < 0 then max (v+(n:Int)) 0 else min v (n:Int))=(((if v < 0 then (v+(n:Int)).toNat else min v.toNat n):Nat):Int)
 by_cases hv:v < 0
 ·simp only [if_pos hv];lia
 ·simp only [if_neg hv];lia
theorem oI (lo hi:Option Int) (n:Nat):Builtin.Slice.sliceAdjust lo hi 1 (n:Int)=(((sIx n 0 lo:Nat):Int),((sIx n n hi:Nat):Int)):=by
 have h1:¬ ((1:Int) < 0):=by lia
 unfold Builtin.Slice.sliceAdjust;simp only [h1,if_false];refine Prod.ext ?_ ?_
 ·cases lo with
  | none=>rfl
  | some v=>exact qq v n 0
 ·cases hi with
  | none=>rfl
  | some v=>exact qq v n n
theorem oJ (i j:Nat):Builtin.Slice.slicePlaces (i:Int) (j:Int) 1=j - i:=by
 unfold Builtin.Slice.slicePlaces;have h1:(1:Int) > 0:=by lia
 simp only [h1,if_true,Int.ediv_one]
 split <;> lia
theorem i3 {v:Value} {o:Option Int} {Q:Option Int->Shared->Prop} (p:IsPart v o) (h:Q o s):wpAny (model prog w) A (Builtin.Slice.slicePartIndex v) Q E s:=by
 cases p with
 | none=>exact slicePart_none h
 | int i t=>exact slicePart_int h
theorem c8 {sl:Addr} {vl vu:Value} {lo hi:Option Int} {n:Nat} {Q:Int×Int×Nat->Shared->Prop} (hs:s.heap.IsSliceOf sl vl vu .none) (pl:IsPart vl lo) (pu:IsPart vu hi)
  (h:Q (((sIx n 0 lo:Nat):Int),1,sIx n n hi - sIx n 0 lo) s):wpAny (model prog w) A (Builtin.Slice.sliceApplied (.ref sl) (pure (n:Int))) Q E s:=by
 obtain ⟨os,hos,hcs,hds⟩:=id hs;unfold Builtin.Slice.sliceApplied Builtin.Slice.sliceFields;refine wpAny_bind (wpAny_bind (wpAny_field hos hds (x:=vl) rfl (wpAny_bind (wpAny_field hos hds (x:=vu) rfl (wpAny_bind (wpAny_field hos hds (x:=.none) rfl (wpAny_pure ?_)))))));refine wpAny_bind (slicePart_none ?_);show wpAny _ _ (if ((1:Int) == 0)=true then _ else _) _ _ s;rw [if_neg (1)];refine wpAny_bind (i3 pl (wpAny_bind (i3 pu (wpAny_bind (wpAny_pure ?_)))));show wpAny _ _ (match Builtin.Slice.sliceAdjust lo hi 1 (n:Int) with | (lo,hi)=>pure (lo,(1:Int),Builtin.Slice.slicePlaces lo hi 1)) _ _ s;rw [oI lo hi n];show wpAny _ _ (pure (((sIx n 0 lo:Nat):Int),(1:Int),Builtin.Slice.slicePlaces ((sIx n 0 lo:Nat):Int) ((sIx n n hi:Nat):Int) 1)) _ _ s;rw [oJ];exact wpAny_pure h
theorem tq (xs:Array Value) (i k:Nat):((List.range k).filterMap λ(m:Nat)=>xs[((i:Int)+(m:Int)*1).toNat]?).toArray=((xs.toList.drop i).take k).toArray:=by
 have e:(λ(m:Nat)=>xs[((i:Int)+(m:Int)*1).toNat]?)=λm=>xs[i+m]?:=by
  funext m
  have:((i:Int)+(m:Int)*1).toNat=i+m:=by lia
  rw [this]
 rw [e];have:=pick_run xs i k;rw [List.filterMap_map] at this;have e2:((λx=>xs[x]?) ∘ λx=>i+x)=λm=>xs[i+m]?:=rfl;rw [e2] at this;rw [this]
theorem getItem_tuple_cut {t sl:Addr} {items:Array Value} {vl vu:Value} {lo hi:Option Int} {Q:Value->Shared->Prop} (ht:IsTup s.heap t items) (hs:s.heap.IsSliceOf sl vl vu .none) (pl:IsPart vl lo) (pu:IsPart vu hi)
  (hw:¬ (sIx items.size 0 lo=0/\sIx items.size items.size hi=items.size))
  (h:Q (.ref s.heap.objs.size) { s with heap:=s.heap.push { cls:=.type "tuple",data:=.seq ((items.toList.drop (sIx items.size 0 lo)).take (sIx items.size items.size hi - sIx items.size 0 lo)).toArray } })
  (hsz:items.size<=sizeLine):wpAny (model prog w) A (getItem (.ref t) (.ref sl)) Q E s:=by
 have htake:sizeOk (.seq ((items.toList.drop (sIx items.size 0 lo)).take (sIx items.size items.size hi - sIx items.size 0 lo)).toArray):=by
  show ((items.toList.drop (sIx items.size 0 lo)).take (sIx items.size items.size hi - sIx items.size 0 lo)).toArray.size<=sizeLine;rw [aAh,aAB,aA7,aA1];lia
 have hj:sIx items.size items.size hi<=items.size:=AX _ _ (aAf _) hi;obtain ⟨os,hos,hcs,hds⟩:=id hs;have hTs:s.TypeIs (.ref sl) "slice" :=⟨os,hos,hcs⟩;unfold getItem
 try with_reducible refine wpAny_holding ?_
 first | refine wpAny_bind (wpAny_pure ?_) | skip
 refine wpAny_bind (wpAny_sequenceKey ht.typeIs (1) ?_);refine wpAny_bind (wpAny_callSpecial?_slot (name:=Str.ofString "__getitem__") ht.typeIs PyProof.Rows.slot_tuple_getitem
  (wpAny_call_entry PyProof.Rows.slot_tuple_getitem ht.typeIs entry_tuple_getitem ?_ (args_tuple_getitem _ _)))
 show wpAny _ _ (Builtin.Tuple.tupleItemsOf (.ref t) >>= _) _ _ s;refine wpAny_bind (tupleItemsOf_ ht ?_);refine wpAny_bind (wpAny_typeOf hTs ?_);rw [if_pos (1)];refine wpAny_bind (c8 hs pl pu ?_);have hno:¬ ((((sIx items.size 0 lo:Nat):Int) == 0 && (1:Int) == 1 && (sIx items.size items.size hi - sIx items.size 0 lo) == items.size)=true):=by
  intro q;rw [aAq,aAq] at q;have q1:((sIx items.size 0 lo:Nat):Int)=0:=eq_of_beq q.1.1;have q2:sIx items.size items.size hi - sIx items.size 0 lo=items.size:=eq_of_beq q.2;exact hw ⟨by lia,by lia⟩
 show wpAny _ _ (if (((sIx items.size 0 lo:Nat):Int) == 0 && (1:Int) == 1 && (sIx items.size items.size hi - sIx items.size 0 lo) == items.size)=true then _ else _) _ _ s;rw [if_neg hno,tq]
 first
  | exact wpAny_bind (m:=Builtin.Tuple.tupleExact _) (wpAny_newObj_type (wpAny_pure ⟨_,rfl,wpAny_pure h⟩) htake)
  | exact wpAny_bind (m:=Builtin.Tuple.tupleExact _) (wpAny_newObj_type (wpAny_bind (wpAny_pure (wpAny_pure ⟨_,rfl,wpAny_pure h⟩))) htake)
  | exact wpAny_bind (wpAny_bind (m:=Builtin.Tuple.tupleExact _) (wpAny_newObj_type (wpAny_pure (wpAny_pure ⟨_,rfl,wpAny_pure h⟩)) htake))
  | exact wpAny_bind (wpAny_bind (m:=Builtin.Tuple.tupleExact _) (wpAny_newObj_type (wpAny_pure ⟨_,rfl,wpAny_pure h⟩) htake))
end
end HT
namespace L2
open PySem PySem.Spec PyProof.Rows
abbrev TO:=St->Hp->(Option Int->Hp->Prop)->Prop
def PO (X:Cx) (e:Option Expr) (t:TO):Prop :=
 ∀ (pins:List (Addr×Obj)) (s:Shared) (σ:St) (H:Hp) (Q:Option Int->Hp->Prop),Inv X pins σ H s->t σ H Q ->
  wpAny (model X.prog X.w) X.A (evalPart e X.env) (λu s'=>∃ o H',Inv X pins σ H' s'/\IsPart u o/\Q o H') X.xe s
def vz:TO:=λ_ H Q=>Q none H
inductive IPrt (x:V) (H1:Hp) (Q:Option Int->Hp->Prop):Prop
 | mk (i:Int):(x=.int i)->(Q (some i) H1)->IPrt x H1 Q
def ID (t:TE):TO:=λσ H Q=>t σ H λx H1=>IPrt x H1 Q
section
variable {X:Cx} {e:Expr} {te:TE} {lo hi:Option Expr} {tl th:TO} {pos p2:Pos}
theorem dr:PO X none vz:=by
 intro pins s σ H Q I h;rw [evalPart_none];exact wpAny_pure ⟨none,H,I,.none,h⟩
theorem du (h:PE X e te):PO X (some e) (ID te):=by
 intro pins s σ H Q I hw;rw [evalPart_some];refine thn (h pins s σ H _ I hw) λu s1 ⟨x,H1,I1,r1,q1⟩=>?_;obtain ⟨i,rfl,q⟩:=q1;obtain ⟨t,rfl⟩:=r1;exact ⟨some i,H1,I1,.int i t,q⟩
def SlR (X:Cx) (r:V->Option Int->Option Int->Hp->VK->Prop):Prop :=
 ∀ (pins:List (Addr×Obj)) (s:Shared) (σ:St) (H:Hp) (x:V) (v vl vu:Value) (lo hi:Option Int) (sl:Addr) (Q:VK),Inv X pins σ H s->RelV x v->s.heap.IsSliceOf sl vl vu .none->IsPart vl lo->IsPart vu hi->r x lo hi H Q ->
  ∃ T id,typeLookup (.type T) "__getitem__" = pure (some (.builtin id))/\s.TypeIs v T/\wpAny (model X.prog X.w) X.A (getItem v (.ref sl)) (EP X pins σ Q) X.xe s
def tSl (r:V->Option Int->Option Int->Hp->VK->Prop) (te:TE) (tl th:TO):TE:=λσ H Q=>te σ H λx H1=>tl σ H1 λl H2=>th σ H2 λu H3=>r x l u H3 Q
theorem cu {r:V->Option Int->Option Int->Hp->VK->Prop} (hr:SlR X r) (he:PE X e te) (hl:PO X lo tl) (hu:PO X hi th):PE X (.Subscript e (.Slice lo hi none p2) pos) (tSl r te tl th):=by
 intro pins s σ H Q I h;refine Subscript_ (thn (he pins s σ H _ I h) λv s1 ⟨x,H1,I1,r1,q1⟩=>?_);refine wpAny_Slice (thn (hl pins s1 σ H1 _ I1 q1) λvl s2 ⟨l,H2,I2,pl,q2⟩=>thn (hu pins s2 σ H2 _ I2 q2) λvu s3 ⟨u,H3,I3,pu,q3⟩=>?_);rw [evalPart_none];refine wpAny_pure ?_;have I4:Inv X pins σ H3 { s3 with heap:=s3.heap.push { cls:=.type "slice",data:=.fields #[vl,vu,.none] } }:=I3.kept (t':=s3.toks) λb ob q=>aAa _ q;obtain ⟨T,id,hT,ht,hg⟩:=hr pins { s3 with heap:=s3.heap.push { cls:=.type "slice",data:=.fields #[vl,vu,.none] } } σ H3 x v vl vu l u s3.heap.objs.size Q I4 r1 (Heap.IsSliceOf.new ..) pl pu q3;show wpAny (model X.prog X.w) X.A (subscriptTail e (.Slice lo hi none p2) v (.ref s3.heap.objs.size)) (EP X pins σ Q) X.xe { s3 with heap:=s3.heap.push { cls:=.type "slice",data:=.fields #[vl,vu,.none] } };exact tail_any (ops:=[.ref s3.heap.objs.size,v]) ht hT hg (by with_unfolding_all rfl)
def kZ (xs:List V) (lo hi:Option Int):List V:=(xs.drop (HT.sIx xs.length 0 lo)).take (HT.sIx xs.length xs.length hi - HT.sIx xs.length 0 lo)
theorem ia (xs:List V) (lo hi:Option Int):(kZ xs lo hi).length<=xs.length:=by
 unfold kZ;rw [aAB,aA7];lia
theorem Vals.nil_iff {xs:List V} {us:List Value} (r:Vals xs us):us=[]↔xs=[]:=by
 cases r with
 | nil=>simp
 | cons _ _=>simp
end
def ixN (n:Nat) (i:Int):Option Nat:=if 0<=i then (if i < n then some i.toNat else none) else if -(n:Int)<=i then some (i+n).toNat else none
def atI {α:Type} (xs:List α) (i:Int):Option α:=(ixN xs.length i).bind λj=>xs[j]?
theorem lg {n:Nat} {i:Int} {j:Nat} (h:ixN n i=some j):seqIndex? i n=some j/\j < n/\-(n:Int)<=i/\i < n:=by
 unfold ixN at h
 by_cases h0:0<=i
 ·rw [if_pos h0] at h
  by_cases h1:i < n
  ·rw [if_pos h1] at h;have e:i.toNat=j:=Option.some.inj h;exact ⟨by rw [seqIndex_of h0 h1,e],by lia,by lia,h1⟩
  ·rw [if_neg h1] at h;cases h
 ·rw [if_neg h0] at h
  by_cases h1:-(n:Int)<=i
  ·rw [if_pos h1] at h;have e:(i+n).toNat=j:=Option.some.inj h;exact ⟨by rw [seqIndex_neg (by lia) h1,e],by lia,h1,by lia⟩
  ·rw [if_neg h1] at h;cases h
theorem iO {α:Type} {xs:List α} {i:Int} {v:α} (h:atI xs i=some v):∃ j,seqIndex? i xs.length=some j/\xs[j]?=some v/\j < xs.length/\-(xs.length:Int)<=i/\i < xs.length:=by
 unfold atI at h
 cases e:ixN xs.length i with
 | none=>rw [e] at h;cases h
 | some j =>
  rw [e] at h;obtain ⟨h1,h2,h3,h4⟩:=lg e;exact ⟨j,h1,h,h2,h3,h4⟩
theorem eS {α:Type} {xs:List α} {j:Nat} {v:α} (h:xs[j]?=some v):atI xs (j:Int)=some v:=by
 have hj:j < xs.length:=(aAc.mp h).1;have e:ixN xs.length (j:Int)=some j:=by
  unfold ixN;rw [if_pos (by lia),if_pos (by lia)];simp
 unfold atI;rw [e];exact h
def vA (b:Expr):Prop:=∀ o i,subscripted b false o i=operate [o,i] (getItem o i)
def IxR (X:Cx) (r:R2):Prop :=
 ∀ (value slice:Expr) (pins:List (Addr×Obj)) (s:Shared) (σ:St) (H:Hp) (x y:V) (v u:Value) (Q:VK),Inv X pins σ H s->RelV x v->RelV y u->r x y H Q ->
  subscripted slice false v u=operate [v,u] (getItem v u)->wpAny (model X.prog X.w) X.A (subscriptTail value slice v u) (EP X pins σ Q) X.xe s
def MtR (X:Cx) (id:String) (r:V->List V->Hp->VK->Prop):Prop :=
 ∀ (pins:List (Addr×Obj)) (s:Shared) (σ:St) (H:Hp) (x:V) (xs:List V) (v:Value) (us:List Value) (Q:VK),Inv X pins σ H s->RelV x v->Vals xs us->r x xs H Q ->
  wpAny (model X.prog X.w) X.A (call (.builtin id) (v :: us)) (EP X pins σ Q) X.xe s
section
variable {X:Cx} {a b:Expr} {ta tb:TE} {pos:Pos}
theorem pe_ix {r:R2} (hr:IxR X r) (ha:PE X a ta) (hb:PE X b tb) (hs:vA b):PE X (.Subscript a b pos) (tOp r ta tb):=by
 intro pins s σ H Q I h;exact Subscript_ (AT ha hb I h λv u s2 x y H2 I2 rx ry q=>hr a b pins s2 σ H2 x y v u Q I2 rx ry q (hs _ _))
inductive IIxL (K:W.Frag) (x y:V) (H:Hp) (Q:VK):Prop
 | mk (p:Addr) (xs:List V) (i:Int) (v:V):(x=.ref p)->(y=.int i)->(SqL K H p xs)->(atI xs i=some v)->(Q v H)->IIxL K x y H Q
def IE (K:W.Frag):R2:=λx y H Q=>IIxL K x y H Q
def JU (K:W.Frag):R2:=λx y H Q=>∃ p xs i v,x=.ref p/\y=.int i/\SqT K H p xs/\atI xs i=some v/\Q v H
def JV:R2:=λx y H Q=>∃ z i c,x=.str z/\y=.int i/\z.length<=sizeLine/\atI z.cps.toList i=some c/\Q (.str ⟨#[c]⟩) H
theorem vB:IxR X (IE X.K):=by
 intro value slice pins s σ H x y v u Q I rx ry h hs;obtain ⟨p,xs,i,z,rfl,rfl,hq,he,q⟩:=h
 cases rx
 obtain ⟨t,rfl⟩:=ry;obtain ⟨its,r,pl,hz⟩:=I.list hq;obtain ⟨j,h1,h2,h3,h4,h5⟩:=iO he;obtain ⟨w,ew,rw'⟩:=r.get h2;have hl:=r.length;have hn:=gI;have fin:EP X pins σ Q w s:=⟨z,H,I,rw',q⟩
 by_cases h0:0<=i
 ·have hj:i.toNat=j:=by
   rw [seqIndex_of h0 h5] at h1;exact Option.some.inj h1
  exact item_listR pl.isList h0 (by lia) (by rw [hj];simpa using ew) fin hs
 ·have hj:(i+(its.toArray.size:Int)).toNat=j:=by
   rw [seqIndex_neg (by lia) h4] at h1;rw [aAh,<- hl];exact Option.some.inj h1
  exact subscriptTail_builtinR (x:=w) pl.isList.typeIs slot_list_getitem.lookup
   (wpAny_getItem_list_neg (Q:=λr s'=>r=w/\EP X pins σ Q r s') pl.isList (by lia) (by rw [aAh] <;> lia) (by lia) (by rw [hj];simpa using ew) ⟨rfl,fin⟩) hs
theorem AY:IxR X (JU X.K):=by
 intro value slice pins s σ H x y v u Q I rx ry h hs;obtain ⟨p,xs,i,z,rfl,rfl,hq,he,q⟩:=h
 cases rx
 obtain ⟨t,rfl⟩:=ry;obtain ⟨its,r,pl,hz⟩:=I.tuple hq;obtain ⟨j,h1,h2,h3,h4,h5⟩:=iO he;obtain ⟨w,ew,rw'⟩:=r.get h2;have hl:=r.length;have hn:=gI;have fin:EP X pins σ Q w s:=⟨z,H,I,rw',q⟩;exact subscriptTail_builtinR (x:=w) pl.typeIs slot_tuple_getitem.lookup
  (getItem_tuple (j:=j) (Q:=λr s'=>r=w/\EP X pins σ Q r s') pl (by lia) (by lia) (by rw [aAh,<- hl];exact h1) (by simpa using ew) ⟨rfl,fin⟩) hs
theorem oK:IxR X JV:=by
 intro value slice pins s σ H x y v u Q I rx ry h hs;obtain ⟨z,i,c,rfl,rfl,hz,he,q⟩:=h;obtain ⟨t,rfl⟩:=rx;obtain ⟨t',rfl⟩:=ry;obtain ⟨j,h1,h2,h3,h4,h5⟩:=iO he;have hl:z.cps.toList.length=z.length:=by simp [Str.length]
 rw [hl] at h1 h4 h5;have hn:=gI;exact tail_any (typeIs_str s z t) slot_str_getitem.lookup (getItem_str (c:=c) (by
  have e1:decide (i < -(2 ^ 63:Int))=false:=decide_eq_false (by lia);have e2:decide (i≥2 ^ 63)=false:=decide_eq_false (by lia);rw [e1,e2,Bool.or_false]) (by rw [h1];simpa using h2) ⟨.str ⟨#[c]⟩,H,I.tok _,⟨_,rfl⟩,q⟩) hs
theorem oM (its:List Value) (n j:Nat) (u:Value):Obj.mapSeq (·.setIfInBounds j u) { cls:=.type "list",data:=.seq its.toArray n }={ cls:=.type "list",data:=.seq (its.set j u).toArray n }:=by
 simp [Obj.mapSeq]
theorem Inv.lst {pins:List (Addr×Obj)} {σ:St} {H:Hp} {s:Shared} {p:Addr} {xs:List V} (I:Inv X pins σ H s) (h:H p=some (.lst xs)) :
  ∃ (its:List Value) (n:Nat),Vals xs its/\s.heap.get? p=some { cls:=.type "list",data:=.seq its.toArray n }/\xs.length<=sizeLine:=by
 obtain ⟨z,its,n,r,e⟩:=I.hok p _ h;exact ⟨its,n,r,e,z⟩
theorem Inv.lstUpd {pins:List (Addr×Obj)} {σ:St} {H:Hp} {s:Shared} {p:Addr} {xs ys:List V} {its its':List Value} {n n':Nat} {f:Obj->Obj} (I:Inv X pins σ H s) (h:H p=some (.lst xs))
  (ho:s.heap.get? p=some { cls:=.type "list",data:=.seq its.toArray n }) (hf:f { cls:=.type "list",data:=.seq its.toArray n }={ cls:=.type "list",data:=.seq its'.toArray n' }) (r:Vals ys its') (hz:ys.length<=sizeLine) (t:Nat) :
  Inv X pins σ (upd H p (.lst ys)) { s with heap:=s.heap.update p f,toks:=t }:=by
 have e:(s.heap.update p f).get? p=some { cls:=.type "list",data:=.seq its'.toArray n' }:=by
  rw [aAN f ho (by rw [hf] <;> rfl),hf]
 refine I.write (x:=p) (e:=p) (by rw [h];trivial) (.inl rfl) (λb u hb q=>(aAD _ _ (Ne.symm hb)).trans q) ⟨_,e⟩ ?_;exact ⟨hz,its',n',r,e⟩
inductive ISetL (o i v:V) (H:Hp) (Q:Hp->Prop):Prop
 | mk (p:Addr) (xs:List V) (k:Int) (j:Nat):(o=.ref p)->(i=.int k)->(H p=some (.lst xs))->(ixN xs.length k=some j)->(Q (upd H p (.lst (xs.set j v))))->ISetL o i v H Q
def IF:V->V->V->Hp->(Hp->Prop)->Prop:=λo i v H Q=>ISetL o i v H Q
theorem tt:Iy X IF:=by
 intro pins s σ H o i v ov iv u Q I ro ri rv h;obtain ⟨p,xs,k,j,rfl,rfl,hp,hj,q⟩:=h
 cases ro
 obtain ⟨t,rfl⟩:=ri;obtain ⟨its,n,r,ho,hz⟩:=I.lst hp;obtain ⟨h1,h2,h3,h4⟩:=lg hj;have hl:=r.length;have hn:=gI;have I':Inv X pins σ (upd H p (.lst (xs.set j v))) { s with heap:=s.heap.update p (Obj.mapSeq (·.setIfInBounds j u)) } :=
  I.lstUpd hp ho (oM its n j u) (r.set rv j) (by rw [List.length_set];exact hz) s.toks
 by_cases h0:0<=k
 ·have hk:k.toNat=j:=by
   rw [seqIndex_of h0 h4] at h1;exact Option.some.inj h1
  exact W.ki_setAt ho h0 (by lia) (by rw [aAh,<- hl];exact h4) (by rw [hk];exact ⟨_,I',q⟩)
 ·have hk:(k+(its.toArray.size:Int)).toNat=j:=by
   rw [seqIndex_neg (by lia) h3] at h1;rw [aAh,<- hl];exact Option.some.inj h1
  exact W.ki_setBack ho (by lia) (by rw [aAh,<- hl];exact h3) (by lia) (by rw [hk];exact ⟨_,I',q⟩)
theorem lh (lo hi:Option Int) (n:Nat):(sliceBounds lo hi none n).1=((HT.sIx n 0 lo:Nat):Int)/\(sliceBounds lo hi none n).2.1=((HT.sIx n n hi:Nat):Int)/\(sliceBounds lo hi none n).2.2=1:=by
 refine ⟨?_,?_,rfl⟩
 ·cases lo with
  | none=>simp [sliceBounds,HT.sIx]
  | some i =>
   simp only [sliceBounds,HT.sIx,Option.getD_none,show (1:Int) > 0 by decide,if_true]
   by_cases h:i < 0
   ·simp only [h,if_true] <;> lia
   ·simp only [h,if_false] <;> lia
 ·cases hi with
  | none=>simp [sliceBounds,HT.sIx]
  | some i =>
   simp only [sliceBounds,HT.sIx,Option.getD_none,show (1:Int) > 0 by decide,if_true]
   by_cases h:i < 0
   ·simp only [h,if_true] <;> lia
   ·simp only [h,if_false] <;> lia
theorem jK (its:List Value) (lo hi:Option Int):slicePick its.toArray lo hi none=((its.drop (HT.sIx its.length 0 lo)).take (HT.sIx its.length its.length hi - HT.sIx its.length 0 lo)).toArray:=by
 obtain ⟨h1,h2,h3⟩:=lh lo hi its.toArray.size;unfold slicePick;rw [h1,h2,h3];simp only [sliceRange_one,pick_run,aAh] <;> rfl
def IG (K:W.Frag):V->Option Int->Option Int->Hp->VK->Prop:=λx lo hi H Q=>∃ a xs,x=.ref a/\SqL K H a xs/\∀ p,H p=none->Q (.ref p) (upd H p (.lst (kZ xs lo hi)))
theorem vC:SlR X (IG X.K):=by
 intro pins s σ H x v vl vu lo hi sl Q I rx hs pl pu h;obtain ⟨a,xs,rfl,hx,q⟩:=h
 cases rx
 obtain ⟨its,r,ht,hz⟩:=I.list hx;have hlen:=r.length;refine ⟨"list",_,slot_list_getitem.lookup,ht.isList.typeIs,?_⟩;refine wpAny_getItem_list_slice ht.isList hs pl pu .none (by simp) ?_ (by rw [aAh] <;> lia);rw [jK,<- hlen];refine ⟨.ref s.heap.objs.size,_,I.laid (t':=s.toks) (o:=.lst (kZ xs lo hi)) (λb ob q=>aAa _ q) (aAf _) ?_,rfl,q _ (I.hok.fresh (aAf _))⟩;exact ⟨aAw (ia xs lo hi) hz,_,0,(r.drop (HT.sIx xs.length 0 lo)).take (HT.sIx xs.length xs.length hi - HT.sIx xs.length 0 lo),aAg _ rfl⟩
def dY:V->Bool
 | .non=>true
 | .bl _=>true
 | .int _=>true
 | .str _=>true
 | _=>false
def eqV:V->V->Bool
 | .non,.non=>true
 | .bl a,.bl b=>a == b
 | .bl a,.int b=>(if a then 1 else 0) == b
 | .int a,.bl b=>a == (if b then 1 else 0)
 | .int a,.int b=>a == b
 | .str a,.str b=>a == b
 | _,_=>false
theorem AZ {A:Around} {s:Shared} {y x:V} {u v:Value} (ry:RelV y u) (rx:RelV x v) (fy:dY y=true) (fx:dY x=true):SeqAt.EqAt A s u v (eqV y x):=by
 cases y with
 | non =>
  cases ry
  cases x with
  | non=>cases rx;exact SeqAt.EqAt.same _
  | bl b=>cases rx;exact SeqAt.EqAt.none_bool b
  | int b=>obtain ⟨t,rfl⟩:=rx;exact SeqAt.EqAt.none_int b t
  | str b=>obtain ⟨t,rfl⟩:=rx;exact SeqAt.EqAt.none_str b t
  | _=>exact absurd (show false=true from fx) aAj
 | bl a =>
  cases ry
  cases x with
  | non=>cases rx;exact SeqAt.EqAt.bool_none a
  | bl b=>cases rx;exact SeqAt.EqAt.bool_bool a b
  | int b=>obtain ⟨t,rfl⟩:=rx;exact SeqAt.EqAt.bool_int a b t
  | str b=>obtain ⟨t,rfl⟩:=rx;exact SeqAt.EqAt.bool_str a b t
  | _=>exact absurd (show false=true from fx) aAj
 | int a =>
  obtain ⟨t',rfl⟩:=ry
  cases x with
  | non=>cases rx;exact SeqAt.EqAt.int_none a t'
  | bl b=>cases rx;exact SeqAt.EqAt.int_bool a t' b
  | int b=>obtain ⟨t,rfl⟩:=rx;exact SeqAt.EqAt.int_int a t' b t
  | str b=>obtain ⟨t,rfl⟩:=rx;exact SeqAt.EqAt.int_str a t' b t
  | _=>exact absurd (show false=true from fx) aAj
 | str a =>
  obtain ⟨t',rfl⟩:=ry
  cases x with
  | non=>cases rx;exact SeqAt.EqAt.str_none a t'
  | bl b=>cases rx;exact SeqAt.EqAt.str_bool a t' b
  | int b=>obtain ⟨t,rfl⟩:=rx;exact SeqAt.EqAt.str_int a t' b t
  | str b=>obtain ⟨t,rfl⟩:=rx;exact SeqAt.EqAt.str_str a t' b t
  | _=>exact absurd (show false=true from fx) aAj
 | _=>exact absurd (show false=true from fy) aAj
def eqU (x:V) (u:Value):Bool:=match u with
 | .none=>eqV .non x
 | .bool b=>eqV (.bl b) x
 | .int i _=>eqV (.int i) x
 | .str z _=>eqV (.str z) x
 | _=>false
theorem tu {x y:V} {u:Value} (r:RelV y u) (f:dY y=true):eqU x u=eqV y x:=by
 cases y with
 | non=>cases r;rfl
 | bl b=>cases r;rfl
 | int i=>obtain ⟨t,rfl⟩:=r;rfl
 | str z=>obtain ⟨t,rfl⟩:=r;rfl
 | _=>exact absurd (show false=true from f) aAj
theorem fQ {x:V}:∀ {xs:List V} {us:List Value},Vals xs us->xs.all dY=true->us.any (eqU x)=xs.any λy=>eqV y x
 | _,_,.nil,_=>rfl
 | y :: xs,u :: us,.cons r t,f=>by
  rw [aBD,aAq] at f;rw [aA5,aA5,tu r f.1,fQ t f.2]
theorem dZ {A:Around} {s:Shared} {x:V} {v:Value} (rx:RelV x v) (fx:dY x=true):∀ {xs:List V} {us:List Value},Vals xs us->xs.all dY=true->∀ u∈us,SeqAt.EqAt A s u v (eqU x u)
 | _,_,.nil,_=>λu hu=>by cases hu
 | y :: xs,u :: us,.cons r t,f=>λu' hu=>by
  rw [aBD,aAq] at f;rcases aAm.mp hu with rfl | hu
  ·rw [tu r f.1];exact AZ r rx f.1 fx
  ·exact dZ rx fx t f.2 u' hu
def inV (x:V) (xs:List V):Bool:=xs.any λy=>eqV y x
def rIn (K:W.Frag) (neg:Bool):R2:=λx y H Q=>∃ p xs,y=.ref p/\(SqL K H p xs\/SqT K H p xs)/\dY x=true/\xs.all dY=true/\Q (.bl (if neg then !inV x xs else inV x xs)) H
theorem rn:OpR X (compareOp .In) (rIn X.K false):=by
 intro pins s σ H x y v u Q I rx ry h;obtain ⟨p,xs,rfl,hq,fx,fs,q⟩:=h
 cases ry
 rcases hq with hq | hq
 ·obtain ⟨its,r,pl,hz⟩:=I.list hq;refine SeqAt.in_listAt (eqU x) pl.isList (λw hw=>dZ rx fx r fs w (by simpa using hw)) ⟨.bl _,H,I,rfl,?_⟩;rw [show its.toArray.any (eqU x)=its.any (eqU x) by simp,fQ r fs];exact q
 ·obtain ⟨its,r,pl,hz⟩:=I.tuple hq;refine SeqAt.in_tupleAt (eqU x) pl (λw hw=>dZ rx fx r fs w (by simpa using hw)) ⟨.bl _,H,I,rfl,?_⟩;rw [show its.toArray.any (eqU x)=its.any (eqU x) by simp,fQ r fs];exact q
theorem op_notIn_seq:OpR X (compareOp .NotIn) (rIn X.K true):=by
 intro pins s σ H x y v u Q I rx ry h;obtain ⟨p,xs,rfl,hq,fx,fs,q⟩:=h
 cases ry
 rcases hq with hq | hq
 ·obtain ⟨its,r,pl,hz⟩:=I.list hq;refine SeqAt.notIn_listAt (eqU x) pl.isList (λw hw=>dZ rx fx r fs w (by simpa using hw)) ⟨.bl _,H,I,rfl,?_⟩;rw [show its.toArray.any (eqU x)=its.any (eqU x) by simp,fQ r fs];exact q
 ·obtain ⟨its,r,pl,hz⟩:=I.tuple hq;refine SeqAt.notIn_tupleAt (eqU x) pl (λw hw=>dZ rx fx r fs w (by simpa using hw)) ⟨.bl _,H,I,rfl,?_⟩;rw [show its.toArray.any (eqU x)=its.any (eqU x) by simp,fQ r fs];exact q
theorem fR:aS X (.builtin "len") (λxs H Q=>∃ p ys,xs=[.ref p]/\(SqL X.K H p ys\/SqT X.K H p ys)/\Q (.int ys.length) H):=by
 intro pins s σ H xs us Q I r h;obtain ⟨p,ys,rfl,hq,q⟩:=h;obtain ⟨u,rfl,rx⟩:=cq r
 cases rx
 have hn:=gI;rcases hq with hq | hq
 ·obtain ⟨its,r',pl,hz⟩:=I.list hq;have hlen:=r'.length;exact Calls.call_len_list pl.isList (by simp only [aAh] <;> lia) ⟨.int ys.length,H,I.tok _,⟨s.toks+1,by rw [aAh,hlen]⟩,q⟩
 ·obtain ⟨its,r',pl,hz⟩:=I.tuple hq;have hlen:=r'.length;exact len_tuple pl (by simp only [aAh] <;> lia) ⟨.int ys.length,H,I.tok _,⟨s.toks+1,by rw [aAh,hlen]⟩,q⟩
theorem call_len_str:aS X (.builtin "len") (λxs H Q=>∃ z,xs=[.str z]/\z.length<=sizeLine/\Q (.int z.length) H):=by
 intro pins s σ H xs us Q I r h;obtain ⟨z,rfl,hz,q⟩:=h;obtain ⟨u,rfl,t,rfl⟩:=cq r;have hn:=gI;exact len_str (by lia) ⟨.int z.length,H,I.tok _,⟨_,rfl⟩,q⟩
def tyV (K:W.Frag) (T:String) (x:V) (H:Hp):Prop:=match x with
 | .str _=>T= "str"
 | .int _=>T= "int"
 | .ref p=>(T= "list" /\∃ xs,SqL K H p xs)\/(T= "tuple" /\∃ o,K.lookup p=some o/\o.cls=.type "tuple" /\o.dict=none) \/
   (T= "dict" /\((∃ kvs,H p=some (.dK kvs))\/∃ kvs,H p=some (.dT kvs)))\/(T= "set" /\∃ S n,H p=some (.set S n))
 | _=>False
theorem A0 {pins:List (Addr×Obj)} {σ:St} {H:Hp} {s:Shared} {T:String} {x:V} {v:Value} (I:Inv X pins σ H s) (r:RelV x v) (ty:tyV X.K T x H) :
  s.TypeIs v T/\∀ a,v=.ref a->∃ ob,s.heap.get? a=some ob/\ob.dict=none:=by
 cases x with
 | str z =>
  obtain ⟨t,rfl⟩:=r
  cases (show T= "str" from ty)
  exact ⟨typeIs_str s z t,λ_ e=>nomatch e⟩
 | int i =>
  obtain ⟨t,rfl⟩:=r
  cases (show T= "int" from ty)
  exact ⟨typeIs_int s i t,λ_ e=>nomatch e⟩
 | ref p =>
  cases r
  rcases ty with ⟨rfl,xs,hq⟩ | ⟨rfl,o,hk,hc,hd⟩ | ⟨rfl,hk⟩ | ⟨rfl,S,n,hk⟩
  ·obtain ⟨its,_,pl,_⟩:=I.list hq;refine ⟨pl.isList.typeIs,λa e=>?_⟩
   cases e
   obtain ⟨o,n,e,c,hd,_⟩:=pl;exact ⟨o,e,hd⟩
  ·refine ⟨⟨o,I.kIn p o hk,hc⟩,λa e=>?_⟩
   cases e
   exact ⟨o,I.kIn _ o hk,hd⟩
  ·have z:∃ o,s.heap.get? p=some o/\o.ExactDict:=by
    rcases hk with ⟨kvs,hk⟩ | ⟨kvs,hk⟩
    ·obtain ⟨_,_,_,_,o,_,_,e,ex,_⟩:=I.hok p _ hk;exact ⟨o,e,ex⟩
    ·obtain ⟨_,_,_,_,o,_,_,e,ex,_⟩:=I.hok p _ hk;exact ⟨o,e,ex⟩
   obtain ⟨o,e,ex⟩:=z;refine ⟨⟨o,e,ex.1⟩,λa e2=>?_⟩
   cases e2
   exact ⟨o,e,ex.2.1⟩
  ·obtain ⟨o,_,_,_,e,ex,_⟩:=I.hok p _ hk;refine ⟨⟨o,e,ex.1⟩,λa e2=>?_⟩
   cases e2
   exact ⟨o,e,ex.2.1⟩
 | _=>exact False.elim ty
def tBM (K:W.Frag) (T:String) (r:V->List V->Hp->VK->Prop) (to:TE) (t:TA):TE:=λσ H Q=>to σ H λx H1=>tyV K T x H1/\t σ H1 λxs H2=>r x xs H2 Q
variable {o e:Expr} {es:List Expr} {to:TE} {t:TA} {name:Str} {apos cpos:Pos} {T id:String} {r:V->List V->Hp->VK->Prop}
theorem IH (pa:PlainAttrs T) (slot:Slot T name id) (hty:typeOf (.builtin id)=pure (.type "method_descriptor")) (hm:MtR X id r) (ho:PE X o to) (ha:PA X (e :: es) t)
  (hbase:attributeBase o name X.env (eval o X.env)=eval o X.env:=by rfl)
  (hfew:((backTo cpos (starEach (e :: es) X.env)).all (λx=>!x.1) && (backToKw cpos (keywordEach [] X.env)).all (λx=>x.1.isSome)
   && decide ((e :: es).length+([]:List Keyword).length+(if ([]:List Keyword).isEmpty then 0 else 1) < 30))=true:=by rfl)
  (hline:(apos.endLine == cpos.line)=true:=by rfl) (hs:starEach (e :: es) X.env=(false,eval e X.env) :: starEach es X.env:=by rfl) (hplain:(backTo cpos (starEach es X.env)).any (·.1)=false:=by rfl) :
  PE X (.Call (.Attribute o name apos) (e :: es) [] cpos) (tBM X.K T r to t):=by
 intro pins s σ H Q I h;refine wpAny_Call_method_late hbase hfew hline rfl (thn (ho pins s σ H _ I h) λv s1 ⟨x,H1,I1,r1,ty,q1⟩=>?_);obtain ⟨h1,h2⟩:=A0 I1 r1 ty;refine ⟨T,id,pa,slot,hty,h1,h2,?_⟩;have hA:=ha cpos pins s1 σ H1 _ I1 q1;rw [hs] at hA ⊢;refine Calls.callWith_builtin (by show (false || (backTo cpos (starEach es X.env)).any (·.1))=false;rw [hplain] <;> rfl) (Calls.evalArgs_plain ?_);exact thn hA λus s2 ⟨vs,H2,I2,r2,q2⟩=>hm pins s2 σ H2 x vs v us Q I2 r1 r2 q2
end
def MtM (X:Cx) (id:String) (r:V->List V->Hp->VK->Prop):Prop :=
 ∀ (pins:List (Addr×Obj)) (s:Shared) (σ:St) (H:Hp) (x:V) (xs:List V) (v:Value) (us:List Value) (Q:VK),Inv X pins σ H s->RelV x v->Vals xs us->r x xs H Q ->
  wpAny (model X.prog X.w) X.A (call (.builtin id) (v :: us)) (EP X pins σ Q) X.xe s
theorem Vals.one:∀ {x:V} {us:List Value},Vals [x] us->∃ u,us=[u]/\RelV x u:=by
 intro x us h
 cases h with
 | cons r t =>
  cases t
  exact ⟨_,rfl,r⟩
theorem Vals.two:∀ {x y:V} {us:List Value},Vals [x,y] us->∃ u v,us=[u,v]/\RelV x u/\RelV y v:=by
 intro x y us h
 cases h with
 | cons r t =>
  cases t with
  | cons q t =>
   cases t
   exact ⟨_,_,rfl,r,q⟩
section
variable {X:Cx} {pins:List (Addr×Obj)} {σ:St} {H:Hp} {s:Shared} {l b:Addr} {xs ys zs:List V}
theorem Inv.lset {its its':List Value} {n:Nat} {f:Array Value->Array Value} {t':Nat} (I:Inv X pins σ H s) (hH:H l=some (.lst xs))
  (e:s.heap.get? l=some { cls:=.type "list",data:=.seq its.toArray n }) (hf:f its.toArray=its'.toArray) (hv:Vals ys its') (hz:ys.length<=sizeLine) :
  Inv X pins σ (upd H l (.lst ys)) { s with heap:=s.heap.update l (Obj.mapSeq f),toks:=t' }:=by
 have q:=PySem.IsL.update e f;rw [hf] at q;refine I.write (x:=l) (e:=l) (by rw [hH];exact trivial) (.inl rfl) (λb' u hb hu=>(aAD s.heap (Obj.mapSeq f) (Ne.symm hb)).trans hu) ⟨_,q⟩ ?_;exact ⟨hz,its',_,hv,q⟩
theorem Inv.lnew {its:List Value} {t':Nat} (I:Inv X pins σ H s) (hv:Vals ys its) (hz:ys.length<=sizeLine) :
  Inv X pins σ (upd H s.heap.objs.size (.lst ys)) { s with heap:=s.heap.push { cls:=.type "list",data:=.seq its.toArray },toks:=t' } :=
 I.laid (λ_ _ q=>aAa _ q) (aAf _) ⟨hz,its,0,hv,aAg _ rfl⟩
theorem Inv.fresh (I:Inv X pins σ H s):H s.heap.objs.size=none:=I.hok.fresh (aAf _)
theorem Inv.lstM (I:Inv X pins σ H s) (hH:H l=some (.lst xs)):xs.length<=sizeLine/\∃ (its:List Value) (n:Nat),Vals xs its/\xs.length=its.length/\s.heap.get? l=some { cls:=.type "list",data:=.seq its.toArray n }:=by
 obtain ⟨z,its,n,r,e⟩:=I.hok l _ hH;exact ⟨z,its,n,r,r.length,e⟩
end
section
variable {X:Cx}
inductive IApp (x:V) (vs:List V) (H:Hp) (Q:VK):Prop
 | mk (l:Addr) (xs:List V) (y:V):(x=.ref l)->(vs=[y])->(H l=some (.lst xs))->(xs.length < sizeLine)->(Q .non (upd H l (.lst (xs++[y]))))->IApp x vs H Q
def vD:V->List V->Hp->VK->Prop:=λx vs H Q=>IApp x vs H Q
theorem rp:MtM X "list.append" vD:=by
 intro pins s σ H x vs v us Q I rx rv h;obtain ⟨l,xs,y,rfl,rfl,hH,hz,q⟩:=h
 cases rx
 obtain ⟨u,rfl,ru⟩:=rv.one;obtain ⟨z,its,n,r,hl,e⟩:=I.lstM hH;refine call_meets F.slot_list_append ⟨_,e,rfl⟩ F.entry_list_append (F.args_list_append_2 _ _) (PySem.list_append l its.toArray n u (by rw [aAh];lia)) ⟨e,?_⟩;refine ⟨.non,_,I.lset (its':=its++[u]) hH e (by simp) (r.append (.cons ru .nil)) ?_,rfl,q⟩;rw [aAt,aBq];lia
end
section
variable {prog:Program} {w:World} {A:Around} {E:Value->Shared->Prop} {s:Shared}
end
section
variable {X:Cx}
end
end L2
namespace Att
open PySem PySem.W PySem.Calls PyProof.Rows
theorem io {P:Params} {h:Heap}:∀ (ns:List Int) (vs:List Value),WellAll P h vs (ns.map WData.int)->IntsAre vs ns:=by
 intro ns
 induction ns with
 | nil =>
  intro vs w;rw [List.map_nil] at w
  cases w
  exact .nil
 | cons n ns ih =>
  intro vs w;rw [aAS] at w
  cases w with
  | cons a b =>
   cases a
   exact .cons _ _ (ih _ b)
theorem rq {l:OpenLaw} {n:Nat} (hn:l.most=some n) {P:Params} {h:Heap} {args:List WData} {vals:List Value}
  (hpre:l.row.toRowW.claim.pre args=true) (hwl:WellAll P h vals args) :
  ∃ a vs ns,vals=[Value.ref a]/\args=[WData.list (ns.map WData.int)]/\h.get? a=some { cls:=.type "list",data:=.seq vs.toArray }/\IntsAre vs ns/\ns.length<=n:=by
 have hsh:WShape.hasAll [] args [.list .int]=true:=(pre_splitW hpre).1;have hc:l.pre.holds [] { args:=args }=true:=(pre_splitW hpre).2;obtain ⟨d,r,rfl,h1,h2⟩:=hasAllW_cons hsh;obtain rfl:=hasAllW_nil h2;obtain ⟨xs,rfl,h3⟩:=hasW_list h1;obtain ⟨ns,rfl⟩:=items_int h3;have hlen:ns.length<=n:=by
  unfold OpenLaw.pre at hc;have h4:(WTm.not (.lt (.lit (.int (n:Int))) (.len (.arg 0)))).holds [] { args:=[.list (ns.map .int)] }=true:=by
   have h4:=(holds_andW hc).1;rw [hn] at h4;exact h4
  have h5:=condW_of h4 (w_not (w_lt w_lit (w_len_list (w_arg rfl))));rw [aAe] at h5;refine aBG λq=>?_;have q':(n:Int) < ((ns.length:Nat):Int):=by lia
  first
   | (rw [decide_eq_true q'] at h5;exact absurd h5 (by decide))
   | (simp at h5;lia)
 cases hwl with
 | cons w1 w2 =>
  cases w2
  cases w1 with
  | list ho hall=>exact ⟨_,_,ns,rfl,rfl,ho,io ns _ hall,hlen⟩
theorem rs (l:OpenLaw) (args:List WData):l.row.toRowW.claim.post args (.bool true) args=true :=
 postW_of (r:=l.row.toRowW) (X:=(true == true))
  (show WShape.has [] (.bool true) .bool=true by first | rfl | decide | simp [WShape.has,WShape.arms,WShape.armsAll])
  (show (WTm.eq .res (.lit (.bool true))).value [] { args:=args,res:=some (.bool true),after:=args }=some (.bool (true == true)) from w_eq_bool (w_res rfl) w_lit) rfl
theorem attach_call {l:OpenLaw} {n:Nat} {q:Program} {loose:List Str} {XP:(Str->Option Value)->Heap->Prop} {YP:World->Heap->Prop} {d:DefRec}
  (hn:l.most=some n) (hdf:d.params.defaults=[])
  (call:∀ (w:World) (s₀ s₁:Shared) (mg mb:Str->Option Value) (fa:Addr) (o:Obj) (pm cd doc:Value) (a:Addr) (vs:List Value) (ns:List Int),
   Ground q loose [] XP w s₀ mg mb s₁.heap->YP w s₁.heap ->
   s₁.heap.get? fa=some o->o.data=.func (docDef d.name d.params d.body d.scope pm cd doc)->s₁.heap.CodeRec cd d.name->mg d.name=some (.ref fa) ->
   s₁.heap.get? a=some { cls:=.type "list",data:=.seq vs.toArray }->IntsAre vs ns->ns.length<=n->s₁.gens=#[] ->
   codeAny (model l.prog w) callerA (.call (.ref fa) ⟨[.ref a],[]⟩) (λr s'=>r=.ok (.ret (.bool true))/\OldK s₁.heap s'.heap/\s'.os=s₁.os/\AllBare s'.gens) s₁) :
  WalkO q loose XP YP l.row.toRowW d [] (λf vs=>PySem.call f vs):=by
 intro w s₀ s₁ mg mb G Y fa o pm cd doc dV kV ho hd hcd hD hmg hg args vals as hpre hlay hrd hwl hlo;obtain rfl:dV=.none:=Dflts.none hD hdf;obtain rfl:kV=.none:=Dflts.noKw hD;obtain ⟨a,vs,ns,rfl,rfl,hobj,hints,hlen⟩:=rq hn hpre hwl;refine enter_call (codeAny_mono (call w s₀ s₁ mg mb fa o pm cd doc a vs ns G Y ho (fd_plain hd) hcd hmg hobj hints hlen hg) λr s' hq=>?_);obtain ⟨rfl,h2,h3,h4⟩:=hq;exact ⟨.inl ⟨.bool true,.bool true,[],rfl,λ_=>rfl,.bool true,rs l _,λ_=>⟨List.Pairwise.nil,λ_ hm=>(nomatch hm)⟩⟩,h2,h3,h4⟩
section
variable {prog:Program} {w:World} {A:Around} {E:Value->Shared->Prop} {s:Shared} {K:Frag}
end
end Att
namespace L2
open PySem PySem.Spec PyProof.Rows
theorem ky:∀ {vs:List Value} {ns:List Int},IntsAre vs ns->Vals (ns.map V.int) vs
 | _,_,.nil=>.nil
 | _,_,.cons n t h=>.cons ⟨t,rfl⟩ (ky h)
def vE (H:Hp):Prop:=∀ b,H b=none\/∃ o xs,H b=some (.frz o (.lst xs))
theorem tw {P:Program} {w:World} {K:W.Frag} {mg mb:Str->Option Value} {CX:CXT} {k:Nat} {fa a:Addr} {fd:FuncData} {x:Str} {sp:Sp} {s₁:Shared} {vs:List Value} {ns:List Int}
  (KX:K.In s₁.heap) (hns:s₁.heap.Ns mainGlobals mg) (hb:s₁.heap.Ns builtinsNs mb) (hbb:∀ x:Str,x≠ "__name__" ->mb x=bootBuiltins x) (hlim:s₁.heap.NoLimit) (hg:s₁.gens=#[])
  (ha:s₁.heap.get? a=some { cls:=.type "list",data:=.seq vs.toArray }) (hi:IntsAre vs ns) (hl:ns.length<=sizeLine) (hr:Room k callerA)
  (F:∀ base:Heap,K.In base->base.Ns mainGlobals mg->FnOk P w K mg base CX k fa fd [x] sp) (hbind:∀ (s:Shared) (u:Value),BindsTo s fd ⟨[u],[]⟩ [(x,u)])
  (hsp:∀ H:Hp,vE H->SqL K H a (ns.map V.int)->sp [.ref a] H (λv _=>v=.bl true) λ_ _ _=>False)
  (hCX:∀ H e s',CX [] H s₁ (λ_ _ _=>False) e s'->False) :
  codeAny (model P w) callerA (.call (.ref fa) ⟨[.ref a],[]⟩) (λr s'=>r=.ok (.ret (.bool true))/\OldK s₁.heap s'.heap/\s'.os=s₁.os/\AllBare s'.gens) s₁:=by
 have rv:=ky hi;have lenV:=hi.length;have core:∀ H:Hp,vE H->SqL K H a (ns.map V.int)->HOk P w H s₁.heap->(∀ b,H b≠none->b=a)->(H a≠none->K.lookup a=none) ->
   codeAny (model P w) callerA (.call (.ref fa) ⟨[.ref a],[]⟩) (λr s'=>r=.ok (.ret (.bool true))/\OldK s₁.heap s'.heap/\s'.os=s₁.os/\AllBare s'.gens) s₁:=by
  intro H hO hS hok hA hK;have base_of:∀ {b:Addr} {o:Obj},s₁.heap.get? b=some o->H b=none->(kT s₁.heap H).get? b=some o:=λe n=>sO e n;have noA:∀ {b:Addr} {o:Obj} {es:Array DictEntry} {ep:Nat},s₁.heap.get? b=some o->o.data=.dict es ep->H b=none:=λ{b o es ep} e d=>by
   cases q:H b with
   | none=>rfl
   | some u =>
    have e':b=a:=hA b (by rw [q];simp);subst e';rw [ha] at e;cases e;have d':Data.seq vs.toArray _=Data.dict es ep:=d
    cases d'
  have nsK:∀ {b:Addr} {m:Str->Option Value},s₁.heap.Ns b m->(kT s₁.heap H).Ns b m:=λ{b m} ⟨o,es,ep,e,d,r⟩=>⟨o,es,ep,base_of e (noA e d),d,r⟩;have hKb:K.In (kT s₁.heap H):=λb o e=>base_of (KX b o e) (by
   cases q:H b with
   | none=>rfl
   | some u =>
    have e':b=a:=hA b (by rw [q];simp);subst e';rw [hK (by rw [q];simp)] at e;cases e)
  have hM:Mod K mg (kT s₁.heap H):=⟨hKb,nsK hns,⟨mb,nsK hb,hbb⟩,let ⟨mc,h1,h2⟩:=hlim;⟨mc,nsK h1,h2⟩⟩;have e0:Env0 P w K mg (kT s₁.heap H) callerA [] s₁ H:=⟨rfl,hM,λb o e=>vq e,Nat.le_of_eq (q9 _ _),trivial,λb hb=>absurd (show b∈([]:List Addr) from hb) (by simp),hok,.of_eq hg⟩;refine codeAny_mono ((F _ hKb (nsK hns)).run callerA [] s₁ H ⟨[.ref a],[]⟩ [.ref a] [.ref a] _ _ hr e0 (hbind s₁ (.ref a)) (.cons rfl .nil) (hsp H hO hS)) λr s' h=>?_
  cases r with
  | error e=>exact (hCX H e s' h).elim
  | ok fl =>
   cases fl with
   | next=>exact False.elim h
   | brk=>exact False.elim h
   | cont=>exact False.elim h
   | ret u =>
    obtain ⟨v,H',os,bare,un,hok',r',q⟩:=h;have q':v=.bl true:=q;subst q';obtain rfl:u=Value.bool true:=r';refine ⟨rfl,OldK.of_keep λb o e=>?_,os,bare⟩
    cases q:H b with
    | none=>exact un.keep b o e q (by intro z;exact absurd (show b∈([]:List Addr) from z) (by simp)) (by simp)
    | some u =>
     rcases hO b with z | ⟨ob,xs,z⟩
     ·rw [q] at z;cases z
     ·have z2:=un.frzs b ob _ z;obtain ⟨e1,_⟩:=hok b _ z;obtain ⟨e2,_⟩:=hok' b _ z2;rw [e] at e1;cases e1;exact e2
 cases hk:K.lookup a with
 | some o =>
  have e:=KX a o hk;rw [ha] at e
  cases e
  refine core (λ_=>none) (λ_=>.inl rfl) (.inr ⟨_,vs.toArray,_,hk,rfl,rfl,rfl,by rw [aAh,lenV];exact hl,by simpa using rv⟩) (λb u z=>by have z':(none:Option HO)=some u:=z;cases z') (λb z=>absurd rfl z) λz=>absurd rfl z
 | none =>
  refine core (λb=>if b=a then some (.frz { cls:=.type "list",data:=.seq vs.toArray } (.lst (ns.map V.int))) else none) (λb=>?_) (.inl (.inr ⟨{ cls:=.type "list",data:=.seq vs.toArray },if_pos rfl⟩)) (λb u z=>?_) (λb z=>?_) λ_=>hk
  ·by_cases hb:b=a
   ·exact .inr ⟨_,_,if_pos hb⟩
   ·exact .inl (if_neg hb)
  ·by_cases hb:b=a
   ·have z':=(if_pos hb).symm.trans z
    cases z'
    subst hb;exact ⟨ha,by rw [aAe];exact hl,vs,_,rv,ha⟩
   ·have z':=(if_neg hb).symm.trans z
    cases z'
  ·by_cases hb:b=a
   ·exact hb
   ·exact absurd (if_neg hb) z
abbrev KOf {K:W.Frag} {h:Heap} (_:K.In h):W.Frag:=K
theorem vF {l:W.OpenLaw} {n k:Nat} {q:Program} {loose:List Str} {XP:(Str->Option Value)->Heap->Prop} {YP:World->Heap->Prop} {d:DefRec} {K:Params->W.Frag} {CX:World->CXT} {sp:World->Sp} {x:Str}
  (hn:l.most=some n) (hn2:n<=sizeLine) (hdf:d.params.defaults=[]) (hr:Room k callerA)
  (hY:∀ (w:World) (h:Heap),YP w h->(K w.params).In h)
  (F:∀ (w:World) (mg:Str->Option Value) (fa:Addr) (h:Heap),(K w.params).In h->h.Ns mainGlobals mg->mg d.name=some (.ref fa) ->
   ∃ fd:FuncData,(∀ (s:Shared) (u:Value),BindsTo s fd ⟨[u],[]⟩ [(x,u)]) /\
    ∀ base:Heap,(K w.params).In base->base.Ns mainGlobals mg->FnOk l.prog w (K w.params) mg base (CX w) k fa fd [x] (sp w))
  (hsp:∀ (w:World) (H:Hp) (a:Addr) (ns:List Int),ns.length<=n->vE H->SqL (K w.params) H a (ns.map V.int)->sp w [.ref a] H (λv _=>v=.bl true) λ_ _ _=>False)
  (hCX:∀ (w:World) (H:Hp) (s:Shared) (e:Value) (s':Shared),CX w [] H s (λ_ _ _=>False) e s'->False) :
  W.WalkO q loose XP YP l.row.toRowW d [] (λf vs=>PySem.call f vs):=by
 refine Att.attach_call hn hdf λw s₀ s₁ mg mb fa o pm cd doc a vs ns G Y ho hd hcd hmg hobj hints hlen hg=>?_;have KX:=hY w _ Y;obtain ⟨fd,hb,hF⟩:=F w mg fa _ KX G.T.g hmg;exact tw KX G.T.g G.T.b G.T.builtins G.T.nolimit hg hobj hints (aAw hlen hn2) hr hF hb (λH hO hS=>hsp w H a ns hlen hO hS) λH e s'=>hCX w H s₁ e s'
theorem II {l:W.OpenLaw} {n k:Nat} {q:Program} {loose:List Str} {XP:(Str->Option Value)->Heap->Prop} {YP:World->Heap->Prop} {d:DefRec} {K:Params->W.Frag} {CX:CXT} {sp:W.Frag->Sp} {x:Str}
  (hn:l.most=some n) (hn2:n<=sizeLine) (hdf:d.params.defaults=[]) (hr:Room k callerA)
  (hY:∀ (w:World) (h:Heap),YP w h->(K w.params).In h)
  (F:∀ (w:World) (mg:Str->Option Value) (fa:Addr) (h:Heap),(K w.params).In h->h.Ns mainGlobals mg->mg d.name=some (.ref fa) ->
   ∃ fd:FuncData,(∀ (s:Shared) (u:Value),BindsTo s fd ⟨[u],[]⟩ [(x,u)]) /\
    ∀ base:Heap,(K w.params).In base->base.Ns mainGlobals mg->FnOk l.prog w (K w.params) mg base CX k fa fd [x] (sp (K w.params)))
  (hsp:∀ (K:W.Frag) (H:Hp) (a:Addr) (ns:List Int),ns.length<=n->vE H->SqL K H a (ns.map V.int)->sp K [.ref a] H (λv _=>v=.bl true) λ_ _ _=>False)
  (hCX:∀ (H:Hp) (s:Shared) (e:Value) (s':Shared),CX [] H s (λ_ _ _=>False) e s'->False) :
  W.WalkO q loose XP YP l.row.toRowW d [] (λf vs=>PySem.call f vs) :=
 vF (K:=K) (CX:=λ_=>CX) (sp:=λw=>sp (K w.params)) hn hn2 hdf hr hY F (λw H a ns h1 h2 h3=>hsp (K w.params) H a ns h1 h2 h3) λ_ H s e s'=>hCX H s e s'
end L2
namespace L2
open PySem PySem.Spec PyProof.Rows
abbrev CX0:CXT:=λ_ _ _ _ _ _=>False
abbrev E0:XK:=λ_ _ _=>False
theorem IJ {X:Cx}:fB CX0 X E0:=λ_ _ _ _ _ _ _ h=>h.elim
structure Fun (K:W.Frag) (x qual:Str) (st:Stmt) (f:Addr) (fd:FuncData):Prop where
 ex:∃ (oc:Value) (od:Option Addr) (kV doc pm:Value) (an:Option Addr) (cdv ct:Value) (osl:Array (Option Value)),
  fd=W.fnOf x qual (cN st) (aX st) (aa st) .none kV doc pm an cdv ct/\K.lookup f=some ⟨oc,od,.func fd,osl⟩/\W.codeIn K cdv qual=true
 kp:W.keepIn K (.ref f)=true
section
variable {P:Program} {w:World} {K:W.Frag} {mg:Str->Option Value} {base:Heap}
theorem Fun.ok {x qual:Str} {st:Stmt} {f:Addr} {fd:FuncData} {N ps:List Str} {k:Nat} {sp:Sp} (F:Fun K x qual st f fd) (S:FnScope N ps (aa st)) (len:∀ vs H Q E,sp vs H Q E->vs.length=ps.length)
  (hbody:∀ (cdv:Value) (A:Around) (outer:List Env) (s:Shared) (H:Hp) (vs:List V) (Q:VK) (E:XK),Room k (A.deeper (envOfC qual (aa st) s.heap.objs.size f cdv))->sp vs H Q E ->
   ∃ t,PSs (eZ CX0 P w K mg base N qual (aa st) f cdv A outer s H E).nox (aX st) t/\t { nx:=λ_ H'=>Q .non H',rt:=Q } (start N vs) H):FnOk P w K mg base CX0 (k+1) f fd ps sp:=by
 obtain ⟨oc,od,kV,doc,pm,an,cdv,ct,osl,rfl,lk,hcd⟩:=F.ex;refine mJ lk hcd S len λA outer s H vs Q E hr hsp=>?_;obtain ⟨t,h,q⟩:=hbody cdv A outer s H vs Q E hr hsp;exact ⟨t,h.nox,q⟩
theorem Fun.binds {x qual:Str} {st:Stmt} {f:Addr} {fd:FuncData} {ps:List Str} (F:Fun K x qual st f fd)
  (h:∀ (kV doc pm:Value) (an:Option Addr) (cdv ct:Value) (us:List Value),us.length=ps.length->bindArgs (W.fnOf x qual (cN st) (aX st) (aa st) .none kV doc pm an cdv ct) ⟨us,[]⟩=pure (ps.zip us)):Binds K fd ps []:=by
 obtain ⟨oc,od,kV,doc,pm,an,cdv,ct,osl,rfl,lk,hcd⟩:=F.ex;exact .all (h kV doc pm an cdv ct)
theorem tz {x qual:Str} {st:Stmt} {f:Addr} {oc:Value} {od an:Option Addr} {osl:Array (Option Value)} {kV doc pm cdv ct:Value} (l:K.lookup f=some ⟨oc,od,.func (W.fnOf x qual (cN st) (aX st) (aa st) .none kV doc pm an cdv ct),osl⟩)
  (c:W.codeIn K cdv qual=true) (k:W.keepIn K (.ref f)=true):Fun K x qual st f (W.fnOf x qual (cN st) (aX st) (aa st) .none kV doc pm an cdv ct):=⟨⟨oc,od,kV,doc,pm,an,cdv,ct,osl,rfl,l,c⟩,k⟩
end
theorem am {n:Nat} (h:n<=1000):n < sizeLine:=aBb h (1)
section
variable {X:Cx}
theorem pv (i:Nat) {x:Str} {pos:Pos} (hN:X.N[i]?=some x:=by rfl) (hv:Vis X.env.scope x:=by first | exact Or.inl rfl | exact Or.inr (Or.inl rfl) | exact Or.inr (Or.inr rfl)) (hd:(x == ("__debug__" : Str))=false:=by decide)
  (hcd:(x == ("__classdict__" : Str))=false:=by decide):PE X (.Name x pos) (mD i):=AM hN hv hd hcd
end
theorem aA {A B:Prop} (h:B):if false=true then A else B:=by
 rw [if_neg aAj];exact h
theorem aq {A B:Prop} (h:A):if true=true then A else B:=by
 rw [if_pos rfl];exact h
theorem aF {c A B:Prop} [Decidable c] (h1:c->A) (h2:¬ c->B):if c then A else B:=by
 by_cases h:c
 ·rw [if_pos h];exact h1 h
 ·rw [if_neg h];exact h2 h
def Same (H H':Hp):Prop:=∀ b o,H b=some o->H' b=some o
theorem Same.refl (H:Hp):Same H H:=λ_ _ h=>h
theorem Same.trans {H H1 H2:Hp} (a:Same H H1) (b:Same H1 H2):Same H H2:=λc o h=>b c o (a c o h)
theorem Same.free {H H':Hp} (e:Same H H') {l:Addr} (h:H' l=Option.none):H l=Option.none:=by
 cases q:H l with
 | none=>rfl
 | some o =>
  rw [e l o q] at h
  cases h
theorem Same.seq {K:W.Frag} {H H':Hp} {a:Addr} {xs:List V} (e:Same H H') (h:SqL K H a xs):SqL K H' a xs:=by
 rcases h with (h | ⟨o,h⟩) | h
 ·exact .inl (.inl (e _ _ h))
 ·exact .inl (.inr ⟨o,e _ _ h⟩)
 ·exact .inr h
def bV (env:Env):List (Str×NameKind)->List (Str×Addr)->List (Str×Addr)
 | [],cs=>cs
 | (n,k) :: r,cs=>bV env r (if k == .free then (n,(env.cells.lookup n).getD 0) :: cs else cs)
theorem fC {env:Env} {scope:Scope} (h:∀ x∈scope.names,x.2=.free->∃ c,env.cells.lookup x.1=some c):closureFor scope env=pure (bV env scope.names []):=by
 simp only [closureFor];have go:∀ (l:List (Str×NameKind)) (cs:List (Str×Addr)),(∀ x∈l,x.2=.free->∃ c,env.cells.lookup x.1=some c) ->
   (forIn l cs λ(x:Str×NameKind) (r:List (Str×Addr))=>(do
    let (name,kind):=x
    if kind == .free then
     let a <- cellOf env name
     pure (ForInStep.yield ((name,a) :: r))
    else pure (ForInStep.yield r):Sem (ForInStep (List (Str×Addr)))))=pure (bV env l cs):=by
  intro l
  induction l with
  | nil=>intro cs _;rfl
  | cons x r ih =>
   intro cs hx;obtain ⟨n,k⟩:=x;rw [aAz]
   by_cases hk:k=.free
   ·obtain ⟨c,hc⟩:=hx (n,k) aAr hk;subst hk;have e:cellOf env n=pure c:=by unfold cellOf;rw [hc]
    simp only [beq_self_eq_true,if_true,e,pure_bind];rw [ih _ λy hy=>hx y (aAp _ hy)];simp only [bV,beq_self_eq_true,if_true,hc,Option.getD_some]
   ·have hb:(k == NameKind.free)=false:=by simpa using hk
    simp only [hb,aAF,if_false,pure_bind];rw [ih _ λy hy=>hx y (aAp _ hy)];simp only [bV,hb,aAF,if_false]
 have g:=go scope.names [] h
 first
  | exact (by rw [g]:_=_)
  | (rw [<- bind_pure (pure (bV env scope.names []))];rw [<- g];rfl)
  | (simp only [g,pure_bind])
theorem gJ {env:Env}:∀ (l:List (Str×NameKind)) (cs:List (Str×Addr)),(∀ x∈l,x.2=.free->∃ c,env.cells.lookup x.1=some c)->(∀ x c,cs.lookup x=some c->env.cells.lookup x=some c) ->
  ∀ x c,(bV env l cs).lookup x=some c->env.cells.lookup x=some c
 | [],_,_,h=>h
 | (n,k) :: r,cs,hx,h=>by
  refine gJ r _ (λy hy=>hx y (aAp _ hy)) ?_;intro x c e
  by_cases hk:k=.free
  ·obtain ⟨c',hc⟩:=hx (n,k) aAr hk;subst hk;simp only [beq_self_eq_true,if_true,hc,Option.getD_some] at e;rw [aAW] at e
   cases q:x == n with
   | true =>
    rw [q] at e;have q':x=n:=by simpa using q
    cases e
    rw [q'];exact hc
   | false=>rw [q] at e;exact h x c e
  ·have hb:(k == NameKind.free)=false:=by simpa using hk
   simp only [hb,aAF,if_false] at e;exact h x c e
theorem ib {env:Env}:∀ (l:List (Str×NameKind)) (cs:List (Str×Addr)) (x:Str),(∃ c,cs.lookup x=some c)->∃ c,(bV env l cs).lookup x=some c
 | [],_,_,h=>h
 | (n,k) :: r,cs,x,h=>by
  refine ib r _ x ?_
  split
  ·rw [aAW]
   cases q:x == n with
   | true=>exact ⟨_,rfl⟩
   | false=>exact h
  ·exact h
theorem eT {env:Env}:∀ (l:List (Str×NameKind)) (cs:List (Str×Addr)) (x:Str),l.lookup x=some .free->∃ c,(bV env l cs).lookup x=some c
 | [],_,_,h=>by simp at h
 | (n,k) :: r,cs,x,h=>by
  rw [aAW] at h
  cases q:x == n with
  | true =>
   rw [q] at h
   cases h
   refine ib r _ x ?_;simp only [beq_self_eq_true,if_true];rw [aAW,q];exact ⟨_,rfl⟩
  | false=>rw [q] at h;exact eT r _ x h
theorem dA {env:Env}:∀ {names:List (Str×NameKind)} {x:Str} {k':NameKind},
  (names.map λ(n,k)=>if (k == NameKind.free && env.scope.kind == .function && env.kindOf n == some .cell) then (n,NameKind.cell) else (n,k)).lookup x=some k' ->
  ∃ k,names.lookup x=some k/\(k'=k\/(k=.free/\k'=.cell))
 | [],_,_,h=>by simp at h
 | (n,k) :: r,x,k',h=>by
  have ih:=@dA env r x k';rw [aAS] at h
  by_cases hc:(k == NameKind.free && env.scope.kind == .function && env.kindOf n == some .cell)=true
  ·have h2:List.lookup x ((n,NameKind.cell) :: r.map λ(n,k)=>if (k == NameKind.free && env.scope.kind == .function && env.kindOf n == some .cell) then (n,NameKind.cell) else (n,k))=some k':=by
    simpa [hc] using h
   rw [aAW] at h2;rw [aAW]
   cases q:x == n with
   | true =>
    rw [q] at h2
    cases h2
    have hk:k=.free:=by
     simp only [aAq] at hc
     simpa using hc.1.1
    exact ⟨k,rfl,.inr ⟨hk,rfl⟩⟩
   | false=>rw [q] at h2;exact ih h2
  ·have h2:List.lookup x ((n,k) :: r.map λ(n,k)=>if (k == NameKind.free && env.scope.kind == .function && env.kindOf n == some .cell) then (n,NameKind.cell) else (n,k))=some k':=by
    simpa [hc] using h
   rw [aAW] at h2;rw [aAW]
   cases q:x == n with
   | true=>rw [q] at h2;cases h2;exact ⟨_,rfl,.inl rfl⟩
   | false=>rw [q] at h2;exact ih h2
def ccx (X:Cx) (scope:Scope) (C:Addr) (N':List Str) (s₀:Shared) (H₀:Hp) (fp:List Addr):Cx :=
 { X with N:=N',s₀:=s₀,H₀:=H₀,env:=compEnvC scope (bV X.env scope.names []) C X.env,outer:=X.stack,stack:=X.stack,ex:=fp,fn:=λ_=>false,pn:=[],xe:=λ_ _=>False }
def cst (k:Nat) (ρ:List Nat) (σ:St):St:=List.replicate k none++ρ.map λj=>(σ[j]?).join
structure CScope (X:Cx) (scope:Scope) (NL:List Str) (ρ:List Nat) (N':List Str):Prop where
 kind:scope.kind=.function
 nocell:∀ x∈scope.names,x.2≠.cell
 locs:∀ x∈scope.names,x.2=.local->scope.names.lookup x.1=some .local
 frees:∀ x∈scope.names,x.2=.free->X.env.kindOf x.1=some .cell\/X.env.kindOf x.1=some .free
 names:N'=NL++ρ.map λj=>X.N.getD j ""
 outs:∀ j∈ρ,∃ x,X.N[j]?=some x/\scope.names.lookup x=some .free/\(X.env.scope.names.lookup x=some .cell\/X.env.scope.names.lookup x=some .free)
section
variable {X:Cx}
theorem vG {scope:Scope} {NL N':List Str} {ρ:List Nat} (S:CScope X scope NL ρ N') {pins:List (Addr×Obj)} {σ:St} {H:Hp} {s:Shared} {fp:List Addr} {C:Addr} (I:Inv X pins σ H s) (hf:∀ b∈fp,dj X pins H b)
  (hfo:∀ b∈fp,∃ o,s.heap.get? b=some o) (hC:s.heap.objs.size<=C):(ccx X scope C N' s H fp).Ok:=by
 have free_in:∀ x∈scope.names,x.2=.free->∃ c,X.env.cells.lookup x.1=some c:=λx hx hk=>I.ok.has x.1 (S.frees x hx hk);have sub:=gJ (env:=X.env) scope.names [] free_in (λx c e=>by simp at e);refine ⟨I.ok.mod,S.kind,I.ok.glob,I.ok.blt,hC,?_,?_,?_,I.ok.hd,I.ok.frames,.inl rfl,?_,I.bs,?_,?_,?_,I.stack,I.stkFree⟩
 ·exact λx y c e1 e2=>I.ok.inj x y c (sub x c e1) (sub y c e2)
 ·intro x hx;have hx':(relabel scope X.env).names.lookup x=some .cell\/(relabel scope X.env).names.lookup x=some .free:=hx;have look:∀ k',(relabel scope X.env).names.lookup x=some k'->(k'=.cell\/k'=.free)->scope.names.lookup x=some .free:=λk' e hk=>by
   obtain ⟨k,e1,z⟩:=dA e;rcases z with z | ⟨z,_⟩
   ·subst z;rcases hk with z | z
    ·subst z;have hm:(x,NameKind.cell)∈scope.names:=mem_of_lookup e1;exact absurd rfl (S.nocell _ hm)
    ·subst z;exact e1
   ·subst z;exact e1
  rcases hx' with e | e
  ·exact eT scope.names [] x (look _ e (.inl rfl))
  ·exact eT scope.names [] x (look _ e (.inr rfl))
 ·intro x c e;exact absurd e (by show ¬ (false=true);decide)
 ·intro b hb;obtain ⟨f0,f1,f2,f3,f4,f5⟩:=hf b hb;refine ⟨?_,λx c e=>f4 x c (sub x c e)⟩;obtain ⟨o,ho⟩:=hfo b hb;exact aAk (aAd (aAb ho) hC)
 ·exact aAw I.ok.bsz I.sz
 ·intro b o e hb;obtain ⟨f0,f1,f2,f3,f4,f5⟩:=hf b hb;rcases f3 with z | z
  ·exact I.ok.noex b o e z
  ·exact absurd (aAd (aAb e) (aAw I.ok.bsz z)) (aAx _)
 ·intro b hb z;obtain ⟨f0,f1,f2,f3,f4,f5⟩:=hf b hb;rcases aAm.mp (I.stkSub b z) with e | e
  ·exact f1 e
  ·exact f2 e
end
section
variable {X:Cx}
theorem Inv.comp {scope:Scope} {NL N':List Str} {ρ:List Nat} (S:CScope X scope NL ρ N') {pins:List (Addr×Obj)} {σ:St} {H:Hp} {s:Shared} {fp:List Addr} {C D:Addr} {h':Heap} {t':Nat} (I:Inv X pins σ H s) (hf:∀ b∈fp,dj X pins H b)
  (hfo:∀ b∈fp,∃ o,s.heap.get? b=some o) (hC:s.heap.objs.size<=C) (hD:s.heap.objs.size<=D) (hDC:D≠C) (k:∀ b u,s.heap.get? b=some u->h'.get? b=some u)
  (hd:h'.get? D=some { cls:=.type "list",data:=.seq #[] 0 }) (hn:h'.Ns C λ_=>none) :
  Inv (ccx X scope C N' s H fp) (X.pn++pins) (cst NL.length ρ σ) (upd H D (.lst [])) { s with heap:=h',toks:=t' }:=by
 have ok:=vG S I hf hfo hC;have free_in:∀ x∈scope.names,x.2=.free->∃ c,X.env.cells.lookup x.1=some c:=λx hx hk=>I.ok.has x.1 (S.frees x hx hk);have sub:=gJ (env:=X.env) scope.names [] free_in (λx c e=>by simp at e);have fresh:∀ b,s.heap.objs.size<=b->H b=none:=λb hb=>I.hok.fresh hb;have neD:∀ b o,s.heap.get? b=some o->b≠D:=λb o e=>aAk (aAd (aAb e) hD);have neH:∀ b u,H b=some u->b≠D:=λb u e=>ah e (fresh D hD);refine ⟨ok,rfl,I.bare,⟨λb o e _ _ _=>k b o e,λb o e _ _ _=>⟨o.slots,k b o e⟩,λb o e n _=>?_,λb o e _=>⟨o,k b o e⟩,λb xs e=>?_,λb o u e=>?_,λb ps e=>⟨#[],?_⟩⟩,⟨_,hn,?_⟩,?_,?_,?_,?_,?_,?_⟩
 ·show upd H D _ b=none;rw [ag (neD b o e)];exact n
 ·show upd H D _ b=_;rw [ag (neH b _ e)];exact e
 ·show upd H D _ b=_;rw [ag (neH b _ e)];exact e
 ·show upd H D _ b=_;rw [ag (neH b _ e)];have e':H b=some (.tbl ps):=e;rw [e'];simp
 ·-- the names around
  intro i x v e1 e2 hv;obtain ⟨m,hm,hl⟩:=I.loc;have eN:(NL++ρ.map λj=>X.N.getD j "")[i]?=some x:=by
   have e1':N'[i]?=some x:=e1;rw [S.names] at e1';exact e1'
  have eσ:(List.replicate NL.length (none:Option V)++ρ.map λj=>(σ[j]?).join)[i]?=some (some v):=e2
  by_cases hi:i < NL.length
  ·rw [aBF (by simpa using hi)] at eσ;rw [aBI] at eσ
   split at eσ <;> cases eσ
  ·have hi':NL.length<=i:=aBG hi;rw [aBh (by simpa using hi'),aA3,aAC] at eσ;rw [aBh hi',aAC] at eN
   cases q:ρ[i - NL.length]? with
   | none=>rw [q] at eN;cases eN
   | some j =>
    rw [q] at eN eσ;obtain ⟨y,ey,f1,f2⟩:=S.outs j (aAs q);have exy:X.N.getD j "" = y:=by rw [aAy,ey];rfl
    have exx:X.N.getD j "" = x:=Option.some.inj eN;have xy:x=y:=exx.symm.trans exy;subst xy;have eσ':(σ[j]?).join=some v:=Option.some.inj eσ;have eσ2:σ[j]?=some (some v):=by
     cases z:σ[j]? with
     | none=>rw [z] at eσ';cases eσ'
     | some w=>rw [z] at eσ';exact congrArg some eσ'
    have vis:Vis X.env.scope x:=by
     rcases f2 with z | z
     ·exact .inr (.inl z)
     ·exact .inr (.inr z)
    obtain ⟨u,r,l⟩:=hl j x v ey eσ2 vis;refine ⟨u,r,?_⟩;obtain ⟨c,hc⟩:=eT (env:=X.env) scope.names [] x f1;rcases l with ⟨kl,_⟩ | ⟨_,c',hc',z⟩
    ·have kl':X.env.scope.names.lookup x=some .local:=kl;rcases f2 with z | z
     ·rw [z] at kl';cases kl'
     ·rw [z] at kl';cases kl'
    ·have e3:=sub x c hc;rw [hc'] at e3;obtain rfl:=Option.some.inj e3;obtain ⟨oc,hoc,hcd⟩:=z;have hv':(relabel scope X.env).names.lookup x=some .local\/(relabel scope X.env).names.lookup x=some .cell\/(relabel scope X.env).names.lookup x=some .free:=hv;refine .inr ⟨?_,c',hc,oc,k _ _ hoc,hcd⟩;rcases hv' with z | z | z
     ·obtain ⟨k0,e4,z2⟩:=dA z;rw [f1] at e4
      cases e4
      rcases z2 with z2 | ⟨_,z2⟩ <;> cases z2
     ·exact .inl z
     ·exact .inr z
 ·intro x c e;obtain ⟨v,oc,hoc,hcd⟩:=I.cell x c (sub x c e);exact ⟨v,oc,k _ _ hoc,hcd⟩
 ·show upd H D _ C=none;rw [ag (Ne.symm hDC)];exact fresh C hC
 ·intro x c e;obtain ⟨v,oc,hoc,hcd⟩:=I.cell x c (sub x c e);rw [ag (neD c oc hoc)];exact I.freeC x c (sub x c e)
 ·intro p hp;have hp':p∈X.pn++pins:=hp;obtain ⟨e,n,ne,nf,d⟩:=I.pin p hp';refine ⟨k _ _ e,?_,?_,?_,d⟩
  ·rw [ag (neD p.1 p.2 e)];exact n
  ·exact aAk (aAd (aAb e) hC)
  ·intro z;rcases aAm.mp (I.stkSub p.1 z) with q | q
   ·exact ne q
   ·exact nf q
 ·exact I.hok.laid k hD ⟨aAI _,[],0,.nil,hd⟩
 ·show (List.replicate NL.length (none:Option V)++ρ.map λj=>(σ[j]?).join).length=N'.length;rw [S.names];simp
theorem Inv.compEnd {scope:Scope} {N':List Str} {pins:List (Addr×Obj)} {σ σ':St} {H H':Hp} {s s':Shared} {fp:List Addr} {C:Addr} {h':Heap} {pins':List (Addr×Obj)} (I:Inv X pins σ H s) (hf:∀ b∈fp,dj X pins H b) (hC:s.heap.objs.size<=C)
  (J:Inv (ccx X scope C N' s H fp) pins' σ' H' s') (hs:Heap.SameBut C s'.heap h'):Inv X pins σ H' { s' with heap:=h' }:=by
 have hn:H' C=none:=J.free;have nC:∀ b o,s.heap.get? b=some o->b≠C:=λb o e=>aAk (aAd (aAb e) hC);have B:Un (frs X.stack) fp H H' s.heap s'.heap:=J.base;have U:Un (frs X.stack) fp H H' s.heap h':=⟨λb o e n hb hx=>(hs.2 b (nC b o e)).trans (B.keep b o e n hb hx),λb o e n hb hx=>by
   obtain ⟨sl,q⟩:=B.slot b o e n hb hx;exact ⟨sl,(hs.2 b (nC b o e)).trans q⟩,B.free,λb o e hx=>by
   obtain ⟨o',q⟩:=B.there b o e hx;exact ⟨o',(hs.2 b (nC b o e)).trans q⟩,B.tups,B.frzs,B.tbls⟩
 have hok:HOk X.prog X.w H' h':=λb u e=>by
  refine (J.hok b u e).stay (λc v hc q=>(hs.2 c ?_).trans q) (λ_ q=>q) λ_ _ q=>q;rintro rfl;rcases hc with rfl | hc
  ·rw [hn] at e;cases e
  ·rw [hn] at hc;cases hc
 refine Inv.call' (s':={ s' with heap:=h' }) I J.os U hok J.bare λb hb=>?_;obtain ⟨f0,f1,f2,f3,f4,f5⟩:=hf b hb;exact ⟨f3,f1,f4,f5⟩
def kz (k:Nat) (ρ:List Nat) (wi:TI) (g:TG) (tb:List V->Addr->St->Hp->(List V->St->Hp->Prop)->Prop):TE:=λσ H Q =>
 wi σ H λJ H1=>∀ l,H1 l=none->∃ W:Nat->Nat->List V->St->Hp->Prop,(∃ m,W 0 m [] (cst k ρ σ) (upd H1 l (.lst []))) /\
  ∀ i m ys σ' H',W i m ys σ' H'->(J.stop i H'/\Q (.ref l) H')\/(J.go i H'/\∀ x H'',J.yld i H' x H''->g x σ' H'' λσ2 H2=>tb ys l σ2 H2 λys' σ3 H3=>∃ m',m' < m/\W (i+1) m' ys' σ3 H3)
def cEl (te:TE):List V->Addr->St->Hp->(List V->St->Hp->Prop)->Prop:=λys l σ H N=>te σ H λy H1=>H1 l=some (.lst ys)/\ys.length < sizeLine/\N (ys++[y]) σ (upd H1 l (.lst (ys++[y])))
def cIf (tc:TT) (te:TE):List V->Addr->St->Hp->(List V->St->Hp->Prop)->Prop:=λys l σ H N=>tc σ H λb H1=>if b=true then cEl te ys l σ H1 N else N ys σ H1
def PB (X:Cx) (body:Value->Sem Unit) (tb:List V->Addr->St->Hp->(List V->St->Hp->Prop)->Prop):Prop :=
 ∀ (pins:List (Addr×Obj)) (s:Shared) (σ:St) (H:Hp) (l:Addr) (ys:List V) (N:List V->St->Hp->Prop),Inv X pins σ H s->tb ys l σ H N ->
  wpAny (model X.prog X.w) X.A (body (.ref l)) (λ_ s'=>∃ ys' σ' H',Inv X pins σ' H' s'/\N ys' σ' H') X.xe s
theorem tF {elt:Expr} {te:TE} (he:PE X elt te):PB X (λacc=>do let x <- eval elt X.env;let _ <- call (.builtin "list.append") [acc,x];pure ()) (cEl te):=by
 intro pins s σ H l ys N I h;refine wpAny_bind (thn (he pins s σ H _ I h) λu s1 ⟨y,H1,I1,r1,q0,q1,q2⟩=>wpAny_bind ?_);refine thn (rp pins s1 σ H1 (.ref l) [y] (.ref l) [u] (λv H'=>v=.non/\N (ys++[y]) σ H') I1 rfl (.cons r1 .nil) ⟨l,ys,y,rfl,rfl,q0,q1,rfl,q2⟩) λ_ s2 ⟨v,H2,I2,_,_,n2⟩=>wpAny_pure ⟨_,σ,H2,I2,n2⟩
theorem IK {c elt:Expr} {tc:TT} {te:TE} (hc:PT X c tc) (he:PE X elt te):PB X (λacc=>do
  let b <- isTrue c X.env (eval c X.env)
  if b then (do let x <- eval elt X.env;let _ <- call (.builtin "list.append") [acc,x];pure ()) else pure ()) (cIf tc te):=by
 intro pins s σ H l ys N I h;refine wpAny_bind (thn (hc pins s σ H _ I h) λb s1 ⟨H1,I1,q1⟩=>?_)
 cases b with
 | true=>exact tF he pins s1 σ H1 l ys N I1 q1
 | false=>exact wpAny_pure ⟨ys,σ,H1,I1,q1⟩
theorem mK (elt target iter:Expr) (scope:Scope) (pos:Pos) (it acc:Value) (env:Env) :
  compTurn (.ListComp elt [⟨target,iter,[],0⟩] scope pos) 0 it acc env=(standAt iter.pos >>= λ_=>pyNext it >>= λr=>match r with
   | none=>pure (.done .next)
   | some v=>letOwnedTupleGo target it v >>= λ_=>assign target env v >>= λ_ =>
    (do let x <- eval elt env;let _ <- call (.builtin "list.append") [acc,x];pure ():Sem Unit) >>= λ_=>again (.compLoop (.ListComp elt [⟨target,iter,[],0⟩] scope pos) 0 it acc env)):=(0)
theorem tG (elt target iter c:Expr) (scope:Scope) (pos:Pos) (it acc:Value) (env:Env) :
  compTurn (.ListComp elt [⟨target,iter,[c],0⟩] scope pos) 0 it acc env=(standAt iter.pos >>= λ_=>pyNext it >>= λr=>match r with
   | none=>pure (.done .next)
   | some v=>letOwnedTupleGo target it v >>= λ_=>assign target env v >>= λ_ =>
    (do
     let b <- isTrue c env (eval c env)
     if b then (do let x <- eval elt env;let _ <- call (.builtin "list.append") [acc,x];pure ()) else pure ():Sem Unit) >>= λ_=>again (.compLoop (.ListComp elt [⟨target,iter,[c],0⟩] scope pos) 0 it acc env)):=by
 rw [compTurn_list]
 congr 1
 funext _
 congr 1
 funext r
 cases r with
 | none=>rfl
 | some v =>
  refine congrArg (letOwnedTupleGo target it v >>= ·) (funext λ_=>?_);refine congrArg (assign target env v >>= ·) (funext λ_=>?_);dsimp only;rw [aAz];simp only [if_true,bind_assoc,pure_bind,aAU];refine congrArg (PySem.isTrue c env (eval c env) >>= ·) (funext λb=>?_)
  cases b
  ·simp
  ·simp
end
section
variable {X:Cx}
theorem tH {elt tgt iter:Expr} {ifs:List Expr} {scope:Scope} {pos:Pos} {NL N':List Str} {ρ:List Nat} {wi:TI} {g:TG} {tb:List V->Addr->St->Hp->(List V->St->Hp->Prop)->Prop} {body:Value->Env->Sem Unit}
  (hc:X.calm=true) (S:CScope X scope NL ρ N') (hi:PI X tgt iter wi)
  (hg:∀ C s₀ H₀ fp,PG (ccx X scope C N' s₀ H₀ fp) tgt g) (hb:∀ C s₀ H₀ fp,PB (ccx X scope C N' s₀ H₀ fp) (λacc=>body acc (ccx X scope C N' s₀ H₀ fp).env) tb)
  (he:∀ (it acc:Value) (env:Env),compTurn (.ListComp elt [⟨tgt,iter,ifs,0⟩] scope pos) 0 it acc env=(standAt iter.pos >>= λ_=>pyNext it >>= λr=>match r with
   | none=>pure (.done .next)
   | some v=>letOwnedTupleGo tgt it v >>= λ_=>assign tgt env v >>= λ_=>body acc env >>= λ_=>again (.compLoop (.ListComp elt [⟨tgt,iter,ifs,0⟩] scope pos) 0 it acc env)))
  (hs:∀ x,foldedSetIterable iter X.env x=pure x:=by intro _;rfl):PE X (.ListComp elt [⟨tgt,iter,ifs,0⟩] scope pos) (kz NL.length ρ wi g tb):=by
 intro pins s σ H Q I h;have free_in:∀ x∈scope.names,x.2=.free->∃ c,X.env.cells.lookup x.1=some c:=λx hx hk=>I.ok.has x.1 (S.frees x hx hk);rw [eval_ListComp];refine wpAny_comprehension_free (use:=none) rfl hs (fC free_in) S.kind S.locs ?_;refine thn (hi pins s σ H _ I h) λv s1 h1=>thn h1 λitv s2 h2=>?_;obtain ⟨it,fp,tn,J,H2,e,I2,T,st2,f2,w⟩:=h2;subst e;refine wpAny_newObj_type (wpAny_newFunctionEnv S.nocell (by intro y hy;simp at hy) (λh₁ hns₁ hsb₁=>?_) S.kind);dsimp only at hns₁ hsb₁ ⊢
 generalize hH2:s2.heap.push { cls:=.type "list",dict:=none,data:=.seq ([]:List Value).toArray }=h2' at hns₁ hsb₁ ⊢
 have hCs:h2'.objs.size=s2.heap.objs.size+1:=by rw [<- hH2,aAL]
 have hDC:s2.heap.objs.size≠h2'.objs.size:=by rw [hCs];exact aAk (aA2 _)
 have hC:s2.heap.objs.size<=h2'.objs.size:=by rw [hCs];exact aBo _
 have old:∀ b o,s2.heap.get? b=some o->h₁.get? b=some o:=λb o e=>hsb₁.extBut b o (aAk (aAd (aAb e) hC)) (aAa _ (hH2 ▸ aAa _ e));have hd:h₁.get? s2.heap.objs.size=some { cls:=.type "list",data:=.seq #[] 0 }:=hsb₁.extBut _ _ hDC (aAa _ (hH2 ▸ aAg _ rfl));have hfo:∀ b∈fp,∃ o,s2.heap.get? b=some o:=λb hb=>let ⟨o,e,_⟩:=T.obj _ _ st2 b hb;⟨o,e⟩;have I4:Inv (ccx X scope h2'.objs.size N' s2 H2 fp) (X.pn++pins) (cst NL.length ρ σ) (upd H2 s2.heap.objs.size (.lst [])) { s2 with heap:=h₁,toks:=s2.toks+([]:List (Str×Value)).length } :=
  Inv.comp S I2 f2 hfo hC (aAf _) hDC old hd (by simpa using hns₁)
 have hD0:H2 s2.heap.objs.size=none:=I2.hok.fresh (aAf _);have nfp:s2.heap.objs.size∉fp:=λz=>by
  obtain ⟨o,e⟩:=hfo _ z;exact absurd (aAb e) (aAx _)
 obtain ⟨W,⟨m0,w0⟩,turn⟩:=w s2.heap.objs.size hD0;have stat:∀ {H':Hp},(∀ b∈fp,H' b=none)->∀ b∈fp,dj (ccx X scope h2'.objs.size N' s2 H2 fp) (X.pn++pins) H' b:=λ{H'} hn b hb=>by
  obtain ⟨f0,f1,f2',f3,f4,f5⟩:=f2 b hb;have ok:=I4.ok;refine ⟨hn b hb,(ok.exf b hb).1,ok.exfs b hb,.inl hb,(ok.exf b hb).2,λp hp=>f5 p hp⟩
 have loop:∀ s₃:Shared,s₃={ s2 with heap:=h₁,toks:=s2.toks+([]:List (Str×Value)).length } ->
   codeAny (model X.prog X.w) X.A (.compLoop (.ListComp elt [⟨tgt,iter,ifs,0⟩] scope pos) 0 (.ref it) (.ref s2.heap.objs.size) (compEnvC scope (bV X.env scope.names []) h2'.objs.size X.env))
    (compPost (model X.prog X.w) X.A X.xe none (EP X pins σ Q) (.ref s2.heap.objs.size) h2'.objs.size) s₃:=by
  rintro s₃ rfl;refine codeAny_loop rfl (λn s'=>∃ i ys σ' H',Inv (ccx X scope h2'.objs.size N' s2 H2 fp) (X.pn++pins) σ' H' s'/\tn i s'.heap/\(∀ b∈fp,H' b=none)/\W i n ys σ' H') (λn s3 hI=>?_) m0
   ⟨0,[],_,_,I4,T.keep _ _ _ st2 (λb _ o e=>old b o e),λb hb=>?_,w0⟩
  ·obtain ⟨i,ys,σ3,H3,I3,st3,fr3,w3⟩:=hI;show wpAny _ _ ((compTurn (.ListComp elt [⟨tgt,iter,ifs,0⟩] scope pos) 0 (.ref it) (.ref s2.heap.objs.size) (compEnvC scope (bV X.env scope.names []) h2'.objs.size X.env)).onRaise (λx=>do noteFrame x _;theTreesLotGoes x)) _ _ s3;refine wpAny_noted ?_;rw [he];refine wpAny_bind (wpAny_standAt (wpAny_bind ?_));rcases turn i n ys σ3 H3 w3 with ⟨stop,qn⟩ | ⟨go,step⟩
   ·refine thn (T.done (ccx X scope h2'.objs.size N' s2 H2 fp) rfl rfl rfl hc i _ s3 σ3 H3 _ I3 (stat fr3) st3 stop) λr s4 ⟨hr,I5⟩=>?_;subst hr;refine wpAny_pure ?_;obtain ⟨m,hm,_⟩:=id I5.loc;exact ⟨m,hm,λh' hs'=>⟨.ref s2.heap.objs.size,H3,Inv.compEnd I2 f2 hC I5 hs',rfl,qn⟩⟩
   ·refine thn (T.item (ccx X scope h2'.objs.size N' s2 H2 fp) rfl rfl rfl hc i _ s3 σ3 H3 _ I3 (stat fr3) st3 go) λr s4 ⟨u,hr,h4⟩=>?_;subst hr;refine wpAny_bind (thn h4 λ_ s5 ⟨x,H5,I5,r5,y5,st5,fr5⟩=>?_);have I5':=I5.pinned (stat fr5) (T.obj _ _ st5);refine wpAny_bind (wpAny_mono (hg h2'.objs.size s2 H2 fp _ s5 σ3 H5 x u _ I5' r5 (step x H5 y5)) (λ_ s6 ⟨σ6,H6,I6,q6⟩=>?_) λ_ _ z=>z.elim);refine wpAny_bind (wpAny_mono (hb h2'.objs.size s2 H2 fp _ s6 σ6 H6 s2.heap.objs.size ys _ I6 q6) (λ_ s7 ⟨ys7,σ7,H7,I7,m',hm,w7⟩=>?_) λ_ _ z=>z.elim);refine wpAny_pure ⟨rfl,m',hm,i+1,ys7,σ7,H7,I7.unpinned,T.keep _ _ _ st5 λb hb o e=>(I7.pin (b,o) (aAn _ (aAn _ (be hb e)))).1,λb hb=>?_,w7⟩;obtain ⟨o,e,d⟩:=T.obj _ _ st5 b hb;exact (I7.pin (b,o) (aAn _ (aAn _ (be hb e)))).2.1
  ·rw [ag (show b≠s2.heap.objs.size from λz=>nfp (by rw [<- z];exact hb))];exact (f2 b hb).1
 refine codeAny_compStart_list (loop _ rfl) (T.self _ 0 _ _ _ ?_ (loop _ rfl));exact T.keep _ _ _ st2 λb _ o e=>old b o e
theorem aG {elt tgt iter:Expr} {scope:Scope} {pos:Pos} {NL N':List Str} {ρ:List Nat} {wi:TI} {g:TG} {te:TE} (hc:X.calm=true) (S:CScope X scope NL ρ N') (hi:PI X tgt iter wi)
  (hg:∀ C s₀ H₀ fp,PG (ccx X scope C N' s₀ H₀ fp) tgt g) (he:∀ C s₀ H₀ fp,PE (ccx X scope C N' s₀ H₀ fp) elt te)
  (hs:∀ x,foldedSetIterable iter X.env x=pure x:=by intro _;rfl):PE X (.ListComp elt [⟨tgt,iter,[],0⟩] scope pos) (kz NL.length ρ wi g (cEl te)) :=
 tH (body:=λacc env=>do let x <- eval elt env;let _ <- call (.builtin "list.append") [acc,x];pure ()) hc S hi hg (λC s₀ H₀ fp=>tF (he C s₀ H₀ fp)) (λit acc env=>mK elt tgt iter scope pos it acc env) hs
end
section
variable {X:Cx}
inductive IsiB (K:W.Frag) (H:Hp):V->String->Bool->Prop
 | int_int {i}:IsiB K H (.int i) "int" true
 | int_str {i}:IsiB K H (.int i) "str" false
 | int_bool {i}:IsiB K H (.int i) "bool" false
 | int_tuple {i}:IsiB K H (.int i) "tuple" false
 | int_list {i}:IsiB K H (.int i) "list" false
 | str_int {x}:IsiB K H (.str x) "int" false
 | str_str {x}:IsiB K H (.str x) "str" true
 | str_bool {x}:IsiB K H (.str x) "bool" false
 | str_tuple {x}:IsiB K H (.str x) "tuple" false
 | str_list {x}:IsiB K H (.str x) "list" false
 | bl_int {b}:IsiB K H (.bl b) "int" true
 | bl_bool {b}:IsiB K H (.bl b) "bool" true
 | bl_str {b}:IsiB K H (.bl b) "str" false
 | bl_tuple {b}:IsiB K H (.bl b) "tuple" false
 | tup_int {a xs}:SqT K H a xs->IsiB K H (.ref a) "int" false
 | tup_str {a xs}:SqT K H a xs->IsiB K H (.ref a) "str" false
 | tup_bool {a xs}:SqT K H a xs->IsiB K H (.ref a) "bool" false
 | tup_tuple {a xs}:SqT K H a xs->IsiB K H (.ref a) "tuple" true
 | tup_list {a xs}:SqT K H a xs->IsiB K H (.ref a) "list" false
 | lst_int {a xs}:SqL K H a xs->IsiB K H (.ref a) "int" false
 | lst_str {a xs}:SqL K H a xs->IsiB K H (.ref a) "str" false
 | lst_tuple {a xs}:SqL K H a xs->IsiB K H (.ref a) "tuple" false
 | lst_list {a xs}:SqL K H a xs->IsiB K H (.ref a) "list" true
theorem dB (a b:String) (h:isSubtype (.type a) (.type b)=pure false:=by rw [isSubtype_type];kernel_rfl):isSubtype (.type a) (.type b)=pure false:=h
theorem rA (a b:String) (h:isSubtype (.type a) (.type b)=pure true:=by rw [isSubtype_type];kernel_rfl):isSubtype (.type a) (.type b)=pure true:=h
theorem rB:isSubtype (.type "int") (.type "str")=pure false:=dB _ _
theorem oN:isSubtype (.type "int") (.type "bool")=pure false:=dB _ _
theorem mL:isSubtype (.type "int") (.type "tuple")=pure false:=dB _ _
theorem oO:isSubtype (.type "int") (.type "list")=pure false:=dB _ _
theorem rC:isSubtype (.type "str") (.type "int")=pure false:=dB _ _
theorem oP:isSubtype (.type "str") (.type "bool")=pure false:=dB _ _
theorem mM:isSubtype (.type "str") (.type "tuple")=pure false:=dB _ _
theorem oQ:isSubtype (.type "str") (.type "list")=pure false:=dB _ _
theorem oR:isSubtype (.type "bool") (.type "str")=pure false:=dB _ _
theorem lm:isSubtype (.type "bool") (.type "tuple")=pure false:=dB _ _
theorem mO:isSubtype (.type "tuple") (.type "int")=pure false:=dB _ _
theorem mP:isSubtype (.type "tuple") (.type "str")=pure false:=dB _ _
theorem lp:isSubtype (.type "tuple") (.type "bool")=pure false:=dB _ _
theorem lq:isSubtype (.type "tuple") (.type "list")=pure false:=dB _ _
theorem oS:isSubtype (.type "list") (.type "int")=pure false:=dB _ _
theorem oU:isSubtype (.type "list") (.type "str")=pure false:=dB _ _
theorem lr:isSubtype (.type "list") (.type "tuple")=pure false:=dB _ _
theorem IL:isSubtype (.type "int") (.type "int")=pure true:=rA _ _
theorem IM:isSubtype (.type "str") (.type "str")=pure true:=rA _ _
theorem A1:isSubtype (.type "bool") (.type "bool")=pure true:=rA _ _
theorem oV:isSubtype (.type "bool") (.type "int")=pure true:=rA _ _
theorem vH:isSubtype (.type "tuple") (.type "tuple")=pure true:=rA _ _
theorem A2:isSubtype (.type "list") (.type "list")=pure true:=rA _ _
theorem mQ:typeOf (.type "int")=pure (.type "type"):=by kernel_rfl
theorem mR:typeOf (.type "str")=pure (.type "type"):=by kernel_rfl
theorem ls:typeOf (.type "bool")=pure (.type "type"):=by kernel_rfl
theorem fS:typeOf (.type "tuple")=pure (.type "type"):=by kernel_rfl
theorem lA:typeOf (.type "list")=pure (.type "type"):=by kernel_rfl
theorem tI:aS X (.builtin "isinstance") (λxs H Q=>∃ x T b,xs=[x,.ty T]/\IsiB X.K H x T b/\Q (.bl b) H):=by
 intro pins s σ H xs us Q I r h;obtain ⟨x,T,b,rfl,hb,q⟩:=h;obtain ⟨u,w',rfl,rx,rT⟩:=mG r
 cases rT
 have fin:∀ t,EP X pins σ Q (.bool b) { s with toks:=t }:=λt=>⟨.bl b,H,I.tok t,rfl,q⟩;have fin0:EP X pins σ Q (.bool b) s:=⟨.bl b,H,I,rfl,q⟩;have tup:∀ {a xs},SqT X.K H a xs->∃ o,s.heap.get? a=some o/\o.cls=.type "tuple" :=λhq=>by
  obtain ⟨its,_,p,_⟩:=I.tuple hq;obtain ⟨o,e,c,_⟩:=p;exact ⟨o,e,c⟩
 have lst:∀ {a xs},SqL X.K H a xs->∃ o,s.heap.get? a=some o/\o.cls=.type "list" :=λhq=>by
  obtain ⟨its,_,p,_⟩:=I.list hq;obtain ⟨o,e,c,_⟩:=p.isList;exact ⟨o,e,c⟩
 cases hb with
 | int_int=>obtain ⟨t,rfl⟩:=rx;exact call_isinstance (isinstance_true (Tx:= "int") mQ IL) ⟨rfl,fin0⟩
 | int_str=>obtain ⟨t,rfl⟩:=rx;exact call_isinstance (isinstance_false_int (1) mR rB) (fin _)
 | int_bool=>obtain ⟨t,rfl⟩:=rx;exact call_isinstance (isinstance_false_int (1) ls oN) (fin _)
 | int_tuple=>obtain ⟨t,rfl⟩:=rx;exact call_isinstance (isinstance_false_int (1) fS mL) (fin _)
 | int_list=>obtain ⟨t,rfl⟩:=rx;exact call_isinstance (isinstance_false_int (1) lA oO) (fin _)
 | str_int=>obtain ⟨t,rfl⟩:=rx;exact call_isinstance (isinstance_false_str (1) mQ rC) (fin _)
 | str_str=>obtain ⟨t,rfl⟩:=rx;exact call_isinstance (isinstance_true (Tx:= "str") mR IM) ⟨rfl,fin0⟩
 | str_bool=>obtain ⟨t,rfl⟩:=rx;exact call_isinstance (isinstance_false_str (1) ls oP) (fin _)
 | str_tuple=>obtain ⟨t,rfl⟩:=rx;exact call_isinstance (isinstance_false_str (1) fS mM) (fin _)
 | str_list=>obtain ⟨t,rfl⟩:=rx;exact call_isinstance (isinstance_false_str (1) lA oQ) (fin _)
 | bl_int=>cases rx;exact call_isinstance (isinstance_true (Tx:= "bool") mQ oV) ⟨rfl,fin0⟩
 | bl_bool=>cases rx;exact call_isinstance (isinstance_true (Tx:= "bool") ls A1) ⟨rfl,fin0⟩
 | bl_str=>cases rx;exact call_isinstance (isinstance_false_bool (1) mR oR) (fin _)
 | bl_tuple=>cases rx;exact call_isinstance (isinstance_false_bool (1) fS lm) (fin _)
 | tup_int hq=>cases rx;exact call_isinstance (isinstance_false_tuple (1) mQ mO) ⟨tup hq,fin _⟩
 | tup_str hq=>cases rx;exact call_isinstance (isinstance_false_tuple (1) mR mP) ⟨tup hq,fin _⟩
 | tup_bool hq=>cases rx;exact call_isinstance (isinstance_false_tuple (1) ls lp) ⟨tup hq,fin _⟩
 | tup_tuple hq=>cases rx;exact call_isinstance (isinstance_true (Tx:= "tuple") fS vH) ⟨tup hq,fin0⟩
 | tup_list hq=>cases rx;exact call_isinstance (isinstance_false_tuple (1) lA lq) ⟨tup hq,fin _⟩
 | lst_int hq=>cases rx;exact call_isinstance (isinstance_false_list (1) mQ oS) ⟨lst hq,fin _⟩
 | lst_str hq=>cases rx;exact call_isinstance (isinstance_false_list (1) mR oU) ⟨lst hq,fin _⟩
 | lst_tuple hq=>cases rx;exact call_isinstance (isinstance_false_list (1) fS lr) ⟨lst hq,fin _⟩
 | lst_list hq=>cases rx;exact call_isinstance (isinstance_true (Tx:= "list") lA A2) ⟨lst hq,fin0⟩
def Its (z:Str):It:=⟨λi _=>i < z.cps.size,λi H x H'=>H'=H/\∃ c,z.cps[i]?=some c/\x=.str ⟨#[c]⟩,λi _=>i=z.cps.size⟩
def JW (te:TE):TI:=λσ H R=>te σ H λx H1=>∃ z,x=.str z/\R (Its z) H1
theorem mS {P:Program} {w:World} {K:W.Frag} {tg:Expr} (T:String) (it:Addr) (z:Str) (t:Tok)
  (W:∀ A:Around,A.handled=none->Walks P w A it [it] [it] z.cps.size (SignAt z) (λi h=>h.IsStrIter it T z t i))
  (hT:["enumerate","zip","dict_itemiterator","dict_reverseitemiterator","odict_iterator","itertools.zip_longest","itertools.pairwise"].contains T=false)
  (hs:∀ (A:Around) (i:Nat) (s:Shared) (Q:Value->Shared->Prop) (E:Value->Shared->Prop),s.heap.IsStrIter it T z t i->Q (.ref it) s->wpAny (model P w) A (pyIter (.ref it)) Q E s) :
  Turn P w K tg (Its z) [it] it (λi h=>h.IsStrIter it T z t i) where
 mem:=by simp
 obj:=λi h st b hb=>by
  have e:b=it:=by simpa using hb
  subst e;obtain ⟨o,e,c,d⟩:=st;exact ⟨o,e,λv z=>by rw [d] at z;cases z⟩
 keep:=λi h h' st k=>by
  obtain ⟨o,e,c,d⟩:=st;exact ⟨o,k it (by simp) o e,c,d⟩
 item:=by
  intro X hP hw hK hc i pins s σ H E I hf st hg;subst hP hw hK;obtain ⟨f0,f1,f2,f3,f4,f5⟩:=hf it (by simp);refine (W X.A (I.ok.hd hc)).item i s _ _ hg st λv h' tk hv st' kk=>?_;obtain ⟨c,u,hcz,rfl⟩:=hv;have I1:Inv X pins σ H { s with heap:=h',toks:=tk }:=I.turned (λb o hb e=>kk b o (by simpa using hb) e) f0 f1 f3 f4 f5;obtain ⟨o,e,cl,d⟩:=id st';exact ⟨_,rfl,ko (s:={ s with heap:=h',toks:=tk }) e cl d hT ⟨.str ⟨#[c]⟩,H,I1,⟨u,rfl⟩,⟨rfl,c,hcz,rfl⟩,st',λb hb=>(hf b hb).1⟩⟩
 done:=by
  intro X hP hw hK hc i pins s σ H E I hf st hg;subst hP hw hK;obtain ⟨f0,f1,f2,f3,f4,f5⟩:=hf it (by simp);have hi:i=z.cps.size:=hg;subst hi;exact (W X.A (I.ok.hd hc)).done s _ _ st λh' tk kk=>⟨rfl,I.turned (λb o hb e=>kk b o (by simpa using hb) e) f0 f1 f3 f4 f5⟩
 self:=hs
theorem tJ {tg l:Expr} {tl:TE} (hl:PE X l tl):PI X tg l (JW tl):=by
 intro pins s σ H R I h;refine thn (hl pins s σ H _ I h) λv s1 ⟨x,H1,I1,r1,q1⟩=>?_;obtain ⟨z,rfl,q⟩:=q1;obtain ⟨t,rfl⟩:=r1;have fp:∀ (o:Obj),∀ b∈[s1.heap.objs.size],dj X pins H1 b:=λo b hb=>by
  have e:b=s1.heap.objs.size:=by simpa using hb
  subst e;exact I1.fpOk (aAf _) (I1.hok.fresh (aAf _))
 cases ha:z.cps.all (· < 128)
 ·refine wpAny_pyIter_wide ha ?_;exact ⟨s1.heap.objs.size,[s1.heap.objs.size],_,_,H1,rfl,I1.kept (t':=s1.toks) λb o e=>aAa _ e,
   mS "str_iterator" _ z t (λA hA=>Walks.strWide hA _ z t) (1) (λ_ _ _ _ _ st h=>wpAny_pyIter_striter_wide st h),⟨_,aAg _ rfl,rfl,rfl⟩,fp default,q⟩
 ·refine wpAny_pyIter_ascii ha ?_;exact ⟨s1.heap.objs.size,[s1.heap.objs.size],_,_,H1,rfl,I1.kept (t':=s1.toks) λb o e=>aAa _ e,
   mS "str_ascii_iterator" _ z t (λA hA=>Walks.strAscii hA _ z t) (1) (λ_ _ _ _ _ st h=>wpAny_pyIter_striter_ascii st h),⟨_,aAg _ rfl,rfl,rfl⟩,fp default,q⟩
def bls:List Bool->List V:=List.map V.bl
theorem tK:aS X (.builtin "all") (λxs H Q=>∃ p ys,xs=[.ref p]/\X.calm=true/\SqL X.K H p (bls ys)/\Q (.bl (ys.all id)) H):=by
 intro pins s σ H xs us Q I r h;obtain ⟨p,ys,rfl,hcm,hq,q⟩:=h;obtain ⟨u,rfl,rx⟩:=cq r
 cases rx
 obtain ⟨its,r',pl,hz⟩:=I.list hq;have hh:X.A.in1.handled=none:=I.ok.hd hcm;have hne:p≠s.heap.objs.size:=by
  obtain ⟨o,e,_⟩:=pl.isList;exact aAk (aAb e)
 have hlen:its.length=ys.length:=by rw [<- r'.length];simp [bls]
 refine call_all_walk (wpAny_pyIter_list pl.isList ⟨s.heap.objs.size,_,_,_,_,_,λi=>ys.getD i true,rfl,Walks.list hh _ p hne its.toArray,⟨⟨_,aAg _ rfl,rfl,rfl⟩,pl.isList.at λo e=>aAa _ e⟩,?_,?_⟩)
 ·intro i v s' Q' E' hv hQ;have hv':its[i]?=some v:=by simpa using hv
  have hi:i < ys.length:=by
   rw [<- hlen];exact (aAc.mp hv').1
  have e1:(bls ys)[i]?=some (V.bl ys[i]):=by simp [bls,hi]
  obtain ⟨u,hu,ru⟩:=r'.get e1;rw [hv'] at hu;obtain rfl:=Option.some.inj hu
  cases ru
  refine wpAny_truthy_bool ?_;have e2:ys.getD i true=ys[i]:=by simp [aAy,hi]
  have hQ':Q' (ys.getD i true) s':=hQ;rw [e2] at hQ';exact hQ'
 ·intro h' tk kk;have e3:(List.range its.toArray.size).all (λi=>ys.getD i true)=ys.all id:=by
   rw [aAh,hlen];rw [aAV,aAG,aAG]
   constructor
   ·intro g x hx;obtain ⟨i,hi,rfl⟩:=List.mem_iff_getElem.mp hx;have:=g i (aBL.mpr hi)
    simpa [aAy,hi] using this
   ·intro g i hi;have hi':=aBL.mp hi;have:=g ys[i] (aBg hi')
    simpa [aAy,hi'] using this
  rw [e3];refine ⟨.bl _,H,?_,rfl,q⟩;have I1:Inv X pins σ H { s with heap:=s.heap.push { cls:=.type "list_iterator",data:=.fields #[.ref p,.int 0 0] } }:=I.kept (t':=s.toks) λb o e=>aAa _ e;exact I.kept (t':=tk) λb o e=>kk b o (by
   intro z;have z':b=s.heap.objs.size:=by simpa using z
   exact absurd (aAb e) (by rw [z'];exact aAx _)) (aAa _ e)
end
section
variable {X:Cx}
theorem ic (ns:List Int):∀ n,n<=ns.length->preSum (λi=>ns.getD i 0) n=(ns.take n).sum
 | 0,_=>by simp [preSum]
 | n+1,h=>by
  have hn:n < ns.length:=h;rw [preSum,ic ns n (aAM hn),aBm,List.sum_append];simp [aAy,hn]
theorem tL:aS X (.builtin "sum") (λxs H Q=>∃ (p:Addr) (ns:List Int),xs=[.ref p]/\X.calm=true/\SqL X.K H p (ns.map V.int)/\Q (.int ns.sum) H):=by
 intro pins s σ H xs us Q I r h;obtain ⟨p,ns,rfl,hcm,hq,q⟩:=h;obtain ⟨u,rfl,rx⟩:=cq r
 cases rx
 obtain ⟨its,r',pl,hz⟩:=I.list hq;have hh:X.A.in1.handled=none:=I.ok.hd hcm;have hlt:p < s.heap.objs.size:=by
  obtain ⟨o,e,_⟩:=pl.isList;exact aAb e
 have hne:p≠s.heap.objs.size:=aAk hlt;have hlen:its.length=ns.length:=by rw [<- r'.length];simp
 refine call_sum_walkG (wpAny_pyIter_list pl.isList ⟨s.heap.objs.size,_,_,_,_,_,λi=>ns.getD i 0,rfl,Walks.list hh _ p hne its.toArray,⟨⟨_,aAg _ rfl,rfl,rfl⟩,pl.isList.at λo e=>aAa _ e⟩,?_,?_,?_⟩)
 ·intro b hb;have hb':b=s.heap.objs.size\/b=p:=by simpa using hb
  show b < (s.heap.push _).objs.size;rw [aAL];rcases hb' with e | e
  ·exact e ▸ aA2 _
  ·exact aBE (e ▸ hlt)
 ·intro i v hv;have hv':its[i]?=some v:=by simpa using hv
  have hi:i < ns.length:=by
   rw [<- hlen];exact (aAc.mp hv').1
  have e1:(ns.map V.int)[i]?=some (V.int ns[i]):=by simp [hi]
  obtain ⟨u,hu,ru⟩:=r'.get e1;rw [hv'] at hu;obtain rfl:=Option.some.inj hu;obtain ⟨t,rfl⟩:=ru;exact ⟨t,by simp [aAy,hi]⟩
 ·intro h' tk t' kk;have e3:preSum (λi=>ns.getD i 0) its.toArray.size=ns.sum:=by
   rw [aAh,hlen,ic ns _ (aAf _),aAR]
  rw [e3];refine ⟨.int _,H,?_,⟨_,rfl⟩,q⟩;exact I.kept (t':=tk) λb o e=>kk b o (by
   intro z;have z':b=s.heap.objs.size:=by simpa using z
   exact absurd (aAb e) (by rw [z'];exact aAx _)) (aAa _ e)
def JX:V->Option Int->Option Int->Hp->VK->Prop:=λx lo hi H Q=>∃ z,x=.str z/\z.length<=sizeLine/\Q (.str (Txt.slice z lo hi)) H
theorem oW:SlR X JX:=by
 intro pins s σ H x v vl vu lo hi sl Q I rx hs pl pu h;obtain ⟨z,rfl,hz,q⟩:=h;obtain ⟨t,rfl⟩:=rx;refine ⟨"str",_,F.slot_str_getitem.lookup,typeIs_str _ _ _,?_⟩;have fin:∀ t' k,EP X pins σ Q (.str (Txt.slice z lo hi) t') { s with toks:=k }:=λt' k=>⟨.str _,H,I.tok k,⟨t',rfl⟩,q⟩
 cases pl with
 | none =>
  cases pu with
  | none=>exact wpAny_getItem_str_slice (l:=none) (u:=none) (st:=none) hs rfl (post_val_or_str ⟨aAw (Txt.slice_le z _ _) hz,λt' k=>fin t' k⟩)
  | int j uj=>exact wpAny_getItem_str_slice (l:=none) (u:=some (j,uj)) (st:=none) hs rfl (post_val_or_str ⟨aAw (Txt.slice_le z _ _) hz,λt' k=>fin t' k⟩)
 | int i ui =>
  cases pu with
  | none=>exact wpAny_getItem_str_slice (l:=some (i,ui)) (u:=none) (st:=none) hs rfl (post_val_or_str ⟨aAw (Txt.slice_le z _ _) hz,λt' k=>fin t' k⟩)
  | int j uj=>exact wpAny_getItem_str_slice (l:=some (i,ui)) (u:=some (j,uj)) (st:=none) hs rfl (post_val_or_str ⟨aAw (Txt.slice_le z _ _) hz,λt' k=>fin t' k⟩)
end
theorem af {H:Hp} {p:Addr} (h:H p=none) (o:HO):Same H (upd H p o):=λb u q=>by rw [ag (ah q h)];exact q
def But (r:Addr) (H H':Hp):Prop:=∀ b o,b≠r->H b=some o->H' b=some o
theorem But.refl (r:Addr) (H:Hp):But r H H:=λ_ _ _ h=>h
theorem But.trans {r:Addr} {H H1 H2:Hp} (a:But r H H1) (b:But r H1 H2):But r H H2:=λc o n h=>b c o n (a c o n h)
theorem But.same {r:Addr} {H H1:Hp} (a:Same H H1):But r H H1:=λc o _ h=>a c o h
theorem But.put {r:Addr} {H:Hp} {o:HO}:But r H (upd H r o):=λc u n h=>by rw [ag n];exact h
theorem But.seq {K:W.Frag} {r:Addr} {H H':Hp} {a:Addr} {xs:List V} (e:But r H H') (n:a≠r) (h:SqL K H a xs):SqL K H' a xs:=by
 rcases h with (h | ⟨o,h⟩) | h
 ·exact .inl (.inl (e _ _ n h))
 ·exact .inl (.inr ⟨o,e _ _ n h⟩)
 ·exact .inr h
theorem But.tup {K:W.Frag} {r:Addr} {H H':Hp} {a:Addr} {xs:List V} (e:But r H H') (n:a≠r) (h:SqT K H a xs):SqT K H' a xs:=by
 rcases h with (h | ⟨o,h⟩) | h
 ·exact .inl (.inl (e _ _ n h))
 ·exact .inl (.inr ⟨o,e _ _ n h⟩)
 ·exact .inr h
theorem Same.tup {K:W.Frag} {H H':Hp} {a:Addr} {xs:List V} (e:Same H H') (h:SqT K H a xs):SqT K H' a xs:=by
 rcases h with (h | ⟨o,h⟩) | h
 ·exact .inl (.inl (e _ _ h))
 ·exact .inl (.inr ⟨o,e _ _ h⟩)
 ·exact .inr h
theorem cs0 {X:Cx} {scope:Scope} {NL:List Str} (h1:scope.kind=.function) (h2:(scope.names.all λx=>x.2 != .cell && x.2 != .free)=true)
  (h3:∀ x∈scope.names,x.2=.local->scope.names.lookup x.1=some .local):CScope X scope NL [] NL:=by
 rw [aAG] at h2;refine ⟨h1,λx hx e=>?_,h3,λx hx e=>?_,by simp,λj hj=>by simp at hj⟩
 ·have:=h2 x hx;rw [e] at this;exact absurd this (1)
 ·have:=h2 x hx;rw [e] at this;exact absurd this (1)
theorem mU {z:Str} {l:Addr} {g:TG} {tb:List V->Addr->St->Hp->(List V->St->Hp->Prop)->Prop} {Q:VK} {σ0:St} {H0:Hp} (Pv:Nat->List V->St->Hp->Prop) (h0:Pv 0 [] σ0 H0)
  (hs:∀ i c ys σ H (N:List V->St->Hp->Prop),z.cps[i]?=some c->Pv i ys σ H->(∀ ys' σ' H',Pv (i+1) ys' σ' H'->N ys' σ' H')->g (.str ⟨#[c]⟩) σ H λσ2 H2=>tb ys l σ2 H2 N)
  (hd:∀ ys σ H,Pv z.cps.size ys σ H->Q (.ref l) H) :
  ∃ W:Nat->Nat->List V->St->Hp->Prop,(∃ m,W 0 m [] σ0 H0)/\∀ i m ys σ' H',W i m ys σ' H'->((Its z).stop i H'/\Q (.ref l) H') \/
   ((Its z).go i H'/\∀ x H'',(Its z).yld i H' x H''->g x σ' H'' λσ2 H2=>tb ys l σ2 H2 λys' σ3 H3=>∃ m',m' < m/\W (i+1) m' ys' σ3 H3):=by
 refine ⟨λi m ys σ H=>m=z.cps.size - i/\i<=z.cps.size/\Pv i ys σ H,⟨z.cps.size,by simp,aAI _,h0⟩,?_⟩;rintro i m ys σ H ⟨rfl,hi,p⟩
 by_cases hlt:i < z.cps.size
 ·refine .inr ⟨hlt,λx H' y=>?_⟩;obtain ⟨e,c,hc,rfl⟩:=y;subst e;exact hs i c ys σ _ _ hc p λys' σ' H' q=>⟨_,by lia,rfl,hlt,q⟩
 ·have e:i=z.cps.size:=by lia
  subst e;exact .inl ⟨rfl,hd ys σ H p⟩
theorem oX {lo:Int} {n:Nat} {l:Addr} {g:TG} {tb:List V->Addr->St->Hp->(List V->St->Hp->Prop)->Prop} {Q:VK} {σ0:St} {H0:Hp} (Pv:Nat->List V->St->Hp->Prop) (h0:Pv 0 [] σ0 H0)
  (hs:∀ i ys σ H (N:List V->St->Hp->Prop),i < n->Pv i ys σ H->(∀ ys' σ' H',Pv (i+1) ys' σ' H'->N ys' σ' H')->g (.int (lo+i)) σ H λσ2 H2=>tb ys l σ2 H2 N)
  (hd:∀ ys σ H,Pv n ys σ H->Q (.ref l) H) :
  ∃ W:Nat->Nat->List V->St->Hp->Prop,(∃ m,W 0 m [] σ0 H0)/\∀ i m ys σ' H',W i m ys σ' H'->((Itr lo n).stop i H'/\Q (.ref l) H') \/
   ((Itr lo n).go i H'/\∀ x H'',(Itr lo n).yld i H' x H''->g x σ' H'' λσ2 H2=>tb ys l σ2 H2 λys' σ3 H3=>∃ m',m' < m/\W (i+1) m' ys' σ3 H3):=by
 refine ⟨λi m ys σ H=>m=n - i/\i<=n/\Pv i ys σ H,⟨n,by simp,aAI _,h0⟩,?_⟩;rintro i m ys σ H ⟨rfl,hi,p⟩
 by_cases hlt:i < n
 ·refine .inr ⟨hlt,λx H' y=>?_⟩;obtain ⟨e,rfl⟩:=y;subst e;exact hs i ys σ _ _ hlt p λys' σ' H' q=>⟨_,by lia,rfl,hlt,q⟩
 ·have e:i=n:=by lia
  subst e;exact .inl ⟨aAf _,hd ys σ H p⟩
theorem rE {K:W.Frag} {a:Addr} {xs:List V} {l:Addr} {g:TG} {tb:List V->Addr->St->Hp->(List V->St->Hp->Prop)->Prop} {Q:VK} {σ0:St} {H0:Hp} (Pv:Nat->List V->St->Hp->Prop) (h0:Pv 0 [] σ0 H0) (hl:∀ i ys σ H,i<=xs.length->Pv i ys σ H->SqL K H a xs)
  (hs:∀ i x ys σ H (N:List V->St->Hp->Prop),xs[i]?=some x->Pv i ys σ H->(∀ ys' σ' H',Pv (i+1) ys' σ' H'->N ys' σ' H')->g x σ H λσ2 H2=>tb ys l σ2 H2 N)
  (hd:∀ ys σ H,Pv xs.length ys σ H->Q (.ref l) H) :
  ∃ W:Nat->Nat->List V->St->Hp->Prop,(∃ m,W 0 m [] σ0 H0)/\∀ i m ys σ' H',W i m ys σ' H'->((Itl K a).stop i H'/\Q (.ref l) H') \/
   ((Itl K a).go i H'/\∀ x H'',(Itl K a).yld i H' x H''->g x σ' H'' λσ2 H2=>tb ys l σ2 H2 λys' σ3 H3=>∃ m',m' < m/\W (i+1) m' ys' σ3 H3):=by
 refine ⟨λi m ys σ H=>m=xs.length - i/\i<=xs.length/\Pv i ys σ H,⟨xs.length,by simp,aAI _,h0⟩,?_⟩;rintro i m ys σ H ⟨rfl,hi,p⟩;have q:=hl i ys σ H hi p
 by_cases hlt:i < xs.length
 ·refine .inr ⟨⟨xs,xs[i],q,by simp [hlt]⟩,λx H' y=>?_⟩;obtain ⟨e,y⟩:=y;subst e;exact hs i x ys σ _ _ (y xs q) p λys' σ' H' q=>⟨_,by lia,rfl,hlt,q⟩
 ·have e:i=xs.length:=by lia
  subst e;exact .inl ⟨⟨xs,q,aAf _⟩,hd ys σ H p⟩
theorem tM {K:W.Frag} {a:Addr} {xs:List V} {l:Addr} {g:TG} {tb:List V->Addr->St->Hp->(List V->St->Hp->Prop)->Prop} {Q:VK} {σ0:St} {H0:Hp} (Pv:Nat->List V->St->Hp->Prop) (h0:Pv 0 [] σ0 H0) (hl:∀ i ys σ H,i<=xs.length->Pv i ys σ H->SqT K H a xs)
  (hs:∀ i x ys σ H (N:List V->St->Hp->Prop),xs[i]?=some x->Pv i ys σ H->(∀ ys' σ' H',Pv (i+1) ys' σ' H'->N ys' σ' H')->g x σ H λσ2 H2=>tb ys l σ2 H2 N)
  (hd:∀ ys σ H,Pv xs.length ys σ H->Q (.ref l) H) :
  ∃ W:Nat->Nat->List V->St->Hp->Prop,(∃ m,W 0 m [] σ0 H0)/\∀ i m ys σ' H',W i m ys σ' H'->((Itt K a).stop i H'/\Q (.ref l) H') \/
   ((Itt K a).go i H'/\∀ x H'',(Itt K a).yld i H' x H''->g x σ' H'' λσ2 H2=>tb ys l σ2 H2 λys' σ3 H3=>∃ m',m' < m/\W (i+1) m' ys' σ3 H3):=by
 refine ⟨λi m ys σ H=>m=xs.length - i/\i<=xs.length/\Pv i ys σ H,⟨xs.length,by simp,aAI _,h0⟩,?_⟩;rintro i m ys σ H ⟨rfl,hi,p⟩;have q:=hl i ys σ H hi p
 by_cases hlt:i < xs.length
 ·refine .inr ⟨⟨xs,xs[i],q,by simp [hlt]⟩,λx H' y=>?_⟩;obtain ⟨e,y⟩:=y;subst e;exact hs i x ys σ _ _ (y xs q) p λys' σ' H' q=>⟨_,by lia,rfl,hlt,q⟩
 ·have e:i=xs.length:=by lia
  subst e;exact .inl ⟨⟨xs,q,aAf _⟩,hd ys σ H p⟩
theorem pe_gint {X:Cx} {x:Str} {i:Int} {t:Tok} {pos:Pos} (hg:Gl X x) (hm:X.mg x=some (.int i t)) (hd:(x == ("__debug__" : Str))=false:=by decide):PE X (.Name x pos) (tC (.int i)):=kU hg hm ⟨_,rfl⟩ hd
theorem pe_gstr {X:Cx} {x z:Str} {t:Tok} {pos:Pos} (hg:Gl X x) (hm:X.mg x=some (.str z t)) (hd:(x == ("__debug__" : Str))=false:=by decide):PE X (.Name x pos) (tC (.str z)):=kU hg hm ⟨_,rfl⟩ hd
theorem br {X:Cx} {x:Str} {a:Addr} {pos:Pos} (hg:Gl X x) (hm:X.mg x=some (.ref a)) (hd:(x == ("__debug__" : Str))=false:=by decide):PE X (.Name x pos) (tC (.ref a)):=kU hg hm rfl hd
theorem aH {X:Cx} {x:Str} {n:String} {pos:Pos} (hg:Gl X x) (hm:X.mg x=none) (hv:bootBuiltins x=some (.type n)) (hn:x≠ "__name__" :=by decide) (hd:(x == ("__debug__" : Str))=false:=by decide):PE X (.Name x pos) (tC (.ty n)):=vw hg hm hv rfl hn hd
structure Gn (K:W.Frag) (mg:Str->Option Value) (x:Str) (st:Stmt) (ps:List Str) (f:Addr) (fd:FuncData):Prop where
 F:Fun K x x st f fd
 b:Binds K fd ps []
 m:mg x=some (.ref f)
inductive Dt where
 | non | bl (b:Bool) | int (i:Int) | str (z:Str) | tup (l:List Dt)
mutual
inductive IsD (K:W.Frag) (H:Hp):Dt->V->Prop
 | non:IsD K H .non .non
 | bl {b}:IsD K H (.bl b) (.bl b)
 | int {i}:IsD K H (.int i) (.int i)
 | str {z}:IsD K H (.str z) (.str z)
 | tup {l:List Dt} {a:Addr} {xs:List V}:SqT K H a xs->IsDs K H l xs->IsD K H (.tup l) (.ref a)
inductive IsDs (K:W.Frag) (H:Hp):List Dt->List V->Prop
 | nil:IsDs K H [] []
 | cons {d:Dt} {l:List Dt} {x:V} {xs:List V}:IsD K H d x->IsDs K H l xs->IsDs K H (d :: l) (x :: xs)
end
mutual
def Dt.dep:Dt->Nat
 | .tup l=>fU l+1
 | _=>0
def fU:List Dt->Nat
 | []=>0
 | d :: l=>max d.dep (fU l)
end
mutual
def eqD:Dt->Dt->Bool
 | .non,.non=>true
 | .bl a,.bl b=>a == b
 | .bl a,.int i=>(if a then 1 else 0) == i
 | .int i,.bl a=>i == (if a then 1 else 0)
 | .int i,.int j=>i == j
 | .str x,.str y=>x == y
 | .tup l,.tup m=>ef l m
 | _,_=>false
def ef:List Dt->List Dt->Bool
 | [],[]=>true
 | d :: l,e :: m=>eqD d e && ef l m
 | _,_=>false
end
mutual
def Dt.plain:Dt->Bool
 | .bl _=>false
 | .tup l=>i4 l
 | _=>true
def i4:List Dt->Bool
 | []=>true
 | d :: l=>d.plain && i4 l
end
mutual
theorem fV:∀ d:Dt,eqD d d=true
 | .non=>rfl
 | .bl a=>by simp [eqD]
 | .int i=>by simp [eqD]
 | .str z=>by simp [eqD]
 | .tup l=>by simp only [eqD];exact kA l
theorem kA:∀ l:List Dt,ef l l=true
 | []=>rfl
 | d :: l=>by simp only [ef,fV d,kA l,Bool.and_self]
end
mutual
theorem A3:∀ d e:Dt,d.plain=true->e.plain=true->eqD d e=true->d=e
 | .non,e,_,_,h=>by cases e <;> simp_all [eqD]
 | .bl _,_,h,_,_=>by simp [Dt.plain] at h
 | .int i,e,_,he,h=>by cases e <;> simp_all [eqD,Dt.plain]
 | .str z,e,_,_,h=>by cases e <;> simp_all [eqD]
 | .tup l,e,hd,he,h=>by
  cases e with
  | tup m=>rw [qr l m (by simpa [Dt.plain] using hd) (by simpa [Dt.plain] using he) (by simpa [eqD] using h)]
  | _=>simp [eqD] at h
theorem qr:∀ l m:List Dt,i4 l=true->i4 m=true->ef l m=true->l=m
 | [],[],_,_,_=>rfl
 | [],_ :: _,_,_,h=>by simp [ef] at h
 | _ :: _,[],_,_,h=>by simp [ef] at h
 | d :: l,e :: m,hl,hm,h=>by
  simp only [i4,aAq] at hl hm;simp only [ef,aAq] at h;rw [A3 d e hl.1 hm.1 h.1,qr l m hl.2 hm.2 h.2]
end
section
variable {K:W.Frag} {H H':Hp}
mutual
theorem IsD.same (g:Same H H'):∀ {d:Dt} {v:V},IsD K H d v->IsD K H' d v
 | _,_,.non=>.non
 | _,_,.bl=>.bl
 | _,_,.int=>.int
 | _,_,.str=>.str
 | _,_,.tup h r=>.tup (g.tup h) (IsDs.same g r)
theorem IsDs.same (g:Same H H'):∀ {l:List Dt} {xs:List V},IsDs K H l xs->IsDs K H' l xs
 | _,_,.nil=>.nil
 | _,_,.cons h r=>.cons (IsD.same g h) (IsDs.same g r)
end
theorem tN {a r:Addr} {xs ys:List V} (hr:H r=some (.lst ys)) (h:SqT K H a xs):a≠r\/∀ H'',SqT K H'' a xs:=by
 rcases h with (h | ⟨o,h⟩) | h
 ·exact .inl (sN h hr (by intro z;cases z))
 ·exact .inl (sN h hr (by intro z;cases z))
 ·exact .inr λ_=>.inr h
mutual
theorem IsD.but {r:Addr} {ys:List V} (hr:H r=some (.lst ys)) (g:But r H H'):∀ {d:Dt} {v:V},IsD K H d v->IsD K H' d v
 | _,_,.non=>.non
 | _,_,.bl=>.bl
 | _,_,.int=>.int
 | _,_,.str=>.str
 | _,_,.tup h q=>.tup (by
   rcases tN hr h with n | n
   ·exact g.tup n h
   ·exact n _) (IsDs.but hr g q)
theorem IsDs.but {r:Addr} {ys:List V} (hr:H r=some (.lst ys)) (g:But r H H'):∀ {l:List Dt} {xs:List V},IsDs K H l xs->IsDs K H' l xs
 | _,_,.nil=>.nil
 | _,_,.cons h q=>.cons (IsD.but hr g h) (IsDs.but hr g q)
end
theorem IsDs.length {l:List Dt} {xs:List V} (h:IsDs K H l xs):l.length=xs.length:=by
 induction l generalizing xs with
 | nil=>cases h;rfl
 | cons d l ih=>cases h with | cons _ r=>simp [ih r]
theorem IsDs.get {l:List Dt} {xs:List V} (h:IsDs K H l xs) {i:Nat} {d:Dt} (e:l[i]?=some d):∃ x,xs[i]?=some x/\IsD K H d x:=by
 induction l generalizing xs i with
 | nil=>simp at e
 | cons c l ih =>
  cases h with
  | cons h r =>
   cases i with
   | zero=>simp at e;subst e;exact ⟨_,rfl,h⟩
   | succ i=>exact ih r (by simpa using e)
end
section
variable {X:Cx} {pins:List (Addr×Obj)} {σ:St} {H:Hp} {s:Shared}
mutual
theorem IsD.inj (I:Inv X pins σ H s):∀ {d e:Dt} {v:V},IsD X.K H d v->IsD X.K H e v->d=e
 | _,_,_,.non,.non=>rfl
 | _,_,_,.bl,.bl=>rfl
 | _,_,_,.int,.int=>rfl
 | _,_,_,.str,.str=>rfl
 | _,_,_,.tup h r,.tup h' r'=>by
  have e:=I.tuple_inj h h';subst e;rw [IsDs.inj I r r']
theorem IsDs.inj (I:Inv X pins σ H s):∀ {l m:List Dt} {xs:List V},IsDs X.K H l xs->IsDs X.K H m xs->l=m
 | _,_,_,.nil,.nil=>rfl
 | _,_,_,.cons h r,.cons h' r'=>by rw [IsD.inj I h h',IsDs.inj I r r']
end
theorem dC:∀ (l m:List Dt),ef l m=((List.range (min l.length m.length)).all (λj=>eqD (l.getD j .non) (m.getD j .non)) && l.length == m.length)
 | [],[]=>rfl
 | [],_ :: _=>by simp [ef]
 | _ :: _,[]=>by simp [ef]
 | d :: l,e :: m=>by
  simp only [ef,aAo];rw [dC l m,Nat.succ_min_succ,List.range_succ_eq_map,aBD,aBe];have e1:(l.length+1 == m.length+1)=(l.length == m.length):=by
   rw [aAV];simp
  rw [e1,Bool.and_assoc]
  rfl
theorem i5:∀ {l:List Dt} {j:Nat},j < l.length->(l.getD j .non).dep<=fU l
 | [],_,h=>by simp at h
 | d :: l,0,_=>by simp only [List.getD_cons_zero,fU];lia
 | d :: l,j+1,h=>by
  have q:=@i5 l j (by simpa using h);simp only [List.getD_cons_succ,fU];lia
theorem Inv.tup' (I:Inv X pins σ H s) {a:Addr} {xs:List V} (h:SqT X.K H a xs):∃ its:List Value,Vals xs its/\s.heap.IsTuple a its.toArray:=by
 obtain ⟨its,r,p,_⟩:=I.tuple h;exact ⟨its,r,p⟩
theorem kB (A:Around):A.in1.units=A.units+1:=by
 first | rfl | simp [Around.in1]
theorem A4 (I:Inv X pins σ H s):∀ (n:Nat) (d e:Dt) (x y:V) (u v:Value) (A:Around),d.dep<=n->IsD X.K H d x->IsD X.K H e y->RelV x u->RelV y v->A.units+n < cLine ->
  SeqAt.EqAt A s u v (eqD d e)/\SeqAt.RcAt A s u v (eqD d e)/\SeqAt.RcNeAt A s u v (!eqD d e):=by
 intro n
 induction n with
 | zero =>
  intro d e x y u v A hd hx hy rx ry hu;have hu0:A.units < cLine:=by lia
  cases hx with
  | tup h r=>simp [Dt.dep] at hd
  | non =>
   cases rx
   cases hy with
   | non=>cases ry;exact ⟨.same _,.none_none,.none_none⟩
   | bl=>cases ry;exact ⟨.none_bool _,.none_bool _,.none_bool _⟩
   | int=>obtain ⟨t,rfl⟩:=ry;exact ⟨.none_int _ _,.none_int _ _,.none_int _ _⟩
   | str=>obtain ⟨t,rfl⟩:=ry;exact ⟨.none_str _ _,.none_str _ _,.none_str _ _⟩
   | tup h r=>cases ry;obtain ⟨its,_,p⟩:=I.tup' h;exact ⟨.none_tuple p hu0,.none_tuple p hu0,.none_tuple p hu0⟩
  | bl =>
   cases rx
   cases hy with
   | non=>cases ry;exact ⟨.bool_none _,.bool_none _,.bool_none _⟩
   | bl=>cases ry;exact ⟨.bool_bool _ _,.bool_bool _ _,.bool_bool _ _⟩
   | int=>obtain ⟨t,rfl⟩:=ry;exact ⟨.bool_int _ _ _,.bool_int _ _ _,.bool_int _ _ _⟩
   | str=>obtain ⟨t,rfl⟩:=ry;exact ⟨.bool_str _ _ _,.bool_str _ _ _,.bool_str _ _ _⟩
   | tup h r=>cases ry;obtain ⟨its,_,p⟩:=I.tup' h;exact ⟨.bool_tuple _ p hu0,.bool_tuple _ p hu0,.bool_tuple _ p hu0⟩
  | int =>
   obtain ⟨t0,rfl⟩:=rx
   cases hy with
   | non=>cases ry;exact ⟨.int_none _ _,.int_none _ _,.int_none _ _⟩
   | bl=>cases ry;exact ⟨.int_bool _ _ _,.int_bool _ _ _,.int_bool _ _ _⟩
   | int=>obtain ⟨t,rfl⟩:=ry;exact ⟨.int_int _ _ _ _,.int_int _ _ _ _,.int_int _ _ _ _⟩
   | str=>obtain ⟨t,rfl⟩:=ry;exact ⟨.int_str _ _ _ _,.int_str _ _ _ _,.int_str _ _ _ _⟩
   | tup h r=>cases ry;obtain ⟨its,_,p⟩:=I.tup' h;exact ⟨.int_tuple _ _ p hu0,.int_tuple _ _ p hu0,.int_tuple _ _ p hu0⟩
  | str =>
   obtain ⟨t0,rfl⟩:=rx
   cases hy with
   | non=>cases ry;exact ⟨.str_none _ _,.str_none _ _,.str_none _ _⟩
   | bl=>cases ry;exact ⟨.str_bool _ _ _,.str_bool _ _ _,.str_bool _ _ _⟩
   | int=>obtain ⟨t,rfl⟩:=ry;exact ⟨.str_int _ _ _ _,.str_int _ _ _ _,.str_int _ _ _ _⟩
   | str=>obtain ⟨t,rfl⟩:=ry;exact ⟨.str_str _ _ _ _,.str_str _ _ _ _,.str_str _ _ _ _⟩
   | tup h r=>cases ry;obtain ⟨its,_,p⟩:=I.tup' h;exact ⟨.str_tuple _ _ p hu0,.str_tuple _ _ p hu0,.str_tuple _ _ p hu0⟩
 | succ n ih =>
  intro d e x y u v A hd hx hy rx ry hu;have hu0:A.units < cLine:=by lia
  cases hx with
  | tup h r =>
   rename_i l a xs
   cases rx
   cases hy with
   | non=>cases ry;obtain ⟨its,_,p⟩:=I.tup' h;exact ⟨.tuple_none p hu0,.tuple_none p hu0,.tuple_none p hu0⟩
   | bl=>cases ry;obtain ⟨its,_,p⟩:=I.tup' h;exact ⟨.tuple_bool _ p hu0,.tuple_bool _ p hu0,.tuple_bool _ p hu0⟩
   | int=>obtain ⟨t,rfl⟩:=ry;obtain ⟨its,_,p⟩:=I.tup' h;exact ⟨.tuple_int _ _ p hu0,.tuple_int _ _ p hu0,.tuple_int _ _ p hu0⟩
   | str=>obtain ⟨t,rfl⟩:=ry;obtain ⟨its,_,p⟩:=I.tup' h;exact ⟨.tuple_str _ _ p hu0,.tuple_str _ _ p hu0,.tuple_str _ _ p hu0⟩
   | tup h' r' =>
    rename_i m b ys
    cases ry
    obtain ⟨its,q,p⟩:=I.tup' h;obtain ⟨its',q',p'⟩:=I.tup' h';have l1:its.length=l.length:=by rw [<- q.length,<- r.length]
    have l2:its'.length=m.length:=by rw [<- q'.length,<- r'.length]
    have he:∀ j (h1:j < its.toArray.size) (h2:j < its'.toArray.size),SeqAt.EqAt A.in1 s its.toArray[j] its'.toArray[j] (eqD (l.getD j .non) (m.getD j .non)):=by
     intro j h1 h2;have j1:j < l.length:=by simpa [l1] using h1
     have j2:j < m.length:=by simpa [l2] using h2
     obtain ⟨x1,ex,dx⟩:=r.get (i:=j) (d:=l.getD j .non) (by simp [aAy,j1]);obtain ⟨y1,ey,dy⟩:=r'.get (i:=j) (d:=m.getD j .non) (by simp [aAy,j2]);obtain ⟨u1,eu,ru⟩:=q.get ex;obtain ⟨v1,ev,rv⟩:=q'.get ey;have e1:its.toArray[j]=u1:=by
      have:its[j]?=some its[j]:=by simp [l1,j1]
      rw [this] at eu
      simpa using Option.some.inj eu
     have e2:its'.toArray[j]=v1:=by
      have:its'[j]?=some its'[j]:=by simp [l2,j2]
      rw [this] at ev
      simpa using Option.some.inj ev
     rw [e1,e2];have hdl:fU l<=n:=by simp only [Dt.dep] at hd;lia
     exact (ih _ _ _ _ _ _ A.in1 (aAw (i5 j1) hdl) dx dy ru rv (by rw [kB];lia)).1
    have ev:eqD (.tup l) (.tup m)=((List.range (min its.toArray.size its'.toArray.size)).all (λj=>eqD (l.getD j .non) (m.getD j .non)) && its.toArray.size == its'.toArray.size):=by
     simp only [eqD,aAh,l1,l2];exact dC l m
    rw [ev];refine ⟨?_,SeqAt.RcAt.tuples p p' hu0 he,SeqAt.RcNeAt.tuples p p' hu0 he⟩
    by_cases hab:a=b
    ·subst hab;have e3:=I.tuple_inj h h';subst e3;have e4:=IsDs.inj I r r';subst e4;rw [<- ev,fV];exact .same _
    ·exact .of_refs hab (SeqAt.RcAt.tuples p p' hu0 he)
  | non=>exact ih _ _ _ _ _ _ A (by simp [Dt.dep]) .non hy rx ry (by lia)
  | bl=>exact ih _ _ _ _ _ _ A (by simp [Dt.dep]) .bl hy rx ry (by lia)
  | int=>exact ih _ _ _ _ _ _ A (by simp [Dt.dep]) .int hy rx ry (by lia)
  | str=>exact ih _ _ _ _ _ _ A (by simp [Dt.dep]) .str hy rx ry (by lia)
def IN (K:W.Frag):R2:=λx y H Q=>∃ d e,IsD K H d x/\IsD K H e y/\d.dep<=60/\Q (.bl (eqD d e)) H
def IP (K:W.Frag):R2:=λx y H Q=>∃ d e,IsD K H d x/\IsD K H e y/\d.dep<=60/\Q (.bl (!eqD d e)) H
theorem A5 (hu:X.A.units+64 < cLine):OpR X (compareOp .Eq) (IN X.K):=by
 intro pins s σ H x y v u Q I rx ry h;obtain ⟨d,e,hd,he,hn,q⟩:=h;exact (A4 I 60 d e x y v u X.A hn hd he rx ry (by lia)).2.1 _ _ _ _ ⟨.bl _,H,I,rfl,q⟩
theorem A6 (hu:X.A.units+64 < cLine):OpR X (compareOp .NotEq) (IP X.K):=by
 intro pins s σ H x y v u Q I rx ry h;obtain ⟨d,e,hd,he,hn,q⟩:=h;exact (A4 I 60 d e x y v u X.A hn hd he rx ry (by lia)).2.2 _ _ _ _ ⟨.bl _,H,I,rfl,q⟩
def JY (K:W.Frag) (neg:Bool):R2:=λx y H Q=>∃ p b xs ys l m,x=.ref p/\y=.ref b/\SqL K H p xs/\SqL K H b ys/\IsDs K H l xs/\IsDs K H m ys/\fU l<=60/\Q (.bl (if neg then !ef l m else ef l m)) H
theorem rF (hu:X.A.units+64 < cLine) (I:Inv X pins σ H s) {l m:List Dt} {xs ys:List V} {its its':List Value} (r:IsDs X.K H l xs) (r':IsDs X.K H m ys) (q:Vals xs its) (q':Vals ys its') (hd:fU l<=60) :
  ∀ j (h1:j < its.toArray.size) (h2:j < its'.toArray.size),SeqAt.EqAt X.A.in1 s its.toArray[j] its'.toArray[j] (eqD (l.getD j .non) (m.getD j .non)):=by
 have l1:its.length=l.length:=by rw [<- q.length,<- r.length]
 have l2:its'.length=m.length:=by rw [<- q'.length,<- r'.length]
 intro j h1 h2;have j1:j < l.length:=by simpa [l1] using h1
 have j2:j < m.length:=by simpa [l2] using h2
 obtain ⟨x1,ex,dx⟩:=r.get (i:=j) (d:=l.getD j .non) (by simp [aAy,j1]);obtain ⟨y1,ey,dy⟩:=r'.get (i:=j) (d:=m.getD j .non) (by simp [aAy,j2]);obtain ⟨u1,eu,ru⟩:=q.get ex;obtain ⟨v1,ev,rv⟩:=q'.get ey;have e1:its.toArray[j]=u1:=by
  have:its[j]?=some its[j]:=by simp [l1,j1]
  rw [this] at eu
  simpa using Option.some.inj eu
 have e2:its'.toArray[j]=v1:=by
  have:its'[j]?=some its'[j]:=by simp [l2,j2]
  rw [this] at ev
  simpa using Option.some.inj ev
 rw [e1,e2];exact (A4 I 60 _ _ _ _ _ _ X.A.in1 (aAw (i5 j1) hd) dx dy ru rv (by rw [kB];lia)).1
theorem tO (hu:X.A.units+64 < cLine):OpR X (compareOp .Eq) (JY X.K false):=by
 intro pins s σ H x y v u Q I rx ry h;obtain ⟨p,b,xs,ys,l,m,rfl,rfl,hp,hb,r,r',hd,q⟩:=h
 cases rx
 cases ry
 obtain ⟨its,r1,p1,_⟩:=I.list hp;obtain ⟨its',r2,p2,_⟩:=I.list hb;have l1:its.length=l.length:=by rw [<- r1.length,<- r.length]
 have l2:its'.length=m.length:=by rw [<- r2.length,<- r'.length]
 have he:=rF hu I r r' r1 r2 hd;have hu0:X.A.units < cLine:=by lia
 by_cases hs:its.length=its'.length
 ·have ev:ef l m=(List.range its.toArray.size).all (λj=>eqD (l.getD j .non) (m.getD j .non)):=by
   rw [dC l m,aAh,l1];have e3:l.length=m.length:=by lia
   rw [<- e3,Nat.min_self,beq_self_eq_true,Bool.and_true]
  refine SeqAt.eq_listAt p1.isList p2.isList (by simpa using hs) hu0 he ?_;rw [<- ev];exact ⟨.bl _,H,I,rfl,q⟩
 ·have ev:ef l m=false:=by
   have e3:(l.length == m.length)=false:=by simpa using (show ¬ l.length=m.length by lia)
   rw [dC l m,e3,aBB]
  refine SeqAt.eq_list_lengthsAt p1.isList p2.isList (by simpa using hs) hu0 ?_;have q':Q (.bl (ef l m)) H:=q;rw [ev] at q';exact ⟨.bl _,H,I,rfl,q'⟩
end
end L2
namespace PySem.W
open PySem PySem.Spec PyProof.Rows PySem.Calls
structure ExcK (K:Frag) (C:Addr):Prop where
 ga:findIn K (.ref C) "__getattribute__" = some (some (.builtin "BaseException.__getattribute__"))
 gt:findIn K (.ref C) "__getattr__" = some none
 cl:findIn K (.ref C) "__class__" = some (some (.builtin "object.__class__"))
 sb:mroIn K C (.type "BaseException")=some true
 so:mroIn K C (.type "object")=some true
 cd:∃ c,clsIn K C=some c
section
variable {prog:Program} {w:World} {A:Around} {E:Value->Shared->Prop} {h:Heap} {g:Array GenState} {d:Drawn} {t:Nat} {os:OsState} {a C:Addr} {o:Obj} {K:Frag}
theorem xlk {M:Model} {n:Str} {y:Option Value} {Q:Option Value->Shared->Prop} (X:K.In h) (e:findIn K (.ref C) n=some y) (hq:Q y ⟨h,g,d,t,os⟩):wpAny M A (typeLookup (.ref C) n) Q E ⟨h,g,d,t,os⟩ :=
 (looks_findIn X e).at hq
theorem IQ {M:Model} {T:Value} {y:Bool} {Q:Bool->Shared->Prop} (X:K.In h) (e:mroIn K C T=some y) (hq:Q y ⟨h,g,d,t,os⟩):wpAny M A (isSubtype (.ref C) T) Q E ⟨h,g,d,t,os⟩ :=
 (looks_mroIn X e).at hq
theorem oY {R:Result->Shared->Prop} (X:K.In h) (G:ExcK K C) (hx:h.get? a=some o) (hc:o.cls=.ref C) (hq:R (.ok (.ret (.ref C))) ⟨h,g,d,t,os⟩) :
  codeAny (model prog w) A (.call (.builtin "getset_descriptor.__get__") ⟨[.builtin "object.__class__",.ref a,.ref C],[]⟩) R ⟨h,g,d,t,os⟩:=by
 have hT5:(⟨h,g,d,t,os⟩:Shared).TypeIs (.builtin "object.__class__") "getset_descriptor" :=F.typeOf_object_class;have hso:mroIn K C (.type (".".intercalate ("object.__class__".cutAt '.').dropLast))=some true:=by rw [F.owner_object_class];exact G.so
 refine codeAny_call_builtin F.slot_gs_get.plain F.entry_gs_get (F.slot_gs_get.check _ _ _ _ _ _ _ _ hT5 (F.args_gs_get _ _ _) ?_)
 repeat (any_goals (first | assumption | (with_reducible refine wpAny_loadPart_at hx ?_;rw [hc]) | (with_reducible refine IQ X hso ?_) | wp_step))
 refine ⟨Code.quiet_builtin _ (by decide +kernel),codeAny_builtin F.entry_object_class ?_⟩
 repeat (any_goals (first | assumption | (with_reducible refine wpAny_loadPart_at hx ?_;rw [hc]) | wp_step))
theorem lB {tk:Tok} {Q:Fin->Shared->Prop} (X:K.In h) (G:ExcK K C) (hx:h.get? a=some o) (hc:o.cls=.ref C) (hq:Q (.done (.ret (.ref C))) ⟨h,g,d,t,os⟩) :
  wpAny (model prog w) A (Builtin.«object.__getattribute__» ⟨[.ref a,.str "__class__" tk],[]⟩) Q E ⟨h,g,d,t,os⟩:=by
 have hT5:(⟨h,g,d,t,os⟩:Shared).TypeIs (.builtin "object.__class__") "getset_descriptor" :=F.typeOf_object_class;have f5:=F.typeOf_object_class;have f6:=F.slot_gs_get.lookup;have f7:=F.slot_gs_set.lookup
 repeat (any_goals (first | assumption | (with_reducible refine wpAny_loadPart_at hx ?_;rw [hc]) | with_reducible refine xlk X G.cl ?_ | wp_step))
 refine oY X G hx hc ?_
 repeat (any_goals (first | assumption | wp_step))
theorem rG {M:Model} {nameV:Value} {Q:Unit->Shared->Prop} (X:K.In h) (G:ExcK K C) (hx:h.get? a=some o) (hc:o.cls=.ref C) (hq:Q () ⟨h,g,d,t,os⟩) :
  wpAny M A (checkBuiltinCall "BaseException.__getattribute__" ⟨[.ref a,nameV],[]⟩) Q E ⟨h,g,d,t,os⟩:=by
 have hk:builtinKind "BaseException.__getattribute__" = some .slot:=by decide +kernel
 have hsplit:splitId "BaseException.__getattribute__" = some ("BaseException","__getattribute__"):=by decide +kernel
 have ha:=F.args_bexc_ga (.ref a) nameV;simp only [checkBuiltinCall,hk,hsplit];refine wpAny_bind ?_
 ·unfold isInstance
  repeat (first | (with_reducible refine wpAny_loadPart_at hx ?_;rw [hc]) | (with_reducible refine IQ X G.sb ?_) | wp_step)
  exact hq
theorem mV {tk:Tok} {R:Result->Shared->Prop} (X:K.In h) (G:ExcK K C) (hx:h.get? a=some o) (hc:o.cls=.ref C) (hq:R (.ok (.ret (.ref C))) ⟨h,g,d,t,os⟩) :
  codeAny (model prog w) A (.call (.builtin "BaseException.__getattribute__") ⟨[.ref a,.str "__class__" tk],[]⟩) R ⟨h,g,d,t,os⟩ :=
 codeAny_call_builtin F.attr_ValueError.ga.plain F.entry_bexc_ga (rG X G hx hc (lB X G hx hc hq))
theorem rH {tk:Tok} {fill expr:Bool} {Q:Value->Shared->Prop} (X:K.In h) (G:ExcK K C) (hx:h.get? a=some o) (hc:o.cls=.ref C) (hq:Q (.ref C) ⟨h,g,d,t,os⟩) :
  wpAny (model prog w) A (getAttrBy (.ref a) (.str "__class__" tk) fill expr) Q E ⟨h,g,d,t,os⟩:=by
 have f3:=F.attr_ValueError.ga.bind (.ref a);have hx0:(expr && onTheHeap (Value.builtin "BaseException.__getattribute__"))=false:=by cases expr <;> rfl
 have hx2:(Value.builtin "BaseException.__getattribute__" == Value.builtin "object.__getattribute__")=false:=by decide +kernel
 have hx1:(onTheHeap (Value.ref C) && Value.builtin "BaseException.__getattribute__" == Value.builtin "object.__getattribute__")=false:=by rw [hx2];rfl
 repeat (any_goals (first | assumption | (with_reducible refine wpAny_loadPart_at hx ?_;rw [hc]) | with_reducible refine xlk X G.ga ?_ | with_reducible refine xlk X G.gt ?_ | wp_step))
 refine mV X G hx hc ?_
 repeat (any_goals (first | assumption | wp_step))
theorem mW {Q:Option Value->Shared->Prop} (X:K.In h) (G:ExcK K C) (hx:h.get? a=some o) (hc:o.cls=.ref C) (hq:Q (some (.ref C)) ⟨h,g,d,t+1,os⟩) :
  wpAny (model prog w) A (getAttr? (.ref a) "__class__") Q E ⟨h,g,d,t,os⟩:=by
 unfold getAttr? getAttrBy?
 repeat (any_goals (first | assumption | with_reducible apply rH X G hx hc | wp_step))
theorem kitx_exc (G:ExcK K C):KitX K (.ref a) (.ref C) (λh=>∃ o,h.get? a=some o/\o.cls=.ref C) where
 ty:=λM h _ ⟨o,e,c⟩=>by
  have L:Looks M h (typeOf (.ref a)) o.cls:=(Looks.ld e).andThen .now;rw [c] at L;exact L
 it:=λ_ _ X _=>by
  obtain ⟨cdD,hcD⟩:=G.cd;unfold clsIn at hcD
  split at hcD
  ·rename_i c' d' cd' sl' ho
   intro A' Q' E' s' k q;unfold isType loadHead;exact wpAny_bind (wpAny_loadPart (k _ _ (X _ _ ho)) (wpAny_pure q))
  ·cases hcD
 ne:=λh tp dd its n sl X htp=>by
  obtain ⟨cdD,hcD⟩:=G.cd;refine aBd.mpr λq=>?_;have e:C=tp:=Value.ref.inj (beq_iff_eq.mp q);subst e;unfold clsIn at hcD
  split at hcD
  ·rename_i c' d' cd' sl' ho
   have z:=X _ _ ho;rw [htp] at z
   cases z
  ·cases hcD
 ca:=λ{_ _ _ _ _ s} X ⟨o,e,c⟩ q=>by
  obtain ⟨h,g,d,t,os⟩:=s;exact mW X G e c q
end
end PySem.W
namespace L2
open PySem PySem.Spec PyProof.Rows
abbrev bmV:List Value:=[.type "ValueError",.type "Exception",.type "BaseException",.type "object"]
structure ExC (K:W.Frag) (mg:Str->Option Value) (x:Str) (C:Addr):Prop where
 m:mg x=some (.ref C)
 q:W.excIn K C bmV "ValueError.__new__" = true
 k:W.ExcK K C
 kp:W.keepIn K (.ref C)=true
theorem iP {K:W.Frag} {h:Heap} {C:Addr} {bmB:List Value} {newId:String} (X:K.In h) (q:W.excIn K C bmB newId=true) :
  ∃ bm N nm qn bs hd sn sub ab col dd k0 k1 k2 k3 k5 mN,h.get? C=some (excClassObj nm qn C N bs bm hd sn sub ab col dd k0 k1 k2 k3 k5 newId)/\h.Ns N mN/\mN "__init__" = none/\OwnTail h bmB bm:=by
 unfold W.excIn at q
 split at q
 case h_2=>cases q
 case h_1 dd cd sl ho =>
  split at q
  case h_2=>cases q
  case h_1 C' bm k0 k1 k2 k3 n k5 hm hs =>
   simp only [aAq,beq_iff_eq,Bool.not_eq_true'] at q;obtain ⟨⟨⟨⟨⟨q1,q2⟩,q3⟩,q4⟩,q5⟩,q6⟩:=q;subst q1 q2;obtain ⟨nm,bs,mro,ns,qn,hd,sn,sub,ab,col,del⟩:=cd;dsimp only at hm q3 q5 q6;subst hm q3;obtain ⟨l⟩:=sl;dsimp only at hs;subst hs;exact ⟨bm,ns,nm,qn,bs,hd,sn,sub,ab,col,dd,k0,k1,k2,k3,k5,_,X _ _ ho,.of_isNs (W.isNs_of_in X q5),W.nsMap_none_of_in X q5 q6,W.tail_of_in X q4⟩
section
variable {X:Cx} {pins:List (Addr×Obj)} {σ:St} {H:Hp} {s:Shared}
end
def CXE (P:Program) (w:World):CXT:=λouter H s E e s'=>∃ (ea C:Addr) (a0:Value) (B:Heap) (H':Hp),e=.ref ea/\Heap.FlyingW B outer ea (.ref C) a0 s'.heap/\s'.os=s.os/\AllBare s'.gens/\Un (frs outer) [] H H' s.heap s'.heap/\HOk P w H' B /\
 (∀ b o,s.heap.get? b=some o->H b=none->b∉frs outer->B.get? b=some o)/\(∀ b o,s.heap.get? b=some o->b∉frs outer->∃ o',B.get? b=some o')/\E (.ref C) none H'
theorem eg {fs:List Addr} {H H1:Hp} {h h1 h' B:Heap} (u:Un fs [] H H1 h h1) (c1:∀ b o,h.get? b=some o->H b=none->b∉fs->B.get? b=some o) (c2:∀ b o,h.get? b=some o->b∉fs->∃ o',B.get? b=some o')
  (st:B.StaysIn h') (c3:∀ b o,h.get? b=some o->b∈fs->∃ sl,h'.get? b=some { o with slots:=sl }):Un fs [] H H1 h h' where
 keep:=λb o q n hb _=>st b o (c1 b o q n hb)
 slot:=λb o q n hb _=>c3 b o q hb
 free:=u.free
 there:=λb o q hx=>by
  by_cases hb:b∈fs
  ·obtain ⟨sl,e⟩:=c3 b o q hb;exact ⟨_,e⟩
  ·obtain ⟨o',e⟩:=c2 b o q hb;exact ⟨o',st b o' e⟩
 tups:=u.tups
 frzs:=u.frzs
 tbls:=u.tbls
def A7 (X:Cx) (E:XK):Prop:=X.xe=λe s'=>wpAny (model X.prog X.w) X.A (leaving X.env e) (λ_ s''=>CXE X.prog X.w X.outer X.H₀ X.s₀ E e s'') (λe' s''=>CXE X.prog X.w X.outer X.H₀ X.s₀ E e' s'') s'
section
variable {X:Cx} {pins:List (Addr×Obj)} {σ:St} {H:Hp} {s:Shared}
theorem cv {base h:Heap} {l:List Env} {b:Addr} (f:h.FunFrames base l) (hb:b∈frs l):∃ o,h.get? b=some o/\∀ vs,o.data≠.fields vs:=by
 obtain ⟨_,o,ho,hn⟩:=f.mem hb;exact ⟨o,ho,hn⟩
theorem tP {E:XK} {C:Addr} {ea:Addr} {vs:List Value} {h':Heap} {tk:Nat} (hx:A7 X E) (hstk:X.stack=X.env :: X.outer) (hfr:X.env.frame=some X.env.locals) (hex:X.ex=[]) (I:Inv X pins σ H s) (hm:Heap.MadeExcOf s.heap h' ea (.ref C) vs)
  (q:E (.ref C) none H):X.xe (.ref ea) { s with heap:=h',toks:=tk }:=by
 rw [hx];have F0:s.heap.FunFrames X.base (X.env :: X.outer):=by rw [<- hstk];exact I.stack
 have fr0:X.A.frames=some (X.env :: X.outer):=by rw [<- hstk];exact I.ok.frames
 have mem:∀ b∈frs X.outer,b∈frs (X.env :: X.outer):=λb hb=>by
  obtain ⟨env,he,hf⟩:=aAl.mp hb;exact aAl.mpr ⟨env,aAp _ he,hf⟩
 have inv:∀ b,b∈frs (X.env :: X.outer)->b=X.env.locals\/b∈frs X.outer:=λb hb=>by
  obtain ⟨env,he,hf⟩:=aAl.mp hb;rcases aAm.mp he with rfl | he
  ·rw [hfr] at hf;exact .inl (Option.some.inj hf).symm
  ·exact .inr (aAl.mpr ⟨env,he,hf⟩)
 have hin:∀ env∈(X.env :: X.outer),∀ b,env.frame=some b->b∈frs (X.env :: X.outer):=λenv he b hb=>aAl.mpr ⟨env,he,hb⟩;have stayB:∀ b o,s.heap.get? b=some o->b∉frs (X.env :: X.outer)->(W.hideAll s.heap (frs (X.env :: X.outer))).get? b=some o:=λb o e n=>W.hideAll_get _ e n;have old:∀ b o,X.s₀.heap.get? b=some o->b∉frs X.outer->b∉frs (X.env :: X.outer):=λb o e n z=>by
  rcases inv b z with rfl | z
  ·exact absurd (aAd (aAb e) I.ok.above) (aAx _)
  ·exact n z
 refine wpAny_leaves_madeW (s:={ s with heap:=h',toks:=tk }) fr0 hfr (λb o e=>W.of_hideAll _ e) (W.funFrames_hide F0 hin) hm λh2 t fl _ _ up=>?_;have B0:Un X.fs [] X.H₀ H X.s₀.heap s.heap:=by have z:=I.base;rw [hex] at z;exact z
 have c1:∀ b o,X.s₀.heap.get? b=some o->X.H₀ b=none->b∉frs X.outer->(W.hideAll s.heap (frs (X.env :: X.outer))).get? b=some o:=λb o e n hb=>stayB b o (B0.keep b o e n hb (by simp)) (old b o e hb);have c2:∀ b o,X.s₀.heap.get? b=some o->b∉frs X.outer->∃ o',(W.hideAll s.heap (frs (X.env :: X.outer))).get? b=some o':=λb o e hb=>by
  obtain ⟨o',e'⟩:=B0.there b o e (by simp);exact ⟨o',stayB b o' e' (old b o e hb)⟩
 refine ⟨ea,C,_,_,H,rfl,fl,I.os,I.bare,eg B0 c1 c2 fl.1 λb o e hb=>?_,λb u e=>?_,c1,c2,q⟩
 ·obtain ⟨sl,e1⟩:=B0.slot b o e (I.ok.frf b hb) hb (by simp);obtain ⟨o2,e2,nf⟩:=cv F0 (mem b hb);rw [e1] at e2;obtain rfl:=Option.some.inj e2;obtain ⟨sl2,e3⟩:=up b _ (hm.keeps b _ e1) nf;exact ⟨sl2,e3⟩
 ·refine (I.hok b u e).stay (λc v hc z=>stayB c v z λhf=>?_) (λ_ z=>z) λ_ _ z=>z;have n0:H c=none:=by rw [<- hstk] at hf;exact I.stkFree c hf
  rcases hc with rfl | hc
  ·rw [e] at n0;cases n0
  ·rw [hc] at n0;cases n0
def oZ (C:Addr) (E:XK) (t:TA):TS:=λ_ σ H=>t σ H λxs H1=>xs.length<=sizeLine/\E (.ref C) none H1
theorem ps_raise {E:XK} {x:Str} {C:Addr} {e:Expr} {es:List Expr} {t:TA} {np cpos pos:Pos} (hx:A7 X E) (hstk:X.stack=X.env :: X.outer) (hfr:X.env.frame=some X.env.locals) (hex:X.ex=[]) (hc:X.calm=true) (G:ExC X.K X.mg x C) (hg:Gl X x) (ha:PA X (e :: es) t)
  (hdb:(x == ("__debug__" : Str))=false:=by decide) (he:starEach (e :: es) X.env=(false,eval e X.env) :: starEach es X.env:=by rfl) (hpl:(backTo cpos (starEach es X.env)).any (·.1)=false:=by rfl) :
  PS X (.Raise (some (.Call (.Name x np) (e :: es) [] cpos)) none pos) (oZ C E t):=by
 intro pins s σ H D I h;obtain ⟨bm,N,nm,qn,bs,hd,sn,sub,ab,col,dd,k0,k1,k2,k3,k5,mN,hC,hN,hni,T⟩:=iP I.ok.mod.kin G.q;refine wpAny_Raise_call_subT (C:=C) (nm:=nm) (q:=qn) (N:=N) (bs:=bs) (bm:=bm) (hdct:=hd) (sn:=sn) (sub:=sub) (ab:=ab) (col:=col) (dd:=dd) (k0:=k0) (k1:=k1) (k2:=k2) (k3:=k3) (k5:=k5) F.excBase_ValueError (mN:=mN) (T.hasType F.excBase_ValueError.hasBase) (I.ok.hd hc)
  (by rw [he];show (false || (backTo cpos (starEach es X.env)).any (·.1))=false;rw [hpl];rfl) hni (aY I hg G.m ⟨rfl,?_⟩ hdb)
 have z:=ha cpos pins s σ H _ I h;rw [he] at z ⊢;refine Calls.evalArgs_plain (wpAny_mono z (λus s2 ⟨vs,H2,I2,r,hz,q⟩=>?_) λ_ _ y=>y);refine ⟨rfl,by show us.length<=sizeLine;rw [<- r.length];exact hz,I2.bk _ _ hC,hN.keeps I2.bk,T.keeps I2.bk,λh' ea hm=>?_⟩;exact tP (tk:=s2.toks) hx hstk hfr hex I2 hm q
end
theorem Fun.okE {P:Program} {w:World} {K:W.Frag} {mg:Str->Option Value} {base:Heap} {x qual:Str} {st:Stmt} {f:Addr} {fd:FuncData} {N ps:List Str} {k:Nat} {sp:Sp} (F:Fun K x qual st f fd) (S:FnScope N ps (aa st)) (len:∀ vs H Q E,sp vs H Q E->vs.length=ps.length)
  (hbody:∀ (cdv:Value) (A:Around) (outer:List Env) (s:Shared) (H:Hp) (vs:List V) (Q:VK) (E:XK),Room k (A.deeper (envOfC qual (aa st) s.heap.objs.size f cdv))->sp vs H Q E ->
   ∃ t,PSs (eZ (CXE P w) P w K mg base N qual (aa st) f cdv A outer s H E) (aX st) t/\t { nx:=λ_ H'=>Q .non H',rt:=Q } (start N vs) H):FnOk P w K mg base (CXE P w) (k+1) f fd ps sp:=by
 obtain ⟨oc,od,kV,doc,pm,an,cdv,ct,osl,rfl,lk,hcd⟩:=F.ex;exact mJ lk hcd S len λA outer s H vs Q E hr hsp=>hbody cdv A outer s H vs Q E hr hsp
theorem xeOf {P:Program} {w:World} {K:W.Frag} {mg:Str->Option Value} {base:Heap} {N:List Str} {qual:Str} {scope:Scope} {f:Addr} {cd:Value} {A:Around} {outer:List Env} {s:Shared} {H:Hp} {E:XK} :
  A7 (eZ (CXE P w) P w K mg base N qual scope f cd A outer s H E) E:=rfl
theorem mX {P:Program} {w:World} {H:Hp} {h:Heap} {a:Addr} (hok:HOk P w H h) (hp:h.get? a=none):H a=none:=by
 cases q:H a with
 | none=>rfl
 | some u =>
  have w':=hok a u q
  exfalso
  cases u with
  | lst xs=>obtain ⟨_,its,n,_,e⟩:=w';rw [hp] at e;cases e
  | tup xs=>obtain ⟨_,its,_,ob,e,_⟩:=w';rw [hp] at e;cases e
  | dK kvs=>obtain ⟨_,_,vs,_,ob,es,ep,e,_⟩:=w';rw [hp] at e;cases e
  | dT kvs=>obtain ⟨_,_,xs,_,ob,es,ep,e,_⟩:=w';rw [hp] at e;cases e
  | set S n=>obtain ⟨ob,es,ep,t,e,_⟩:=w';rw [hp] at e;cases e
  | ins C dx fs=>obtain ⟨_,_,_,e,_⟩:=w';rw [hp] at e;cases e
  | own y=>obtain ⟨ob,e⟩:=w';rw [hp] at e;cases e
  | xd fs=>obtain ⟨mA,⟨od,es,ep,e,_⟩,_⟩:=w';rw [hp] at e;cases e
  | rng lo hi=>obtain ⟨t,u,v,e⟩:=w';rw [hp] at e;cases e
  | frz ob u=>obtain ⟨e,_⟩:=w';rw [hp] at e;cases e
  | tbl ps=>have e:h.get? a=some { cls:=.none,data:=.fields ps }:=w';rw [hp] at e;cases e
  | met f y=>have e:h.get? a=some (W.methodObj (.ref f) (.ref y)):=w';rw [hp] at e;cases e
  | ext φ=>obtain ⟨_,⟨o,e⟩,_⟩:=w';rw [hp] at e;cases e
def hcx (X:Cx) (ea:Addr):Cx:={ X with A:=X.A.mark (some (.ref ea)),calm:=false,xe:=λ_ _=>False }
section
variable {X:Cx} {pins:List (Addr×Obj)} {σ:St} {H:Hp} {s:Shared}
theorem Cx.Ok.hcx (ok:X.Ok) (ea:Addr):(hcx X ea).Ok :=
 ⟨ok.mod,ok.kind,ok.glob,ok.blt,ok.above,ok.inj,ok.has,ok.cab,λz=>absurd z (by show ¬ (false=true);decide),ok.frames,ok.stk,ok.exf,ok.bs,ok.bsz,ok.noex,ok.exfs,ok.funs,ok.frf⟩
theorem Inv.hcx (I:Inv X pins σ H s) (ea:Addr):Inv (hcx X ea) pins σ H s:=⟨I.ok.hcx ea,I.os,I.bare,I.base,I.loc,I.cell,I.free,I.freeC,I.pin,I.hok,I.len⟩
theorem Inv.unhcx {ea:Addr} (I:Inv (L2.hcx X ea) pins σ H s) (ok:X.Ok):Inv X pins σ H s:=⟨ok,I.os,I.bare,I.base,I.loc,I.cell,I.free,I.freeC,I.pin,I.hok,I.len⟩
theorem Inv.goes {i:Nat} {n:Str} {pos:Pos} {M:Model} {A:Around} {E:Value->Shared->Prop} {Q:Unit->Shared->Prop} (I:Inv X pins σ H s) (hN:X.N.Nodup) (hi:X.N[i]?=some n) (hl:X.env.scope.names.lookup n=some .local)
  (h:∀ s',Inv X pins (σ.set i none) H s'->Q () s'):wpAny M A (do bindName X.env n .none;unbindBehindTheSuite X.env n pos) Q E s:=by
 obtain ⟨m,hn,hlk⟩:=id I.loc;have hcls:(X.env.scope.kind == .class || (X.env.scope.kind == .module && X.env.locals != X.env.globals))=false:=by rw [I.ok.kind];rfl
 have hiσ:i < σ.length:=by rw [I.len];exact (aAc.mp hi).1
 have cne:=I.cne;refine wpAny_nameGoes_keeps hl hn hcls λh' v hn' hs=>?_;have neL:∀ b o,X.s₀.heap.get? b=some o->b≠X.env.locals:=λb o e=>aAk (aAd (aAb e) I.ok.above);refine h _ ⟨I.ok,I.os,I.bare,⟨λb o e n hb hx=>?_,λb o e n hb hx=>?_,I.base.free,λb o e hx=>?_,I.base.tups,I.base.frzs,I.base.tbls⟩,⟨_,hn',λj y v' e1 e2 e3=>?_⟩,λy c e=>?_,I.free,I.freeC,λp hp=>?_,λb u e=>?_,by simpa using I.len⟩
 ·exact (hs.2 b (neL b o e)).trans (I.base.keep b o e n hb hx)
 ·obtain ⟨sl,e1⟩:=I.base.slot b o e n hb hx;exact ⟨sl,(hs.2 b (neL b o e)).trans e1⟩
 ·obtain ⟨o',e1⟩:=I.base.there b o e hx;exact ⟨o',(hs.2 b (neL b o e)).trans e1⟩
 ·by_cases hj:j=i
  ·subst hj;rw [aBn hiσ] at e2
   cases e2
  ·rw [aBs (Ne.symm hj)] at e2;obtain ⟨u',r',q⟩:=hlk j y v' e1 e2 e3;refine ⟨u',r',?_⟩;rcases q with ⟨k,e⟩ | ⟨k,c,e,z⟩
   ·refine .inl ⟨k,?_⟩;have:y≠n:=λe=>hj (iW hN e1 (e ▸ hi));simp [this,e]
   ·exact .inr ⟨k,c,e,z.sameBut hs (cne y c e)⟩
 ·obtain ⟨w',z⟩:=I.cell y c e;exact ⟨w',z.sameBut hs (cne y c e)⟩
 ·obtain ⟨e,n,ne,nf,d⟩:=I.pin p hp;exact ⟨(hs.2 p.1 ne).trans e,n,ne,nf,d⟩
 ·refine (I.hok b u e).stay (λc w' hc q=>(hs.2 c ?_).trans q) (λ_ q=>q) λ_ _ q=>q;rintro rfl;rcases hc with rfl | hc
  ·rw [I.free] at e;cases e
  ·rw [I.free] at hc;cases hc
abbrev TX:=St->Hp->VK->XK->Prop
end
section
variable {X:Cx} {a b c d:Expr} {ta tb tc td:TE} {pos:Pos}
def vI (r r' r'':R2) (ta tb tc td:TE):TE:=λσ H Q=>ta σ H λx H1=>tb σ H1 λy H2=>r x y H2 λz H3=>∃ k,z=.bl k /\
 (if k=true then tc σ H3 λy' H4=>r' y y' H4 λz' H5=>∃ k',z'=.bl k'/\(if k'=true then td σ H5 λw' H6=>r'' y' w' H6 Q else Q (.bl false) H5) else Q (.bl false) H3)
theorem pe_chain3 {op op' op'':CmpOp} {r r' r'':R2} (ho:OpR X (compareOp op) r) (ho':OpR X (compareOp op') r') (ho'':OpR X (compareOp op'') r'') (ha:PE X a ta) (hb:PE X b tb) (hc:PE X c tc) (hd:PE X d td)
  (hm:lastMarks [op,op',op''] [b,c,d]=false:=by with_unfolding_all rfl):PE X (.Compare a [op,op',op''] [b,c,d] pos) (vI r r' r'' ta tb tc td):=by
 intro pins s σ H Q I h;refine Compare_chain (thn (ha pins s σ H _ I h) λv s1 ⟨x,H1,I1,r1,q1⟩=>chain_link (thn (hb pins s1 σ H1 _ I1 q1) λu s2 ⟨y,H2,I2,r2,q2⟩ =>
  thn (ho pins s2 σ H2 x y v u _ I2 r1 r2 q2) λd' s3 ⟨z,H3,I3,r3,k,e,q3⟩=>?_)) hm
 subst e
 cases r3
 refine wpAny_truthy_bool ?_
 cases k with
 | false=>exact ite_ff ⟨.bl false,H3,I3,rfl,q3⟩
 | true =>
  refine ite_tt (chain_link (thn (hc pins s3 σ H3 _ I3 q3) λw' s4 ⟨z',H4,I4,r4,q4⟩=>thn (ho' pins s4 σ H4 y z' u w' _ I4 r2 r4 q4) λd2 s5 ⟨z2,H5,I5,r5,k2,e2,q5⟩=>?_));subst e2
  cases r5
  refine wpAny_truthy_bool ?_
  cases k2 with
  | false=>exact ite_ff ⟨.bl false,H5,I5,rfl,q5⟩
  | true=>exact ite_tt (chain_last (thn (hd pins s5 σ H5 _ I5 q5) λw2 s6 ⟨z3,H6,I6,r6,q6⟩=>ho'' pins s6 σ H6 z' z3 w' w2 Q I6 r4 r6 q6))
end
def jL (D:List (Str×Int)):List (Str×KTD.Dat):=D.map λp=>(p.1,.flat (.int p.2))
def mY (K:W.Frag) (a:Addr) (D:List (Str×Int)):Prop:=∀ h,K.In h->KTD.TextTab h a (jL D)
theorem tQ {K:W.Frag} {a:Addr} {D:List (Str×Int)} (e:KTD.tabLook (KTD.datLooks λb=>K.lookup b) (λb=>K.lookup b) a (jL D)=true):mY K a D:=λh X=>KTD.text_of_look (λb o q=>X b o q) e
def bL (k:Str):List (Str×Int)->V
 | []=>.non
 | (x,i) :: D=>if k=x then .int i else bL k D
theorem kC {k:Str}:∀ {D:List (Str×Int)} {d:KTD.Dat},KTD.datumAt k (jL D)=some d->∃ i,d=.flat (.int i)/\bL k D=.int i
 | [],_,h=>by simp [jL,KTD.datumAt] at h
 | (x,i) :: D,d,h=>by
  simp only [jL,aAS,KTD.datumAt,decide_eq_true_eq] at h
  by_cases hk:k=x
  ·rw [if_pos hk] at h;exact ⟨i,(Option.some.inj h).symm,by simp [bL,hk]⟩
  ·rw [if_neg hk] at h;obtain ⟨j,e1,e2⟩:=kC (D:=D) h;exact ⟨j,e1,by simp [bL,hk,e2]⟩
theorem kD {k:Str}:∀ {D:List (Str×Int)},KTD.datumAt k (jL D)=none->bL k D=.non
 | [],_=>rfl
 | (x,i) :: D,h=>by
  simp only [jL,aAS,KTD.datumAt,decide_eq_true_eq] at h
  by_cases hk:k=x
  ·rw [if_pos hk] at h;cases h
  ·rw [if_neg hk] at h;simp [bL,hk,kD (D:=D) h]
section
variable {X:Cx}
def IR (D:List (Str×Int)) (t:TA):TE:=λσ H Q=>t σ H λvs H1=>∃ k,vs=[.str k]/\Q (bL k D) H1
theorem pe_kget {x:Str} {ad:Addr} {D:List (Str×Int)} {e:Expr} {t:TA} {p apos cpos:Pos} (hD:mY X.K ad D) (hg:Gl X x) (hm:X.mg x=some (.ref ad)) (ha:PA X [e] t) (hdb:(x == ("__debug__" : Str))=false:=by decide)
  (hbase:attributeBase (.Name x p) "get" X.env (eval (.Name x p) X.env)=eval (.Name x p) X.env:=by rfl)
  (hfew:((backTo cpos (starEach [e] X.env)).all (λx=>!x.1) && (backToKw cpos (keywordEach [] X.env)).all (λx=>x.1.isSome)
   && decide (([e]:List Expr).length+([]:List Keyword).length+(if ([]:List Keyword).isEmpty then 0 else 1) < 30))=true:=by rfl)
  (hline:(apos.endLine == cpos.line)=true:=by rfl) (hs:starEach [e] X.env=(false,eval e X.env) :: starEach [] X.env:=by rfl) :
  PE X (.Call (.Attribute (.Name x p) "get" apos) [e] [] cpos) (IR D t):=by
 intro pins s σ H Q I h;refine wpAny_Call_method_late hbase hfew hline rfl (aY I hg hm ?_ hdb);have T:∀ {s':Shared} {σ':St} {H':Hp} {pins':List (Addr×Obj)},Inv X pins' σ' H' s'->KTD.Here X.base s'.heap ad (jL D):=λJ=>⟨hD _ J.ok.mod.kin,J.bk⟩;refine ⟨"dict","dict.get",PySem.F.plainAttrs_dict,PySem.F.slot_dict_get,PySem.F.type_dict_get,(T I).typeIs,(T I).noDict,?_⟩;have hA:=ha cpos pins s σ H _ I h;rw [hs] at hA ⊢;refine Calls.callWith_builtin (0) (Calls.evalArgs_plain ?_);refine thn hA λus s2 ⟨vs,H2,I2,r2,k,e2,q2⟩=>?_;subst e2;obtain ⟨u,rfl,ru⟩:=cq r2;obtain ⟨tk,rfl⟩:=ru;refine call_meetsIn PySem.F.slot_dict_get (T I2).typeIs PySem.F.entry_dict_get (PySem.F.args_dict_get_2 _ _) (KTD.meets_get1 (h₀:=X.base) (D:=jL D)) ⟨T I2,λdd v hdd hv=>?_,λhn=>?_⟩
 ·obtain ⟨i,rfl,el⟩:=kC hdd;have hv':Reads s2.heap v (.int i) []:=hv s2.heap;obtain ⟨t0,rfl⟩:∃ t0,v=.int i t0:=by cases hv';exact ⟨_,rfl⟩
  rw [el] at q2;exact ⟨.int i,H2,I2.tok _,⟨_,rfl⟩,q2⟩
 ·rw [kD hn] at q2;exact ⟨.non,H2,I2.tok _,rfl,q2⟩
end
theorem csR {X:Cx} {scope sc:Scope} {NL N N':List Str} {ρ:List Nat} (hsc:X.env.scope=sc) (hN:X.N=N) (h1:scope.kind=.function) (h2:(scope.names.all λx=>x.2 != .cell)=true) (h3:∀ x∈scope.names,x.2=.local->scope.names.lookup x.1=some .local)
  (h4:(scope.names.all λx=>x.2 != .free || sc.names.lookup x.1 == some .cell)=true) (h5:N'=NL++ρ.map λj=>N.getD j "")
  (h6:(ρ.all λj=>match N[j]? with | some x=>scope.names.lookup x == some .free && sc.names.lookup x == some .cell | none=>false)=true):CScope X scope NL ρ N':=by
 rw [aAG] at h2 h4 h6;refine ⟨h1,λx hx e=>?_,h3,λx hx e=>.inl ?_,by rw [hN];exact h5,λj hj=>?_⟩
 ·have:=h2 x hx;rw [e] at this;exact absurd this (1)
 ·have z:=h4 x hx;rw [e] at z;have z2:(sc.names.lookup x.1 == some NameKind.cell)=true:=by simpa using z
  show X.env.scope.names.lookup x.1=some .cell;rw [hsc];exact beq_iff_eq.mp z2
 ·have z:=h6 j hj
  cases q:N[j]? with
  | none=>rw [q] at z;cases z
  | some x =>
   rw [q] at z;simp only [aAq,beq_iff_eq] at z;exact ⟨x,by rw [hN];exact q,z.1,.inl (by rw [hsc];exact z.2)⟩
theorem A8:bootBuiltins "ValueError" = some (.type "ValueError"):=by decide +kernel
structure RoomH (k:Nat) (A:Around):Prop where
 dp:A.depth+3*k+5 < recursionLimit
 un:A.units+16*k+200 < cLine
theorem Room.toH {k:Nat} {A:Around} (r:Room k A) (h:Option Value):RoomH k (A.mark h):=⟨r.dp,r.un⟩
theorem RoomH.deeper {k:Nat} {A:Around} (r:RoomH (k+1) A) (env:Env):RoomH k (A.deeper env) :=
 ⟨by have:=r.dp;show A.depth+1+3*k+5 < _;lia,by have:=r.un;show A.units+3+16*k+200 < _;lia⟩
structure FnOkH (P:Program) (w:World) (K:W.Frag) (mg:Str->Option Value) (base:Heap) (k:Nat) (f:Addr) (fd:FuncData) (ps:List Str) (sp:Sp):Prop where
 len:∀ vs H Q E,sp vs H Q E->vs.length=ps.length
 run:∀ (A:Around) (outer:List Env) (s:Shared) (H:Hp) (args:Args) (us:List Value) (vs:List V) (Q:VK) (E:XK),RoomH k A->Env0 P w K mg base A outer s H->BindsTo s fd args (ps.zip us)->Vals vs us->sp vs H Q E ->
  codeAny (model P w) A (.call (.ref f) args) (CR CX0 outer P w H s Q E) s
def cxH (P:Program) (w:World) (K:W.Frag) (mg:Str->Option Value) (base:Heap) (N:List Str) (qual:Str) (scope:Scope) (f:Addr) (cd:Value) (A:Around) (outer:List Env) (s:Shared) (H:Hp) (E:XK):Cx :=
 { eZ CX0 P w K mg base N qual scope f cd ({ A with handled:=none }:Around) outer s H E with A:=A.deeper (envOfC qual scope s.heap.objs.size f cd),calm:=false,xe:=λ_ _=>False }
section
variable {X:Cx}
end
end L2
namespace HT
open PySem PySem.Spec PyProof.Rows
section
variable {prog:Program} {w:World} {A:Around} {E:Value->Shared->Prop} {s:Shared}
theorem cat_nil {t b:Addr} {ws:List Value} {Q:Value->Shared->Prop} (ht:IsTup s.heap t ([]:List Value).toArray) (hb:IsTup s.heap b ws.toArray) (h:Q (.ref b) s):wpAny (model prog w) A (binaryOp .Add (.ref t) (.ref b)) Q E s:=by
 obtain ⟨⟨cls,dd,data,sl⟩,ho,hc,n,hd⟩:=id ht;obtain ⟨⟨cls2,dd2,data2,sl2⟩,ho2,hc2,n2,hd2⟩:=id hb;simp only at hc hd hc2 hd2;subst hc hd hc2 hd2;exact concat_meets ⟨_,ho,rfl⟩ ⟨_,ho2,rfl⟩ noFill_tuple_add seq_tuple_add PySem.F.slot_tuple_add PySem.F.entry_tuple_add (PySem.F.args_tuple_add_2 _ _) (tuple_addW0 t b _ ws.toArray n n2 dd dd2 sl sl2 (0)) ⟨ho,ho2,h⟩
theorem getItem_tuple_all {t sl:Addr} {items:Array Value} {vl vu:Value} {lo hi:Option Int} {Q:Value->Shared->Prop} (ht:IsTup s.heap t items) (hs:s.heap.IsSliceOf sl vl vu .none) (pl:IsPart vl lo) (pu:IsPart vu hi)
  (h1:sIx items.size 0 lo=0) (h2:sIx items.size items.size hi=items.size) (h:Q (.ref t) s):wpAny (model prog w) A (getItem (.ref t) (.ref sl)) Q E s:=by
 obtain ⟨os,hos,hcs,hds⟩:=id hs;have hTs:s.TypeIs (.ref sl) "slice" :=⟨os,hos,hcs⟩;unfold getItem
 try with_reducible refine wpAny_holding ?_
 first | refine wpAny_bind (wpAny_pure ?_) | skip
 refine wpAny_bind (wpAny_sequenceKey ht.typeIs (1) ?_);refine wpAny_bind (wpAny_callSpecial?_slot (name:=Str.ofString "__getitem__") ht.typeIs PyProof.Rows.slot_tuple_getitem (wpAny_call_entry PyProof.Rows.slot_tuple_getitem ht.typeIs entry_tuple_getitem ?_ (args_tuple_getitem _ _)));show wpAny _ _ (Builtin.Tuple.tupleItemsOf (.ref t) >>= _) _ _ s;refine wpAny_bind (tupleItemsOf_ ht ?_);refine wpAny_bind (wpAny_typeOf hTs ?_);rw [if_pos (1)];refine wpAny_bind (c8 hs pl pu ?_);have hyes:(((sIx items.size 0 lo:Nat):Int) == 0 && (1:Int) == 1 && (sIx items.size items.size hi - sIx items.size 0 lo) == items.size)=true:=by
  rw [h1,h2];simp
 show wpAny _ _ (if (((sIx items.size 0 lo:Nat):Int) == 0 && (1:Int) == 1 && (sIx items.size items.size hi - sIx items.size 0 lo) == items.size)=true then _ else _) _ _ s;rw [if_pos hyes];refine wpAny_bind (m:=Builtin.Tuple.tupleIsExact _) (wpAny_bind (wpAny_typeOf ht.typeIs ?_));refine wpAny_pure ?_;rw [if_pos (1)];exact wpAny_bind (wpAny_rule (wpAny_pure ⟨_,rfl,wpAny_pure h⟩))
end
end HT
namespace L2
open PySem PySem.Spec PyProof.Rows
section
variable {X:Cx}
theorem IsD.unref {K:W.Frag} {H:Hp} {l:List Dt} {v:V} (h:IsD K H (.tup l) v):∃ a xs,v=.ref a/\SqT K H a xs/\IsDs K H l xs:=by
 cases h with
 | tup h r=>exact ⟨_,_,rfl,h,r⟩
def jM (l:List Dt) (lo hi:Option Int):List Dt:=(l.drop (HT.sIx l.length 0 lo)).take (HT.sIx l.length l.length hi - HT.sIx l.length 0 lo)
theorem rJ:aS X (.builtin "len") (λxs H Q=>∃ x l,xs=[x]/\IsD X.K H (.tup l) x/\Q (.int l.length) H):=by
 intro pins s σ H xs us Q I r h;obtain ⟨x,l,rfl,dx,q⟩:=h;obtain ⟨a,ys,rfl,hx,ra⟩:=dx.unref;exact fR pins s σ H [.ref a] us Q I r ⟨a,ys,rfl,.inr hx,by rw [<- ra.length];exact q⟩
end
end L2
namespace PySem
open Sem (wp)
section
variable {M:Model} {A:Around} {E:Value->Shared->Prop} {s:Shared}
end
end PySem
namespace L2
open PySem PySem.Spec PyProof.Rows
section
variable {X:Cx} {E:XK}
theorem iQ {H':Hp} {B h h2:Heap} (frf:∀ b∈frs X.outer,X.H₀ b=none) (u:Un (frs X.outer) [] X.H₀ H' X.s₀.heap h) (F:h.FunFrames B (X.env :: X.outer)) (up:h.UpToSlots h2) (st:B.StaysIn h2)
  (c1:∀ b o,X.s₀.heap.get? b=some o->X.H₀ b=none->b∉frs X.outer->B.get? b=some o) (c2:∀ b o,X.s₀.heap.get? b=some o->b∉frs X.outer->∃ o',B.get? b=some o'):Un (frs X.outer) [] X.H₀ H' X.s₀.heap h2:=by
 refine eg u c1 c2 st λb o e hb=>?_;obtain ⟨sl,e1⟩:=u.slot b o e (frf b hb) hb (by simp);have mem:b∈frs (X.env :: X.outer):=by
  obtain ⟨env,he,hf⟩:=aAl.mp hb;exact aAl.mpr ⟨env,aAp _ he,hf⟩
 obtain ⟨o2,e2,nf⟩:=cv F mem;rw [e1] at e2;obtain rfl:=Option.some.inj e2;obtain ⟨sl2,e3⟩:=up b _ e1 nf;exact ⟨sl2,e3⟩
variable {pins:List (Addr×Obj)} {σ:St} {H:Hp} {s:Shared}
end
section
variable {κ:Type} [DecidableEq κ]
def bC (kvs:List (κ×V)) (k:κ):Option V:=(kvs.find? λkv=>decide (kv.1=k)).map (·.2)
def vJ (kvs:List (κ×V)) (k:κ) (v:V):List (κ×V) :=
 if (kvs.any λkv=>decide (kv.1=k))=true then kvs.map (λkv=>if kv.1=k then (kv.1,v) else kv) else kvs++[(k,v)]
theorem mZ {p:κ×V} {r:List (κ×V)} {k:κ} (e:p.1=k):bC (p :: r) k=some p.2:=by simp [bC,aAZ,e]
theorem m5 {p:κ×V} {r:List (κ×V)} {k:κ} (e:¬ p.1=k):bC (p :: r) k=bC r k:=by simp [bC,aAZ,e]
theorem KV.val {kvs:List (κ×V)} {vs:List (κ×Value)} (r:KV kvs vs) (k:κ):RelO (bC kvs k) (valueAt vs k):=by
 unfold KV at r
 induction r with
 | nil=>exact True.intro
 | @cons p q ps qs h t ih =>
  obtain ⟨h1,h2⟩:=h
  by_cases e:p.1=k
  ·have e':q.1=k:=h1.symm.trans e;have b:valueAt (q :: qs) k=some q.2:=by simp [valueAt,aAZ,e']
   rw [mZ e,b];exact h2
  ·have e':¬ q.1=k:=λz=>e (h1.trans z);have b:valueAt (q :: qs) k=valueAt qs k:=by simp [valueAt,aAZ,e']
   rw [m5 e,b];exact ih
theorem KV.any {kvs:List (κ×V)} {vs:List (κ×Value)} (r:KV kvs vs) (k:κ):(kvs.any λkv=>decide (kv.1=k))=vs.any λkv=>decide (kv.1=k):=by
 unfold KV at r
 induction r with
 | nil=>rfl
 | cons h t ih=>rw [aA5,aA5,ih,h.1]
theorem KV.keys {kvs:List (κ×V)} {vs:List (κ×Value)} (r:KV kvs vs):kvs.map (·.1)=vs.map (·.1):=by
 unfold KV at r
 induction r with
 | nil=>rfl
 | cons h t ih=>rw [aAS,aAS,ih,h.1]
theorem KV.length {kvs:List (κ×V)} {vs:List (κ×Value)} (r:KV kvs vs):kvs.length=vs.length:=Paired.length r
end
theorem kE {P:Program} {w:World} {k:Key} {u:Value} (r:RelV (kV k) u):(ar P w).is k u=true:=by
 cases k with
 | inl i=>obtain ⟨t,e⟩:=(show ∃ t,u=Value.int i t from r);subst e;exact mB P w i t
 | inr x=>obtain ⟨t,e⟩:=(show ∃ t,u=Value.str x t from r);subst e;exact mC P w x t
theorem gK {P:Program} {w:World}:∀ {ks:List Key} {us:List Value},Vals (ks.map kV) us->ItemsAre (ar P w) ks us
 | [],_,r=>by rw [List.map_nil] at r;cases r;exact .nil
 | k :: ks,_,r=>by
  rw [aAS] at r
  cases r with
  | cons h t=>exact .cons (kE h) (gK t)
abbrev KT (H:Hp):List (List Key×V)->List (List Key×Addr×Value)->Prop:=Paired λp q=>p.1=q.1/\H q.2.1=some (.tup (p.1.map kV))/\RelV p.2 q.2.2
theorem KT.val {H:Hp} {kvs:List (List Key×V)} {xs:List (List Key×Addr×Value)} (r:KT H kvs xs) (k:List Key):RelO (bC kvs k) ((atKey xs k).map (·.2)):=by
 induction r with
 | nil=>exact True.intro
 | @cons p q ps qs h t ih =>
  obtain ⟨h1,_,h2⟩:=h
  by_cases e:p.1=k
  ·have e':q.1=k:=h1.symm.trans e;have b:atKey (q :: qs) k=some q.2:=by simp [atKey,aAZ,e']
   rw [mZ e,b];exact h2
  ·have e':¬ q.1=k:=λz=>e (h1.trans z);have b:atKey (q :: qs) k=atKey qs k:=by simp [atKey,aAZ,e']
   rw [m5 e,b];exact ih
theorem KT.keeps {H H':Hp} {kvs:List (List Key×V)} {xs:List (List Key×Addr×Value)} (r:KT H kvs xs) (ht:∀ b ys,H b=some (.tup ys)->H' b=some (.tup ys)):KT H' kvs xs :=
 Paired.mapP r λ_ _ z=>⟨z.1,ht _ _ z.2.1,z.2.2⟩
section
variable {P:Program} {w:World} {H:Hp} {h:Heap} {a:Addr}
theorem wY {u:HO} (ok:HOk P w H h) (e:Rd H a u):ObjOk P w H h a u:=e.ok ok
theorem wZ {kvs:List (Key×V)} (ok:HOk P w H h) (e:Rd H a (.dK kvs)):kvs.length<=sizeLine/\(a == sysModules)=false/\∃ vs,KV kvs vs/\h.DictOf (ar P w) a vs :=
 show ObjOk P w H h a (.dK kvs) from wY ok e
theorem tR {ks:List Key} (ok:HOk P w H h) (e:H a=some (.tup (ks.map kV))):(tupleKind (ar P w)).is h ks a:=by
 obtain ⟨_,its,r,o,h1,h2,n,h3⟩:=(show ObjOk P w H h a (.tup (ks.map kV)) from ok a _ e);exact ⟨o,its.toArray,n,h1,h2,h3,by simpa using gK r⟩
theorem w9 {kvs:List (List Key×V)} (ok:HOk P w H h) (e:Rd H a (.dT kvs)):kvs.length<=sizeLine/\(a == sysModules)=false /\
  ∃ xs,KT H kvs xs/\h.DictOfH (tupleKind (ar P w)) a xs:=by
 obtain ⟨z,y,xs,r,o,es,ep,h1,h2,h3,h4,h5⟩:=(show ObjOk P w H h a (.dT kvs) from wY ok e);refine ⟨z,y,xs,r,o,es,ep,h1,h2,h3,h4,λx hx=>?_,h5⟩;have all:∀ {l:List (List Key×V)} {m:List (List Key×Addr×Value)},KT H l m->∀ x∈m,(tupleKind (ar P w)).is h x.1 x.2.1:=by
  intro l m q
  induction q with
  | nil=>intro x hx;exact nomatch hx
  | @cons p q ps qs hq t ih =>
   intro x hx;rcases aAm.mp hx with e | hx
   ·subst e;exact tR ok (by rw [<- hq.1];exact hq.2.1)
   ·exact ih x hx
 exact all r x hx
end
def DGet (H:Hp) (a:Addr) (y:V) (r:Option V):Prop :=
 (∃ kvs k,Rd H a (.dK kvs)/\y=kV k/\r=bC kvs k)\/∃ kvs k b,Rd H a (.dT kvs)/\y=.ref b/\H b=some (.tup (k.map kV))/\r=bC kvs k
def DPut (H:Hp) (a:Addr) (y v:V) (H':Hp):Prop :=
 (∃ kvs k,H a=some (.dK kvs)/\y=kV k/\kvs.length < sizeLine/\H'=upd H a (.dK (vJ kvs k v))) \/
 ∃ kvs k b,H a=some (.dT kvs)/\y=.ref b/\H b=some (.tup (k.map kV))/\kvs.length < sizeLine/\H'=upd H a (.dT (vJ kvs k v))
theorem DGet.k {H:Hp} {a:Addr} {kvs:List (Key×V)} {k:Key} (e:H a=some (.dK kvs)):DGet H a (kV k) (bC kvs k):=.inl ⟨kvs,k,.inl e,rfl,rfl⟩
theorem DGet.t {H:Hp} {a b:Addr} {kvs:List (List Key×V)} {k:List Key} (e:H a=some (.dT kvs)) (eb:H b=some (.tup (k.map kV))):DGet H a (.ref b) (bC kvs k):=.inr ⟨kvs,k,b,.inl e,rfl,eb,rfl⟩
theorem DPut.k {H:Hp} {a:Addr} {kvs:List (Key×V)} {k:Key} {v:V} (e:H a=some (.dK kvs)) (hl:kvs.length < sizeLine):DPut H a (kV k) v (upd H a (.dK (vJ kvs k v))):=.inl ⟨kvs,k,e,rfl,hl,rfl⟩
theorem DPut.t {H:Hp} {a b:Addr} {kvs:List (List Key×V)} {k:List Key} {v:V} (e:H a=some (.dT kvs)) (eb:H b=some (.tup (k.map kV))) (hl:kvs.length < sizeLine) :
  DPut H a (.ref b) v (upd H a (.dT (vJ kvs k v))):=.inr ⟨kvs,k,b,e,rfl,eb,hl,rfl⟩
section
variable {X:Cx} {pins:List (Addr×Obj)} {σ:St} {H:Hp} {s:Shared} {a:Addr} {y v:V} {u r:Value} {o:Option V} {A:Around} {E:Value->Shared->Prop}
theorem Inv.big (I:Inv X pins σ H s):sysModules < s.heap.objs.size:=by
 have h:mainGlobals < s.heap.objs.size:=(I.mod.glob.keeps I.bk).lt;exact aBf (1) h
theorem rK {Q:Value->Shared->Prop} (hu:A.units+1 < cLine) (I:Inv X pins σ H s) (g:DGet H a y (some v)) (ry:RelV y u) (h:∀ w' s',Inv X pins σ H s'->RelV v w'->Q w' s') :
  wpAny (model X.prog X.w) A (getItem (.ref a) u) Q E s:=by
 rcases g with ⟨kvs,k,e,ey,l⟩ | ⟨kvs,k,b,e,ey,eb,l⟩
 ·subst ey;obtain ⟨z,hd,vs,rel,dd⟩:=wZ I.hok e;obtain ⟨w',hw,rw'⟩:=RelO.some_of (v:=v) (o:=valueAt vs k) (by rw [l];exact rel.val k);exact wpAny_getItem_of (kE ry) dd.mapOf hw (h w' _ (I.tok _) rw')
 ·subst ey
  cases (show u=Value.ref b from ry)
  obtain ⟨z,hd,xs,rel,dd⟩:=w9 I.hok e;obtain ⟨w',hw,rw'⟩:=RelO.some_of (v:=v) (o:=(atKey xs k).map (·.2)) (by rw [l];exact rel.val k);obtain ⟨p,hp,hp2⟩:=aAE.mp hw;refine wpAny_getItem_heap (tupleKind_room_in1 hu) (tR I.hok eb) dd hp ?_;rw [hp2];exact h w' _ (I.tok _) rw'
theorem tT {P:Program} {w:World} {H':Hp} {h':Heap} {kvs:List (Key×V)} {vs:List (Key×Value)} (z:kvs.length<=sizeLine) (hd:(a == sysModules)=false) (rel:KV kvs vs) (dd:h'.DictOf (ar P w) a vs) :
  ObjOk P w H' h' a (.dK kvs):=⟨z,hd,vs,rel,dd⟩
end
section
variable {X:Cx} {pins:List (Addr×Obj)} {σ:St} {H:Hp} {s:Shared} {a:Addr} {kvs:List (Key×V)} {k:Key} {u:Value} {A:Around} {E:Value->Shared->Prop}
end
def IS (i:Expr):Prop:=∀ ov iv,subscripted i false ov iv=operate [ov,iv] (getItem ov iv)
theorem vK {prog:Program} {w:World} {A:Around} {E:Value->Shared->Prop} {s:Shared} {env:Env} {value slice:Expr} {pos:Pos} {T id:String} {Q:Value->Shared->Prop}
  (hl:typeLookup (.type T) "__getitem__" = pure (some (.builtin id))) (hs:IS slice)
  (h:wpAny (model prog w) A (eval value env) (λo s₁=>wpAny (model prog w) A (eval slice env) (λi s₂=>s₂.TypeIs o T/\wpAny (model prog w) A (getItem o i) Q E s₂) E s₁) E s) :
  wpAny (model prog w) A (eval (.Subscript value slice pos) env) Q E s:=by
 refine Subscript_ (wpAny_mono h (λo s₁ h₁=>wpAny_mono h₁ (λi s₂ h₂=>?_) λ_ _ x=>x) λ_ _ x=>x);obtain ⟨hT,h₂⟩:=h₂;unfold subscriptTail;refine wpAny_bind ?_;rw [getitemInPython_of_ne hT.not_modules];refine wpAny_bind (wpAny_specialOf hT hl ?_);have fin:wpAny (model prog w) A (subscripted slice false o i) (λr s₃=>wpAny (model prog w) A (letTemporaryGo value o r >>= λ_=>pure r) Q E s₃) E s₂:=by
  rw [hs o i];exact wpAny_operating (wpAny_mono h₂ (λr s₃ h₃=>wpAny_bind (wpAny_letTemporaryGo (wpAny_pure h₃))) λ_ _ x=>x)
 first
  | exact wpAny_pure (wpAny_bind fin)
  | exact wpAny_bind (wpAny_pure (wpAny_bind fin))
  | exact wpAny_bind fin
theorem m6 {X:Cx} {pins:List (Addr×Obj)} {σ:St} {H:Hp} {s:Shared} {a:Addr} {y:V} {o:Option V} (I:Inv X pins σ H s) (g:DGet H a y o):s.TypeIs (.ref a) "dict" :=by
 rcases g with ⟨kvs,k,e,_,_⟩ | ⟨kvs,k,b,e,_,_,_⟩
 ·obtain ⟨_,_,vs,_,dd⟩:=wZ I.hok e;exact dd.typeIs
 ·obtain ⟨_,_,xs,_,dd⟩:=w9 I.hok e;exact dd.typeIs
def IT (td ty:TE):TE:=λσ H Q=>td σ H λx H1=>ty σ H1 λy H2=>∃ a v,x=.ref a/\DGet H2 a y (some v)/\Q v H2
section
variable {X:Cx} {o i e value:Expr} {pos pos' tpos:Pos} {td ty tv:TE}
theorem iR (hu:X.A.units+1 < cLine) (ho:PE X o td) (hi:PE X i ty) (hs:IS i):PE X (.Subscript o i pos) (IT td ty):=by
 intro pins s σ H Q I h;refine vK PySem.F.slot_dict_getitem.lookup hs (thn (ho pins s σ H _ I h) λu s1 ⟨x,H1,I1,rx,q1⟩=>thn (hi pins s1 σ H1 _ I1 q1) λiv s2 ⟨y,H2,I2,ry,a,v,ex,g,q2⟩=>?_);subst ex;obtain rfl:u=Value.ref a:=rx;exact ⟨m6 I2 g,rK hu I2 g ry λw' s3 I3 rw'=>⟨v,H2,I3,rw',q2⟩⟩
end
section
variable {X:Cx} {pos:Pos}
end
structure M2 (X:Cx) (o:Expr) (m:Str) (apos:Pos) (e f:Expr) (cpos:Pos):Prop where
 base:attributeBase o m X.env (eval o X.env)=eval o X.env
 few:((backTo cpos (starEach [e,f] X.env)).all (λx=>!x.1) && (backToKw cpos (keywordEach [] X.env)).all (λx=>x.1.isSome)
  && decide (([e,f]:List Expr).length+([]:List Keyword).length+(if ([]:List Keyword).isEmpty then 0 else 1) < 30))=true
 line:(apos.endLine == cpos.line)=true
 trees:backTo cpos (starEach [e,f] X.env)=[(false,eval e X.env),(false,eval f X.env)]
section
variable {X:Cx} {pins:List (Addr×Obj)} {σ:St} {H:Hp} {s:Shared} {a:Addr} {y d:V} {u r:Value} {o:Option V} {A:Around} {E:Value->Shared->Prop}
end
section
variable {X:Cx} {o e f:Expr} {apos cpos:Pos} {td ty tx:TE}
end
section
variable {X:Cx} {pins:List (Addr×Obj)} {σ:St} {H:Hp} {s:Shared} {a:Addr} {kvs:List (Key×V)} {A:Around} {E:Value->Shared->Prop}
end
section
variable {X:Cx} {pins:List (Addr×Obj)} {σ:St} {H:Hp} {s:Shared} {a:Addr} {y:V} {u:Value} {A:Around} {E:Value->Shared->Prop}
end
end L2
namespace PySem
open Sem (wp)
namespace F
theorem entry_dict_update_loop:entryFor table "dict.update.loop" = some Builtin.«dict.update.loop»:=entryFor_of_tree (by kernel_rfl)
theorem plain_dict_update_loop:plainId "dict.update.loop" = true:=by decide +kernel
theorem miss_keys_tuple:typeLookup (.type "tuple") "keys" = pure none:=by rw [typeLookup_type,builtinLookup_eq_fast];kernel_rfl
end F
theorem ip {prog:Program} {w:World} {A:Around} {E:Value->Shared->Prop} {s:Shared} {a:Addr} {o:Obj} {xs:Array Value} {k:Nat} {Q:Option Value->Shared->Prop}
  (hx:s.heap.get? a=some o) (hc:o.cls=.type "tuple") (hdat:o.data=.seq xs k) (hd:o.dict=none) (hA:A.handled=none)
  (h:∀ h' tk e,Heap.NewExcOf s.heap h' e "AttributeError" ->Q none { s with heap:=h',toks:=tk }) :
  wpAny (model prog w) A (getAttr? (.ref a) "keys") Q E s:=by
 obtain ⟨c,dct,dat,sl⟩:=o;simp only at hc hdat hd;subst hc hdat hd;obtain ⟨hp,g,d,tk,os⟩:=s;have hT:∀ tk',(⟨hp,g,d,tk',os⟩:Shared).TypeIs (.ref a) "tuple" :=λ_=>⟨_,hx,rfl⟩;have f1:=sub_AttributeError;have f3:=F.slot_tuple_getattribute.lookup;have f4:=F.slot_tuple_getattribute.bind (.ref a);have f5:=am_tuple_getattr_none;unfold getAttr? getAttrBy? getAttrBy
 repeat (any_goals (first | assumption | exact hT _ | ((with_reducible show wpAny _ _ (call (Value.builtin "tuple.__getattribute__") _ _) _ _ _);refine call_meets F.slot_tuple_getattribute (hT _) am_entry_tuple_getattribute (F.args_tuple_getattribute_2 _ _) (meets_getattribute_miss_tuple a xs k sl "keys" _ F.miss_keys_tuple (1)) ⟨hx,hA,λh' tk' e hx'=>?_⟩) | wp_step))
 obtain ⟨t',u',he⟩:=hx'.there;show wpAny _ _ (getattributeRaised _ _ _ _ _ _ _) _ _ _;unfold getattributeRaised
 repeat (any_goals (first | assumption | wp_step))
 all_goals exact h _ _ _ hx'.of
end PySem
namespace PySem
open Sem (wp)
section
variable {prog:Program} {w:World} {K:Type} [DecidableEq K] {knd:KeyKind prog w K} {A:Around} {E:Value->Shared->Prop}
def Heap.PairItems (h:Heap) (knd:KeyKind prog w K) (items:Array Value) (kvs:List (K×Value)):Prop :=
 items.size=kvs.length/\∀ (i:Nat) (kv:K×Value),kvs[i]?=some kv->∃ (a:Addr) (key:Value),items[i]?=some (.ref a)/\h.IsTuple a #[key,kv.2]/\knd.is kv.1 key=true
theorem Heap.PairItems.stay {h h':Heap} {items:Array Value} {kvs:List (K×Value)} (x:h.PairItems knd items kvs) (k:∀ (i:Nat) (a:Addr) (o:Obj),items[i]?=some (.ref a)->h.get? a=some o->h'.get? a=some o):h'.PairItems knd items kvs :=
 ⟨x.1,λi kv e=>by
  obtain ⟨a,key,e1,⟨o,e2,r⟩,e3⟩:=x.2 i kv e;exact ⟨a,key,e1,⟨o,k i a o e1 e2,r⟩,e3⟩⟩
theorem fW {t it d:Addr} {items:Array Value} {kvs:List (K×Value)} {R:Result->Shared->Prop} (hh:A.handled=none) (hdt:t≠d) (hit:t≠it) (hdi:d≠it) (hav:∀ (i:Nat) (a:Addr),items[i]?=some (.ref a)->a≠d/\a≠it) (hsz:kvs.length+kvs.length<=sizeLine) :
  ∀ (n i:Nat) (s:Shared) (acc:List (K×Value)),kvs.length - i=n->i<=kvs.length->acc.length<=i->s.heap.IsTuple t items->s.heap.PairItems knd items kvs->s.heap.IsTupleIter it t i->s.heap.DictOf knd d acc ->
   (∀ h' tk,h'.DictOf knd d (merged acc (kvs.drop i))->(∀ b o,b≠d->b≠it->s.heap.get? b=some o->h'.get? b=some o)->R (.ok (.ret .none)) { s with heap:=h',toks:=tk }) ->
   codeAny (model prog w) A (.builtin "dict.update.loop" ⟨[.ref d,.ref it,rawInt i,.none],[]⟩) R s:=by
 intro n
 induction n with
 | zero =>
  intro i s acc hn hi ha ht hp hs hd hR;have e:i=kvs.length:=by lia
  refine codeAny_builtin F.entry_dict_update_loop ?_;rw [Around.under_plainId F.plain_dict_update_loop _];show wpAny _ A.in1 (pyNext (.ref it) >>= _) _ _ s;refine wpAny_bind (wpAny_pyNext_tuple_end (by first | exact hh | simpa using hh) hs ht (by rw [e,<- hp.1];simp) λh' eb=>?_);show wpAny _ _ (Builtin.Dict.addKeywords d [] >>= _) _ _ _;have hd':h'.DictOf knd d acc:=by
   obtain ⟨o,es,ep,ho,r⟩:=hd;exact ⟨o,es,ep,eb d o hdi ho,r⟩
  have q:=hR h' s.toks (by rw [e,List.drop_length];exact hd') λb o _ hb z=>eb b o hb z;exact wpAny_bind (wpAny_pure (wpAny_pure q))
 | succ n ih =>
  intro i s acc hn hi ha ht hp hs hd hR;have hlt:i < kvs.length:=by lia
  obtain ⟨kv,hkv⟩:∃ kv,kvs[i]?=some kv:=⟨_,aAi hlt⟩;obtain ⟨a,key,hx,hpair,hkey⟩:=hp.2 i kv hkv;refine codeAny_builtin F.entry_dict_update_loop ?_;rw [Around.under_plainId F.plain_dict_update_loop _];show wpAny _ A.in1 (pyNext (.ref it) >>= _) _ _ s;refine wpAny_bind (wpAny_pyNext_tuple_item hs ht hx λh1 hs1 sb=>?_);obtain ⟨av1,av2⟩:=hav i a hx;have keep1:∀ b o,b≠it->s.heap.get? b=some o->h1.get? b=some o:=λb o hb z=>(sb.2 b hb).trans z;obtain ⟨po,pe,pc,pn,pd⟩:=hpair;have pe1:=keep1 a po av2 pe;have hd1:h1.DictOf knd d acc:=by
   obtain ⟨o,es,ep,ho,r⟩:=hd;exact ⟨o,es,ep,keep1 d o hdi ho,r⟩
  refine wpAny_bind (wpAny_holding ?_);refine wpAny_bind (wpAny_tryCatch ?_);unfold Builtin.Dict.pairItems;refine wpAny_bind (wpAny_typeOf (T:= "tuple") ⟨_,pe1,pc⟩ ?_);rw [if_pos (1)];refine wpAny_bind (wpAny_seqItems pe1 pd ?_);refine wpAny_pure ?_;show wpAny _ _ (holding [key,kv.2] (dictSet d key kv.2)) _ _ _;refine wpAny_holding (wpAny_dictSet_pairs (s:={ s with heap:=h1 }) hkey hd1 (λh2 hd2 sb2=>?_) (by lia));refine wpAny_pure ⟨plainId_quiet F.plain_dict_update_loop _,?_⟩;have keep2:∀ b o,b≠d->b≠it->s.heap.get? b=some o->h2.get? b=some o:=λb o hb hb' z=>(sb2.2 b hb).trans (keep1 b o hb' z);have hlen:(stored acc kv.1 kv.2).length<=i+1:=by have:=stored_length_le acc kv.1 kv.2;lia
  have ht2:h2.IsTuple t items:=by
   obtain ⟨o,ho,r⟩:=ht;exact ⟨o,keep2 t o hdt hit ho,r⟩
  have hs2:h2.IsTupleIter it t (i+1):=by
   obtain ⟨o,ho,r⟩:=hs1;exact ⟨o,(sb2.2 it (Ne.symm hdi)).trans ho,r⟩
  have e:rawInt ((i:Int)+1)=rawInt ((i+1:Nat):Int):=by rw [Int.natCast_add];rfl
  show codeAny _ _ (.builtin "dict.update.loop" ⟨[.ref d,.ref it,rawInt ((i:Int)+1),.none],[]⟩) _ _;rw [e];refine ih (i+1) { s with heap:=h2,toks:=s.toks+1 } (stored acc kv.1 kv.2) (by lia) hlt hlen ht2 (hp.stay λj b o z z2=>keep2 b o (hav j b z).1 (hav j b z).2 z2) hs2 hd2 λh' tk hd' k'=>?_;have q:=hR h' tk (by
   have z:kvs.drop i=kv :: kvs.drop (i+1):=by
    rw [aAY hlt];rw [aAi hlt] at hkv;rw [Option.some.inj hkv]
   rw [z];exact hd') λb o hb hb' z=>k' b o hb hb' (keep2 b o hb hb' z)
  exact q
theorem iq {s:Shared} {t:Addr} {o:Obj} {items:Array Value} {n:Nat} {kvs:List (K×Value)} {Q:Value->Shared->Prop} (hh:A.handled=none) (ho:s.heap.get? t=some o) (hc:o.cls=.type "tuple") (hdat:o.data=.seq items n) (hd:o.dict=none)
  (hp:s.heap.PairItems knd items kvs) (hsz:kvs.length+kvs.length<=sizeLine)
  (h:∀ h' tk,h'.DictOf knd s.heap.objs.size (merged [] kvs)->(∀ b o,s.heap.get? b=some o->h'.get? b=some o)->Q (.ref s.heap.objs.size) { s with heap:=h',toks:=tk }) :
  wpAny (model prog w) A (call (.type "dict") [.ref t]) Q E s:=by
 refine callType_codes (Q₁:=λobj s₁=>obj=.ref s.heap.objs.size/\s₁={ s with heap:=s.heap.push { cls:=.type "dict",data:=.dict #[] } }) F.kt_called_dict (F.kt_typeCall_dict_1 _) F.entry_dict_init (kt_code_dict_new _ ⟨rfl,rfl⟩) ?_;rintro obj s₁ ⟨rfl,rfl⟩;have hnew:(s.heap.push { cls:=.type "dict",data:=.dict #[] }).DictOf knd s.heap.objs.size []:=Heap.DictOf.new s.heap;have ho1:(s.heap.push { cls:=.type "dict",data:=.dict #[] }).get? t=some o:=aAa _ ho;have htl:t < s.heap.objs.size:=aAb ho;refine ⟨hnew.typeIs,F.args_dict_init_2 _ _,?_⟩;unfold Builtin.«dict.__init__»;refine wpAny_bind ?_;unfold Builtin.Dict.selfAndRest;refine wpAny_bind (wpAny_notOrdered_dict hnew.typeIs ?_);show wpAny _ _ (pure (s.heap.objs.size,[Value.ref t])) _ _ _;refine wpAny_pure ?_;show wpAny _ _ (Builtin.Dict.updateFrom "dict.__init__" s.heap.objs.size (.ref t) [] .none) _ _ _;unfold Builtin.Dict.updateFrom;refine wpAny_bind (wpAny_typeOf (T:= "tuple") ⟨_,ho1,hc⟩ ?_);rw [if_pos (1)];refine wpAny_bind (ip ho1 hc hdat hd (by first | exact hh | simpa using hh) λh1 tk1 e hx=>?_);rw [if_pos (0)];refine wpAny_bind (wpAny_rule ?_);have kp1:∀ b o,(s.heap.push { cls:=.type "dict",data:=.dict #[] }).get? b=some o->h1.get? b=some o:=λb o z=>hx.keeps b o z;have ht1:h1.IsTuple t items:=⟨o,kp1 t o ho1,hc,n,hdat⟩;refine wpAny_bind (wpAny_pyIter_tuple ht1 ?_);have hit:s.heap.objs.size < h1.objs.size:=by
  obtain ⟨o2,es,ep,ho2,_⟩:=hnew;exact aAb (kp1 _ _ ho2)
 have kp0:∀ b o,s.heap.get? b=some o->h1.get? b=some o:=λb o z=>kp1 b o (aAa _ z);refine wpAny_pure ⟨plainId_quiet F.plain_dict_update_loop _,?_⟩;refine fW (knd:=knd) (t:=t) (items:=items) (kvs:=kvs) (by first | exact hh | simpa using hh) (aAk htl) (aAk (aBf htl hit)) (aAk hit) (λi a z=>?_) hsz kvs.length 0 _ [] (by lia) (aAI _) (aAf _)
  ⟨o,aAa _ (kp1 t o ho1),hc,n,hdat⟩ (hp.stay λi a o2 _ z=>aAa _ (kp0 a o2 z)) ⟨_,aAg _ rfl,rfl,rfl⟩ ?_ λh' tk hd' k'=>⟨rfl,?_⟩
 ·have hi:i < kvs.length:=by
   rw [<- hp.1];exact (aAH.mp z).1
  obtain ⟨b,key,e1,⟨ob,e2,_⟩,_⟩:=hp.2 i _ (aAi hi);rw [z] at e1;have e3:a=b:=by injection (Option.some.inj e1)
  subst e3;have:=aAb e2;exact ⟨aAk this,aAk (aBf this hit)⟩
 ·obtain ⟨o2,es,ep,ho2,r⟩:=hnew;exact ⟨o2,es,ep,aAa _ (kp1 _ _ ho2),r⟩
 ·refine h h' tk hd' λb ob z=>k' b ob (aAk (aAb z)) (aAk (aBf (aAb z) hit)) (aAa _ (kp0 b ob z))
end
end PySem
namespace L2
open PySem PySem.Spec PyProof.Rows
def Pl (H:Hp) (a:Addr):Prop:=∃ o u,H a=some (.frz o u)/\o.dict=none
mutual
inductive IsP (K:W.Frag) (H:Hp):Dt->V->Prop
 | non:IsP K H .non .non
 | bl {b}:IsP K H (.bl b) (.bl b)
 | int {i}:IsP K H (.int i) (.int i)
 | str {z}:IsP K H (.str z) (.str z)
 | tup {l:List Dt} {a:Addr} {xs:List V}:SqT K H a xs->Pl H a->IsPs K H l xs->IsP K H (.tup l) (.ref a)
inductive IsPs (K:W.Frag) (H:Hp):List Dt->List V->Prop
 | nil:IsPs K H [] []
 | cons {d:Dt} {l:List Dt} {x:V} {xs:List V}:IsP K H d x->IsPs K H l xs->IsPs K H (d :: l) (x :: xs)
end
section
variable {K:W.Frag} {H H':Hp}
mutual
theorem IsP.d:∀ {d:Dt} {v:V},IsP K H d v->IsD K H d v
 | _,_,.non=>.non
 | _,_,.bl=>.bl
 | _,_,.int=>.int
 | _,_,.str=>.str
 | _,_,.tup h _ r=>.tup h (IsPs.d r)
theorem IsPs.d:∀ {l:List Dt} {xs:List V},IsPs K H l xs->IsDs K H l xs
 | _,_,.nil=>.nil
 | _,_,.cons h r=>.cons (IsP.d h) (IsPs.d r)
end
theorem Pl.same {a:Addr} (g:Same H H') (h:Pl H a):Pl H' a:=by
 obtain ⟨o,u,e,d⟩:=h;exact ⟨o,u,g _ _ e,d⟩
theorem Pl.but {a r:Addr} {ys:List V} (hr:H r=some (.lst ys)) (g:But r H H') (h:Pl H a):Pl H' a:=by
 obtain ⟨o,u,e,d⟩:=h;exact ⟨o,u,g _ _ (sN e hr (by intro z;cases z)) e,d⟩
mutual
theorem IsP.same (g:Same H H'):∀ {d:Dt} {v:V},IsP K H d v->IsP K H' d v
 | _,_,.non=>.non
 | _,_,.bl=>.bl
 | _,_,.int=>.int
 | _,_,.str=>.str
 | _,_,.tup h p r=>.tup (g.tup h) (p.same g) (IsPs.same g r)
theorem IsPs.same (g:Same H H'):∀ {l:List Dt} {xs:List V},IsPs K H l xs->IsPs K H' l xs
 | _,_,.nil=>.nil
 | _,_,.cons h r=>.cons (IsP.same g h) (IsPs.same g r)
end
mutual
theorem IsP.but {r:Addr} {ys:List V} (hr:H r=some (.lst ys)) (g:But r H H'):∀ {d:Dt} {v:V},IsP K H d v->IsP K H' d v
 | _,_,.non=>.non
 | _,_,.bl=>.bl
 | _,_,.int=>.int
 | _,_,.str=>.str
 | _,_,.tup h p q=>.tup (by
   rcases tN hr h with n | n
   ·exact g.tup n h
   ·exact n _) (p.but hr g) (IsPs.but hr g q)
theorem IsPs.but {r:Addr} {ys:List V} (hr:H r=some (.lst ys)) (g:But r H H'):∀ {l:List Dt} {xs:List V},IsPs K H l xs->IsPs K H' l xs
 | _,_,.nil=>.nil
 | _,_,.cons h q=>.cons (IsP.but hr g h) (IsPs.but hr g q)
end
theorem IsPs.length {l:List Dt} {xs:List V} (h:IsPs K H l xs):l.length=xs.length:=h.d.length
theorem IsPs.get {l:List Dt} {xs:List V} (h:IsPs K H l xs) {i:Nat} {d:Dt} (e:l[i]?=some d):∃ x,xs[i]?=some x/\IsP K H d x:=by
 induction l generalizing xs i with
 | nil=>simp at e
 | cons c l ih =>
  cases h with
  | cons h r =>
   cases i with
   | zero=>simp at e;subst e;exact ⟨_,rfl,h⟩
   | succ i=>exact ih r (by simpa using e)
theorem IsPs.get' {l:List Dt} {xs:List V} (h:IsPs K H l xs) {i:Nat} {x:V} (e:xs[i]?=some x):∃ d,l[i]?=some d/\IsP K H d x:=by
 induction l generalizing xs i with
 | nil=>cases h;simp at e
 | cons c l ih =>
  cases h with
  | cons h r =>
   cases i with
   | zero=>simp at e;subst e;exact ⟨_,rfl,h⟩
   | succ i=>exact ih r (by simpa using e)
theorem IsPs.append {l m:List Dt} {xs ys:List V} (h:IsPs K H l xs) (h':IsPs K H m ys):IsPs K H (l++m) (xs++ys):=by
 induction l generalizing xs with
 | nil=>cases h;exact h'
 | cons d l ih=>cases h with | cons h r=>exact .cons h (ih r)
theorem IsPs.drop:∀ {l:List Dt} {xs:List V} (n:Nat),IsPs K H l xs->IsPs K H (l.drop n) (xs.drop n)
 | _,_,0,h=>h
 | _,_,_+1,.nil=>.nil
 | _,_,n+1,.cons _ r=>IsPs.drop n r
theorem IsPs.take:∀ {l:List Dt} {xs:List V} (n:Nat),IsPs K H l xs->IsPs K H (l.take n) (xs.take n)
 | _,_,0,_=>.nil
 | _,_,_+1,.nil=>.nil
 | _,_,n+1,.cons h r=>.cons h (IsPs.take n r)
theorem IsP.unref {l:List Dt} {v:V} (h:IsP K H (.tup l) v):∃ a xs,v=.ref a/\SqT K H a xs/\Pl H a/\IsPs K H l xs:=by
 cases h with
 | tup h p r=>exact ⟨_,_,rfl,h,p,r⟩
end
def plO (xs:List V) (us:List Value):HO:=.frz { cls:=.type "tuple",data:=.seq us.toArray } (.tup xs)
section
variable {X:Cx} {pins:List (Addr×Obj)} {σ:St} {H:Hp} {s:Shared}
theorem Inv.plain {xs:List V} {us:List Value} {t':Nat} (I:Inv X pins σ H s) (r:Vals xs us) (z:xs.length<=sizeLine) :
  Inv X pins σ (upd H s.heap.objs.size (plO xs us)) { s with heap:=s.heap.push { cls:=.type "tuple",data:=.seq us.toArray },toks:=t' }/\H s.heap.objs.size=none :=
 ⟨I.laid (t':=t') (λb ob q=>aAa _ q) (aAf _) ⟨aAg _ rfl,z,us,r,IsTup.new _ _⟩,I.hok.fresh (aAf _)⟩
theorem c9 {p:Addr} {l:List Dt} {xs:List V} {us:List Value} (hf:H p=none) (d:IsPs X.K H l xs):Same H (upd H p (plO xs us))/\IsP X.K (upd H p (plO xs us)) (.tup l) (.ref p) :=
 ⟨af hf _,.tup (.inl (.inr ⟨_,ac⟩)) ⟨_,_,ac,rfl⟩ (d.same (af hf _))⟩
variable {e:Expr} {es:List Expr} {t:TA} {pos:Pos}
inductive ITup (K:W.Frag) (xs:List V) (H1:Hp) (Q:VK):Prop
 | mk (l:List Dt):(IsPs K H1 l xs)->(xs.length<=sizeLine)->(∀ v H',Same H1 H'->IsP K H' (.tup l) v->Q v H')->ITup K xs H1 Q
def tU (K:W.Frag) (t:TA):TE:=λσ H Q=>t σ H λxs H1=>ITup K xs H1 Q
theorem vL {x1} (h:PA X es t):PE X (.Tuple es x1 pos) (tU X.K t):=by
 intro pins s σ H Q I hq;refine wpAny_Tuple_spliced (thn (h pos pins s σ H _ I hq) λus s1 ⟨xs,H1,I1,r,l,d,z,q⟩=>⟨by rw [<- r.length];exact z,?_⟩);obtain ⟨I2,hf⟩:=I1.plain (t':=s1.toks) r z;obtain ⟨g,dp⟩:=c9 (X:=X) (us:=us) hf d;exact ⟨.ref s1.heap.objs.size,_,I2,rfl,q _ _ g dp⟩
theorem m7:aS X (.type "tuple") (λxs H Q=>∃ p ys l,xs=[.ref p]/\SqL X.K H p ys/\IsPs X.K H l ys/\∀ v H',Same H H'->IsP X.K H' (.tup l) v->Q v H'):=by
 intro pins s σ H xs us Q I r h;obtain ⟨p,ys,l,rfl,hq,d,q⟩:=h;obtain ⟨u,rfl,rx⟩:=cq r
 cases rx
 obtain ⟨its,r',pl,hz⟩:=I.list hq;have hlen:=r'.length;refine call_tuple_list pl.isList (λh' kp=>?_) (by simp only [aAh] <;> lia);have I1:Inv X pins σ H { s with heap:=h' }:=I.kept (t':=s.toks) kp;obtain ⟨I2,hf⟩:=I1.plain (t':=s.toks) r' hz;obtain ⟨g,dp⟩:=c9 (X:=X) (us:=its) hf d;exact ⟨.ref h'.objs.size,_,I2,rfl,q _ _ g dp⟩
theorem vM:OpR X (binaryOp .Add) (λx y H Q=>∃ l m,IsP X.K H (.tup l) x/\IsP X.K H (.tup m) y/\l.length+m.length<=sizeLine/\∀ v H',Same H H'->IsP X.K H' (.tup (l++m)) v->Q v H'):=by
 intro pins s σ H x y v u Q I rx ry h;obtain ⟨l,m,dx,dy,hz,q⟩:=h;obtain ⟨a,xs,rfl,ha,pa,ra⟩:=dx.unref;obtain ⟨b,ys,rfl,hb,pb,rb⟩:=dy.unref
 cases rx
 cases ry
 obtain ⟨its,r1,p1,_⟩:=I.tuple ha;obtain ⟨its2,r2,p2,_⟩:=I.tuple hb;have e1:=ra.length;have e2:=rb.length
 by_cases hx:xs=[]
 ·subst hx;have hi:its=[]:=r1.nil_iff.mpr rfl;subst hi;have hl:l=[]:=aBl.mp (by rw [e1];rfl);subst hl;exact HT.cat_nil p1 p2 ⟨.ref b,H,I,rfl,q _ H (Same.refl H) dy⟩
 ·refine HT.cat_tup p1 p2 (λz=>hx (r1.nil_iff.mp z)) (λz=>?_) (λz=>?_) (by rw [<- r1.length,<- r2.length,<- e1,<- e2];exact hz)
  ·have hy:=r2.nil_iff.mp z;subst hy;have hm:m=[]:=aBl.mp (by rw [e2];rfl);subst hm;exact ⟨.ref a,H,I,rfl,q _ H (Same.refl H) (by rw [aAP];exact dx)⟩
  ·obtain ⟨I2,hf⟩:=I.plain (t':=s.toks) (r1.append r2) (by rw [aAt,<- e1,<- e2];exact hz);obtain ⟨g,dp⟩:=c9 (X:=X) (us:=its++its2) hf (ra.append rb);exact ⟨.ref s.heap.objs.size,_,I2,rfl,q _ _ g dp⟩
theorem vN:SlR X (λx lo hi H Q=>∃ l,IsP X.K H (.tup l) x/\∀ v H',Same H H'->IsP X.K H' (.tup (jM l lo hi)) v->Q v H'):=by
 intro pins s σ H x v vl vu lo hi sl Q I rx hs pl pu h;obtain ⟨l,dx,q⟩:=h;obtain ⟨a,xs,rfl,hx,pa,ra⟩:=id dx.unref
 cases rx
 have e1:=ra.length;obtain ⟨its,r,ht,hz⟩:=I.tuple hx;have hlen:its.toArray.size=xs.length:=by rw [aAh];exact r.length.symm
 refine ⟨"tuple",_,PyProof.Rows.slot_tuple_getitem.lookup,ht.typeIs,?_⟩
 by_cases hw:HT.sIx xs.length 0 lo=0/\HT.sIx xs.length xs.length hi=xs.length
 ·refine HT.getItem_tuple_all ht hs pl pu (by rw [hlen];exact hw.1) (by rw [hlen];exact hw.2) ⟨.ref a,H,I,rfl,q _ H (Same.refl H) ?_⟩;have e:jM l lo hi=l:=by
   unfold jM;rw [e1,hw.1,hw.2,aBM,Nat.sub_zero,<- e1,aAR]
  rw [e];exact dx
 ·refine HT.getItem_tuple_cut ht hs pl pu (by rw [hlen];exact hw) ?_ (by rw [hlen];exact hz);rw [hlen];obtain ⟨I2,hf⟩:=I.plain (t':=s.toks) ((r.drop (HT.sIx xs.length 0 lo)).take (HT.sIx xs.length xs.length hi - HT.sIx xs.length 0 lo)) (aAw (ia xs lo hi) hz);have d2:IsPs X.K H (jM l lo hi) (kZ xs lo hi):=by
   unfold jM kZ;rw [e1];exact (ra.drop _).take _
  obtain ⟨g,dp⟩:=c9 (X:=X) (us:=(its.drop (HT.sIx xs.length 0 lo)).take (HT.sIx xs.length xs.length hi - HT.sIx xs.length 0 lo)) hf d2;exact ⟨.ref s.heap.objs.size,_,I2,rfl,q _ _ g dp⟩
theorem vO:IxR X (λx y H Q=>∃ l i d,IsP X.K H (.tup l) x/\y=.int i/\atI l i=some d/\∀ v,IsP X.K H d v->Q v H):=by
 intro value slice pins s σ H x y v u Q I rx ry h hs;obtain ⟨l,i,d,dx,rfl,ha,q⟩:=h;obtain ⟨a,xs,rfl,hx,pa,ra⟩:=id dx.unref;obtain ⟨j,hj,hd,_⟩:=iO ha;have e1:=ra.length;obtain ⟨w',hw,dw⟩:=ra.get hd;have hat:atI xs i=some w':=by
  unfold atI at ha ⊢;rw [<- e1]
  cases z:ixN l.length i with
  | none=>rw [z] at ha;cases ha
  | some j' =>
   rw [z] at ha;have ha':l[j']?=some d:=ha;obtain ⟨w2,hw2,dw2⟩:=ra.get ha';have z2:=lg z;rw [hj] at z2;have:j=j':=Option.some.inj z2.1;subst this;exact hw
 exact AY value slice pins s σ H (.ref a) (.int i) v u Q I rx ry ⟨a,xs,i,w',rfl,rfl,hx,hat,q w' dw⟩ hs
theorem vP:OpR X (binaryOp .Mult) (rI IntMulOk λi j=>.int (i*j)):=opI λ_ _ _ _ _ _ _ hc q=>mul_int q hc
end
def aP (fs:List (Str×Dt)) (z:Str):Option Dt:=(fs.find? λp=>decide (p.1=z)).map (·.2)
abbrev prD (p:Str×Dt):Dt:=.tup [.str p.1,p.2]
def DicP (K:W.Frag) (H:Hp) (p:Addr) (fs:List (Str×Dt)):Prop :=
 ∃ kvs,H p=some (.dK kvs)/\∀ z,(aP fs z=none->bC kvs (Sum.inr z:Key)=none)/\∀ d,aP fs z=some d->∃ v,bC kvs (Sum.inr z:Key)=some v/\IsP K H d v
section
variable {X:Cx} {pins:List (Addr×Obj)} {σ:St} {H:Hp} {s:Shared}
theorem tV (I:Inv X pins σ H s):∀ {fs:List (Str×Dt)} {xs:List V} {its:List Value},IsPs X.K H (fs.map prD) xs->Vals xs its ->
  ∃ (kvs:List (Key×V)) (vs:List (Key×Value)),KV kvs vs/\kvs.map (·.1)=fs.map (λp=>Sum.inr p.1)/\kvs.length=fs.length /\
   (∀ z,(aP fs z=none->bC kvs (Sum.inr z:Key)=none)/\∀ d,aP fs z=some d->∃ v,bC kvs (Sum.inr z:Key)=some v/\IsP X.K H d v) /\
   its.length=vs.length/\∀ (i:Nat) (kv:Key×Value),vs[i]?=some kv->∃ (a:Addr) (key:Value),its[i]?=some (.ref a)/\s.heap.IsTuple a #[key,kv.2]/\(ar X.prog X.w).is kv.1 key=true:=by
 intro fs
 induction fs with
 | nil =>
  intro xs its h r
  cases h
  cases r
  exact ⟨[],[],.nil,rfl,rfl,λz=>⟨λ_=>rfl,λd q=>by cases q⟩,rfl,λi kv q=>by simp at q⟩
 | cons f fs ih =>
  intro xs its h r
  cases h with
  | cons h1 h2 =>
   cases r with
   | cons r1 r2 =>
    obtain ⟨kvs,vs,e1,e2,e3,e4,e5,e6⟩:=ih h2 r2;obtain ⟨a,ys,rfl,ha,pa,ra⟩:=h1.unref
    cases r1
    obtain ⟨its',r',p',_⟩:=I.tuple ha
    cases ra with
    | cons d1 ra =>
     cases ra with
     | @cons _ _ v _ d2 ra =>
      cases ra
      cases d1
      cases r' with
      | cons q1 r' =>
       cases r' with
       | @cons _ u _ _ q2 r' =>
        cases r'
        obtain ⟨tk,rfl⟩:=q1;refine ⟨(Sum.inr f.1,v) :: kvs,(Sum.inr f.1,u) :: vs,.cons ⟨rfl,q2⟩ e1,by simp [e2],by simp [e3],λz=>?_,by simp [e5],λi kv q=>?_⟩
        ·by_cases hz:f.1=z
         ·subst hz;have l1:aP (f :: fs) f.1=some f.2:=by simp [aP]
          have l2:bC ((Sum.inr f.1,v) :: kvs) (Sum.inr f.1:Key)=some v:=by simp [bC]
          exact ⟨λq=>(by rw [l1] at q;cases q),λd q=>(by rw [l1] at q;cases q;exact ⟨v,l2,d2⟩)⟩
         ·have l1:aP (f :: fs) z=aP fs z:=by simp [aP,hz]
          have l2:bC ((Sum.inr f.1,v) :: kvs) (Sum.inr z:Key)=bC kvs (Sum.inr z:Key):=by simp [bC,hz]
          rw [l1,l2];exact e4 z
        ·cases i with
         | zero =>
          simp at q;subst q;exact ⟨a,_,rfl,p',kE (k:=Sum.inr f.1) ⟨tk,rfl⟩⟩
         | succ i=>exact e6 i kv (by simpa using q)
theorem pf (hc:X.calm=true):aS X (.type "dict") (λxs H Q=>∃ x fs,xs=[x]/\IsP X.K H (.tup (fs.map prD)) x/\(fs.map (·.1)).Nodup/\fs.length<=1000/\∀ p H',Same H H'->DicP X.K H' p fs->Q (.ref p) H'):=by
 intro pins s σ H xs us Q I r h;obtain ⟨x,fs,rfl,dx,nd,hz,q⟩:=h;obtain ⟨u,rfl,rx⟩:=cq r;obtain ⟨a,ys,rfl,ha,⟨o,ho,eo,dn⟩,ra⟩:=dx.unref
 cases rx
 obtain ⟨its,r',⟨o',e',c',n',d'⟩,_⟩:=I.tuple ha;have e0:s.heap.get? a=some o:=(I.hok a _ eo).1;rw [e0] at e';obtain rfl:=Option.some.inj e';obtain ⟨kvs,vs,k1,k2,k3,k4,k5,k6⟩:=tV I ra r';have hl:vs.length=fs.length:=by rw [<- k1.length,k3]
 have big:=I.big;refine iq (knd:=ar X.prog X.w) (kvs:=vs) (I.ok.hd hc) e0 c' d' dn ⟨by rw [aAh];exact k5,λi kv z=>?_⟩ (aAw (Nat.add_le_add (hl ▸ hz) (hl ▸ hz)) (1)) λh' tk dd kp=>?_
 ·obtain ⟨b,key,z1,z2,z3⟩:=k6 i kv z;exact ⟨b,key,by simpa using z1,z2,z3⟩
 ·have ndv:(vs.map (·.1)).Nodup:=by
   rw [<- k1.keys,k2];have z:fs.map (λp=>(Sum.inr p.1:Key))=(fs.map (·.1)).map Sum.inr:=by rw [aAu];rfl
   rw [z];exact List.Pairwise.map _ (λa b n q=>n (Sum.inr.inj q)) nd
  rw [merged_nil_of_nodup vs ndv] at dd;have hf:=I.hok.fresh (aAf s.heap.objs.size);have I2:Inv X pins σ (upd H s.heap.objs.size (.dK kvs)) { s with heap:=h',toks:=tk }:=I.laid (t':=tk) kp (aAf _)
   (tT (by rw [k3];exact aAM (am hz)) (by simp;exact aAQ big) k1 dd)
  refine ⟨.ref s.heap.objs.size,_,I2,rfl,q _ _ (af hf _) ⟨kvs,ac,λz=>⟨(k4 z).1,λd l=>?_⟩⟩⟩;obtain ⟨v,l1,l2⟩:=(k4 z).2 d l;exact ⟨v,l1,l2.same (af hf _)⟩
theorem DicP.get {K:W.Frag} {p:Addr} {fs:List (Str×Dt)} {z:Str} {d:Dt} (h:DicP K H p fs) (l:aP fs z=some d):∃ v,DGet H p (.str z) (some v)/\IsP K H d v:=by
 obtain ⟨kvs,e,k⟩:=h;obtain ⟨v,l1,l2⟩:=(k z).2 d l;exact ⟨v,by rw [<- l1];exact DGet.k (k:=Sum.inr z) e,l2⟩
end
end L2
namespace PySem
open Sem (wp)
open Builtin
theorem gL:fillsNumberSlot (.type "tuple") "mul" = pure false :=
 fillsNumberSlot_seq (id:= "tuple.__mul__") (r:=some (.builtin "tuple.__rmul__")) F.slot_tuple_mul.lookup (by decide +kernel) F.slot_tuple_rmul.lookup (by decide +kernel)
theorem lC:seqRepeat? (.type "tuple")=pure (some (.builtin "tuple.__mul__")):=by
 unfold seqRepeat?;rw [seqSlot_of (T:= "tuple") (name:= "__mul__") (id:= "tuple.__mul__") F.slot_tuple_mul.lookup (by decide +kernel),seqSlot_of (T:= "tuple") (name:= "__rmul__") (id:= "tuple.__rmul__") F.slot_tuple_rmul.lookup (by decide +kernel)]
 rfl
theorem dD (a:Int) (t:Tok) (l:Addr) (items:Array Value) (n:Nat) (dct:Option Addr) (sl:Array (Option Value)) :
  Meets (Builtin.«int.__rmul__» ⟨[.int a t,.ref l],[]⟩) (λ_ R s=>s.heap.get? l=some { cls:=.type "tuple",dict:=dct,data:=.seq items n,slots:=sl }/\R (.ok (.ret Value.notImplemented)) s) :=
 .of_wp λprog w A R s h=>by obtain ⟨hp,g,d,tk,os⟩:=s;obtain ⟨hl,h⟩:=h;wp_walk;exact ⟨_,rfl,h⟩
section
variable {prog:Program} {w:World} {A:Around} {E:Value->Shared->Prop} {s:Shared}
theorem vQ {l:Addr} {items:Array Value} {x:Int} {u:Tok} {Q:Value->Shared->Prop} (ht:s.heap.IsTuple l items) (hne:items.isEmpty=false) (h1:1 < x) (h2:x<=30) (hz:items.size<=30)
  (h:Q (.ref s.heap.objs.size) { s with heap:=s.heap.push { cls:=.type "tuple",data:=.seq ((List.replicate x.toNat items).foldl (·++·) #[]) } }) :
  wpAny (model prog w) A (binaryOp .Mult (.ref l) (.int x u)) Q E s:=by
 obtain ⟨⟨cls,dct,dat,sl⟩,ho,hc,n,hd⟩:=ht;simp only at hc hd;subst hc hd;have hT:s.TypeIs (.ref l) "tuple" :=⟨_,ho,rfl⟩;refine wpAny_binaryOp_repeat_ref (T:= "tuple") (U:= "int") (1) hT (λs'=>typeIs_int s' x u) gL F.fills_int_mul F.slot_int_rmul lC F.slot_int_index.lookup ?_;refine call_meets F.slot_int_rmul (typeIs_int s x u) F.entry_int_rmul (F.args_int_rmul_2 _ _) (dD x u l items n dct sl) ⟨ho,rfl,hT,?_⟩;refine wpAny_call_entry F.slot_tuple_mul hT F.entry_tuple_mul ?_ (F.args_tuple_mul_2 _ _);have g1:(decide (x < -(2 ^ 63)) || decide (x≥2 ^ 63))=false:=by simp;lia
 have g2:(items.isEmpty || x == 1)=false:=by rw [hne];simp;lia
 have g3:(decide (x<=0) || items.isEmpty)=false:=by rw [hne];simp;lia
 have g4:¬ ((items.size:Int)*x > (2 ^ 63 - 1) / 8):=by
  have q:(items.size:Int)*x<=30*30:=Int.mul_le_mul (by lia) h2 (by lia) (by lia);lia
 have g5:Builtin.Tuple.tupleTooMany ((items.size:Int)*x)=false:=by
  have q:(items.size:Int)*x<=30*30:=Int.mul_le_mul (by lia) h2 (by lia) (by lia);have q2:(900:Int)<=(sizeLine:Int):=(1)
  unfold Builtin.Tuple.tupleTooMany;simp;lia
 obtain ⟨hp,g,d,tk,os⟩:=s;unfold Builtin.«tuple.__mul__»
 repeat (any_goals (first | assumption | wp_step))
 rw [if_neg (by rw [g1];decide)];show wpAny _ _ (Builtin.Tuple.tupleItemsOf (.ref l) >>= _) _ _ _;refine wpAny_bind ?_;unfold Builtin.Tuple.tupleItemsOf
 repeat (any_goals (first | assumption | wp_step))
 rw [if_neg (by rw [g2];decide)];show wpAny _ _ (if (decide (x<=0) || items.isEmpty)=true then _ else _) _ _ _;rw [if_neg (by rw [g3];decide)];show wpAny _ _ (if (items.size:Int)*x > (2 ^ 63 - 1) / 8 then _ else _) _ _ _;rw [if_neg g4];show wpAny _ _ (if Builtin.Tuple.tupleTooMany ((items.size:Int)*x)=true then _ else _) _ _ _;rw [if_neg (by rw [g5];decide)];have htake:((List.replicate x.toNat items).foldl (·++·) #[]).size<=sizeLine:=by
  have q:((List.replicate x.toNat items).foldl (·++·) #[]).size=x.toNat*items.size:=by
   have gen:∀ (k:Nat) (acc:Array Value),((List.replicate k items).foldl (·++·) acc).size=acc.size+k*items.size:=by
    intro k
    induction k with
    | zero=>intro acc;simp
    | succ k ih=>intro acc;rw [List.replicate_succ,List.foldl_cons,ih,Array.size_append,Nat.succ_mul];lia
   simpa using gen x.toNat #[]
  rw [q];exact aAw (Nat.mul_le_mul (show x.toNat<=30 by lia) hz) (1)
 first
  | exact wpAny_bind (m:=Builtin.Tuple.tupleExact _) (wpAny_newObj_type (wpAny_pure ⟨_,rfl,h⟩) htake)
  | exact wpAny_bind (m:=Builtin.Tuple.tupleExact _) (wpAny_newObj_type (wpAny_bind (wpAny_pure (wpAny_pure ⟨_,rfl,h⟩))) htake)
  | exact wpAny_bind (wpAny_bind (m:=Builtin.Tuple.tupleExact _) (wpAny_newObj_type (wpAny_pure (wpAny_pure ⟨_,rfl,h⟩)) htake))
end
end PySem
namespace L2
open PySem PySem.Spec PyProof.Rows
section
variable {X:Cx}
def tW (lo c:Int) (n:Nat):It:=⟨λi _=>i < n,λi H x H'=>H'=H/\x=.int (lo+i*c),λi _=>n<=i⟩
theorem nc {P:Program} {w:World} {K:W.Frag} {tg:Expr} (it:Addr) (lo c:Int) (n:Nat):Turn P w K tg (tW lo c n) [it] it (λi h=>IsRangeIter h it (lo+(i:Nat)*c) ((n:Int) - (i:Nat)) c) where
 mem:=by simp
 obj:=λi h st b hb=>by
  have e:b=it:=by simpa using hb
  subst e;exact ⟨_,st,λv z=>by
   have z':Data.fields _=Data.cell v:=z
   cases z'⟩
 keep:=λi h h' st k=>k it (by simp) _ st
 item:=by
  intro X hP hw hK hc i pins s σ H E I hf st hg;subst hP hw hK;obtain ⟨f0,f1,f2,f3,f4,f5⟩:=hf it (by simp);have W:=Walks.range (prog:=X.prog) (w:=X.w) (I.ok.hd hc) it lo c n;refine W.item i s _ _ hg st λv h' tk hv st' kk=>?_;obtain ⟨t,rfl⟩:=hv;have I1:Inv X pins σ H { s with heap:=h',toks:=tk }:=I.turned (λb o hb e=>kk b o (by simpa using hb) e) f0 f1 f3 f4 f5;exact ⟨_,rfl,ko (s:={ s with heap:=h',toks:=tk }) (n:= "range_iterator") st' rfl rfl (1) ⟨.int (lo+i*c),H,I1,⟨t,rfl⟩,⟨rfl,rfl⟩,st',λb hb=>(hf b hb).1⟩⟩
 done:=by
  intro X hP hw hK hc i pins s σ H E I hf st hg;subst hP hw hK;obtain ⟨f0,f1,f2,f3,f4,f5⟩:=hf it (by simp);exact wpAny_pyNext_range_end (I.ok.hd hc) st (by have:n<=i:=hg;lia) λh' eb=>⟨rfl,I.turned (t':=s.toks) (λb o hb e=>eb b o hb e) f0 f1 f3 f4 f5⟩
 self:=λ_ _ _ _ _ st h=>wpAny_pyIter_rangeiter st h
def rngN (a b c:Int):Nat:=(Builtin.Range.rangeSize a b c).toNat
theorem vR {a b c:Int} (hc:0 < c) {i:Nat} (h:i < rngN a b c):a+i*c < b:=by
 unfold rngN Builtin.Range.rangeSize at h;rw [if_pos (show c > 0 from hc)] at h
 by_cases hab:a < b
 ·rw [if_pos hab] at h;have h1:(0:Int)<=(b - a - 1) / c:=Int.ediv_nonneg (by lia) (by lia);have h2:(i:Int)<=(b - a - 1) / c:=by lia
  have h3:(i:Int)*c<=b - a - 1:=Int.le_trans (aA0 h2 (by lia)) (Int.ediv_mul_le _ (by lia));lia
 ·rw [if_neg hab] at h;simp at h
theorem qt {a b c:Int} (hc:0 < c):(rngN a b c:Int)<=if a < b then b - a else 0:=by
 unfold rngN Builtin.Range.rangeSize;rw [if_pos (show c > 0 from hc)]
 by_cases hab:a < b
 ·rw [if_pos hab,if_pos hab];have h1:(0:Int)<=(b - a - 1) / c:=Int.ediv_nonneg (by lia) (by lia);have h2:(b - a - 1) / c<=b - a - 1:=Int.ediv_le_self _ (by lia);lia
 ·rw [if_neg hab,if_neg hab];simp
variable {tg:Expr}
def IU (ta:TA):TI:=λσ H R=>ta σ H λvs H1=>∃ i j c:Int,vs=[.int i,.int j,.int c]/\(0<=i/\i < 2 ^ 62/\0<=j/\j < 2 ^ 62/\0 < c/\c < 1073741824)/\R (tW i c (rngN i j c)) H1
theorem rM {a b c:Expr} {ta:TA} {p pos:Pos} (hg:Gl X "range") (hm:X.mg "range" = none) (ha:PA X [a,b,c] ta) (hs:starEach [a,b,c] X.env=[(false,eval a X.env),(false,eval b X.env),(false,eval c X.env)]:=by rfl) (hs2:starEach [b,c] X.env=[(false,eval b X.env),(false,eval c X.env)]:=by rfl) :
  PI X tg (.Call (.Name "range" p) [a,b,c] [] pos) (IU ta):=by
 intro pins s σ H R I h;refine Call_ (di I hg hm boot_range (PyProof.Rows.callWith_type1 (thn (ha pos pins s σ H _ I h) λus s1 ⟨vs,H1,I1,r1,q1⟩=>?_) (by rw [hs,hs2]) (by rw [hs2];rfl)));obtain ⟨i,j,c,e,⟨q1,q2,q3,q4,q5,q6⟩,q⟩:=q1;subst e
 cases r1 with
 | cons r rr =>
  cases rr with
  | cons r' rr =>
   cases rr with
   | cons r'' rr =>
    cases rr
    obtain ⟨t,rfl⟩:=r;obtain ⟨t',rfl⟩:=r';obtain ⟨t'',rfl⟩:=r'';have hn0:=qt (a:=i) (b:=j) q5;have hsz:Builtin.Range.rangeSize i j c=((rngN i j c:Nat):Int):=rangeSize_toNat i j c;have hn:(rngN i j c:Int) < 2 ^ 62:=by
     split at hn0 <;> lia
    refine call_range_3 (by lia) ?_ (.inl (PyProof.noPylong_small (by lia)));have sm:Builtin.Range.small i j c=true:=by
     unfold Builtin.Range.small Builtin.Range.rangeFitsLong;rw [hsz,if_pos (show c > 0 from q5)];simp only [aAq,Bool.or_eq_true,decide_eq_true_eq,beq_iff_eq];refine ⟨⟨⟨⟨⟨?_,?_⟩,?_,?_⟩,?_,?_⟩,?_,?_⟩,.inr ⟨?_,?_⟩⟩ <;> lia
    refine wpAny_pyIter_range (IsRange.new ..) sm ?_;have I2:Inv X pins σ H1 { s1 with heap:=s1.heap.push { cls:=.type "range",data:=.fields #[.int i t,.int j t',.int c t''] } }:=I1.kept (t':=s1.toks) λb o e=>aAa _ e;refine ⟨(s1.heap.push { cls:=.type "range",data:=.fields #[.int i t,.int j t',.int c t''] }).objs.size,[(s1.heap.push { cls:=.type "range",data:=.fields #[.int i t,.int j t',.int c t''] }).objs.size],_,_,H1,rfl,
     I2.kept (t':=s1.toks) λb o e=>aAa _ e,nc _ i c (rngN i j c),?_,λb hb=>?_,q⟩
    ·have e1:i+((0:Nat):Int)*c=i:=by simp
     have e2:((rngN i j c:Nat):Int) - ((0:Nat):Int)=Builtin.Range.rangeSize i j c:=by rw [hsz];simp
     show IsRangeIter _ _ (i+((0:Nat):Int)*c) (((rngN i j c:Nat):Int) - ((0:Nat):Int)) c;rw [e1,e2];exact aAg _ rfl
    ·have e:b=(s1.heap.push { cls:=.type "range",data:=.fields #[.int i t,.int j t',.int c t''] }).objs.size:=by simpa using hb
     subst e;exact I2.fpOk (aAf _) (I2.hok.fresh (aAf _))
end
theorem xh {X:Cx} {st:Stmt} {t:TS} (h:X.Ok->PS X st t):PS X st t:=λpins s σ H D I hw=>h I.ok pins s σ H D I hw
theorem passF {P:Program} {w:World} {X:Cx}:fB (CXE P w) X (λ_ _ _=>False):=by
 intro pins σ H s e s' I h;obtain ⟨_,_,_,_,_,_,_,_,_,_,_,_,_,q⟩:=h;exact q.elim
theorem u1 {A:Around} (h:A.units+64 < cLine):A.units+1 < cLine:=by lia
theorem bi {P:Program} {w:World} {K:W.Frag} {mg:Str->Option Value} {base:Heap} {CX:CXT} {k:Nat} {f:Addr} {fd:FuncData} {ps:List Str} {sp:Sp} (h:∀ vs H Q E,¬ sp vs H Q E):FnOk P w K mg base CX k f fd ps sp :=
 ⟨λvs H Q E z=>(h vs H Q E z).elim,λA outer s H args us vs Q E hr e0 hb r z=>(h vs H Q E z).elim⟩
theorem vS {a:Int} {m:Nat} (h0:0<=a) (h:a < 2 ^ m):Builtin.Int.intBits a<=m:=by
 refine intBits_le_iff.mpr ?_;have e:((a.natAbs:Nat):Int)=a:=Int.natAbs_of_nonneg h0;have h':((a.natAbs:Nat):Int) < ((2 ^ m:Nat):Int):=by rw [e];simpa using h
 exact Int.ofNat_lt.mp h'
section
variable {X:Cx}
theorem aQ:OpR X (binaryOp .FloorDiv) (rI (λ_ j=>0 < j/\j < 10000000000000000000000000000000000000000000000000000000000000) λi j=>.int (i / j)):=opI λi j _ _ _ _ _ hc q=>by
 have h1:(0:Int) < j:=hc.1;have h2:j < 10000000000000000000000000000000000000000000000000000000000000:=hc.2;refine floordiv_int (by lia) (by rw [Int.fdiv_eq_ediv_of_nonneg i (by lia)];exact q) (.inl (PyProof.noPylong_of_log2 ?_));have h3:j.natAbs < 2 ^ 9000:=aAd (show j.natAbs < 10000000000000000000000000000000000000000000000000000000000000 by lia) (by decide +kernel);exact (Nat.log2_lt (by lia)).mpr h3
inductive ICatS (K:W.Frag) (x y:V) (H:Hp) (Q:VK):Prop
 | mk (l b:Addr) (xs zs:List V):(x=.ref l)->(y=.ref b)->(SqL K H l xs)->(SqL K H b zs)->(xs.length+zs.length<=sizeLine)->(∀ p,H p=none->Q (.ref p) (upd H p (.lst (xs++zs))))->ICatS K x y H Q
def ng (K:W.Frag):R2:=λx y H Q=>ICatS K x y H Q
theorem vT:OpR X (binaryOp .Add) (ng X.K):=by
 intro pins s σ H x y v u Q I rx ry h;obtain ⟨l,b,xs,zs,rfl,rfl,hH,hB,hz,q⟩:=h
 cases rx
 cases ry
 obtain ⟨its,r,pl,z⟩:=I.list hH;obtain ⟨its2,r2,pl2,z2⟩:=I.list hB;obtain ⟨⟨cls,dd,data,sl⟩,ho,hc,n,hd⟩:=pl.isList;obtain ⟨⟨cls2,dd2,data2,sl2⟩,ho2,hc2,n2,hd2⟩:=pl2.isList;simp only at hc hd hc2 hd2;subst hc hd hc2 hd2;have l1:=r.length;have l2:=r2.length;have ea:its.toArray++its2.toArray=(its++its2).toArray:=by simp
 refine concat_meets ⟨_,ho,rfl⟩ ⟨_,ho2,rfl⟩ noFill_list_add seq_list_add PySem.F.slot_list_add PySem.F.entry_list_add (PySem.F.args_list_add_2 _ _) (list_addW l b its.toArray its2.toArray n n2 dd dd2 sl sl2 (by simp only [aAh];lia)) ⟨ho,ho2,?_⟩;rw [ea];exact ⟨.ref _,_,I.lnew (t':=s.toks) (r.append r2) (by rw [aAt];lia),rfl,q _ I.fresh⟩
end
open PySem.NumText
def dg (m:Nat):List Nat:=(Nat.toDigits 10 m).map Char.toNat
theorem tX:∀ d:Nat,d < 10->(Nat.digitChar d).toNat=48+d:=(1)
theorem i6 {m:Nat} (h:m < 10):dg m=[48+m]:=by
 unfold dg;rw [Nat.toDigits_of_lt_base h];show [(Nat.digitChar m).toNat]=_;rw [tX m h]
theorem vU {m:Nat} (h:10<=m):dg m=dg (m / 10)++[48+m % 10]:=by
 have hm:m % 10 < 10:=Nat.mod_lt m (1);have t:Nat.toDigits 10 (m / 10)++Nat.toDigits 10 (m % 10)=Nat.toDigits 10 (10*(m / 10)+m % 10):=Nat.toDigits_append_toDigits (1) (by lia) hm;rw [Nat.div_add_mod] at t;unfold dg;rw [<- t,aA4]
 congr 1
 exact i6 hm
theorem kF (m:Nat):AllDigits (dg m):=by
 intro c hc;obtain ⟨ch,hch,e⟩:=aAO.mp hc;rw [<- e];exact digit_range (Nat.isDigit_of_mem_toDigits (1) (1) hch)
theorem IV (m:Nat):dg m≠[]:=by
 intro e;have h:=toDigits_len_ge 10 m;rw [List.map_eq_nil_iff.mp e] at h;exact absurd h (1)
theorem A9 (m:Nat):digitsVal (dg m)=m:=W.KIN.val_back m
theorem lD:∀ (k m:Nat),m < 10 ^ (k+1)->(dg m).length<=k+1
 | 0,m,h=>by rw [i6 (by simpa using h)];exact aAf 1
 | k+1,m,h=>by
  by_cases h1:m < 10
  ·rw [i6 h1];exact Nat.succ_le_succ (aAI _)
  ·rw [vU (by lia),aAt,aBq];have:m / 10 < 10 ^ (k+1):=by
    rw [Nat.pow_succ] at h;exact Nat.div_lt_of_lt_mul (by rw [Nat.mul_comm];exact h)
   have:=lD k (m / 10) this;lia
def strI (n:Int):List Nat:=if n < 0 then 45 :: dg n.natAbs else dg n.natAbs
theorem str_int (n:Int):(Str.ofString (toString n)).cps.toList=strI n:=by
 rw [signs_ofString]
 cases n with
 | ofNat m =>
  have:¬ (Int.ofNat m < 0):=by simp
  unfold strI;rw [if_neg this];show (Nat.repr m).toList.map Char.toNat=_;rw [Nat.toList_repr]
  rfl
 | negSucc m =>
  have:Int.negSucc m < 0:=Int.negSucc_lt_zero m;unfold strI;rw [if_pos this];show ("-" ++Nat.repr (m+1)).toList.map Char.toNat=_;rw [String.toList_append,aA4,Nat.toList_repr]
  rfl
theorem fX {x y:Str} (h:x.cps.toList=y.cps.toList):x=y:=by
 obtain ⟨a⟩:=x;obtain ⟨b⟩:=y
 congr 1
 exact Array.toList_inj.mp h
end L2
namespace L2
open PySem PySem.Spec PyProof.Rows
section
variable {X:Cx} {pins:List (Addr×Obj)} {σ:St} {H:Hp} {s:Shared} {h':Heap}
theorem Inv.turnedT {t':Nat} {wr:List Addr} {T:Addr} {o:HO} (I:Inv X pins σ H s) (k:∀ b u,b∉wr->s.heap.get? b=some u->h'.get? b=some u) (f:∀ b∈wr,dj X pins H b)
  (hT:s.heap.objs.size<=T) (new:ObjOk X.prog X.w (upd H T o) h' T o):Inv X pins σ (upd H T o) { s with heap:=h',toks:=t' }:=by
 have nT:∀ b u,s.heap.get? b=some u->b≠T:=λb u e z=>absurd (aAd (aAb e) (z ▸ hT)) (aAx _);have nH:∀ b u,H b=some u->b≠T:=λb u e z=>absurd (aAd (I.hok.lt e) (z ▸ hT)) (aAx _);have nw:∀ b u,H b=some u->b∉wr:=λb u e z=>by rw [(f b z).1] at e;cases e
 refine I.step (g':=s.gens) (d':=s.drawn) (ch:=wr) (λb hb=>?_) (λb u _ _ hc e _=>k b u hc e) (λb u _ _ hc e _=>⟨u.slots,k b u hc e⟩) (λb u _ e n=>by rw [ag (nT b u e)];exact n)
  (λb u hc e=>⟨u,k b u hc e⟩) (λb xs e=>by rw [ag (nH b _ e)];exact e) (λb u v e=>by rw [ag (nH b _ e)];exact e) (λb ps e=>⟨#[],by rw [ag (nH b _ e),e];simp⟩) (λm hm=>?_) (λb u e=>?_) I.bare
 ·obtain ⟨f0,f1,f2,f3,f4,f5⟩:=f b hb;exact ⟨f3,f1,f4,f5⟩
 ·obtain ⟨u,es,ep,ho,r⟩:=hm;exact ⟨u,es,ep,k _ u (λz=>(f _ z).2.1 rfl) ho,r⟩
 ·by_cases hb:b=T
  ·subst hb;rw [ac] at e
   cases e
   exact new
  ·rw [ag hb] at e;refine (I.hok b u e).stay (λc v hc q=>k c v ?_ q) (λc q=>?_) λc xs q=>by rw [ag (nH c _ q)];exact q
   ·rcases hc with z | z
    ·rw [z];exact nw b u e
    ·exact nw c _ z
   ·rw [ag (nH c _ q)];exact q
theorem Inv.turnedL {t':Nat} {wr:List Addr} (I:Inv X pins σ H s) (k:∀ b u,b∉wr->s.heap.get? b=some u->h'.get? b=some u) (f:∀ b∈wr,dj X pins H b):Inv X pins σ H { s with heap:=h',toks:=t' }:=by
 have nw:∀ b u,H b=some u->b∉wr:=λb u e z=>by rw [(f b z).1] at e;cases e
 refine I.step (g':=s.gens) (d':=s.drawn) (ch:=wr) (λb hb=>?_) (λb u _ _ hc e _=>k b u hc e) (λb u _ _ hc e _=>⟨u.slots,k b u hc e⟩) (λ_ _ _ _ n=>n)
  (λb u hc e=>⟨u,k b u hc e⟩) (λ_ _ e=>e) (λ_ _ _ e=>e) (λb ps e=>⟨#[],by rw [e];simp⟩) (λm hm=>?_) (λb u e=>?_) I.bare
 ·obtain ⟨f0,f1,f2,f3,f4,f5⟩:=f b hb;exact ⟨f3,f1,f4,f5⟩
 ·obtain ⟨u,es,ep,ho,r⟩:=hm;exact ⟨u,es,ep,k _ u (λz=>(f _ z).2.1 rfl) ho,r⟩
 ·refine (I.hok b u e).stay (λc v hc q=>k c v ?_ q) (λ_ q=>q) λ_ _ q=>q;rcases hc with z | z
  ·rw [z];exact nw b u e
  ·exact nw c _ z
end
def Itz (K:W.Frag) (a b:Addr):It :=
 ⟨λi H=>∃ xs ys x y,SqL K H a xs/\SqL K H b ys/\xs[i]?=some x/\ys[i]?=some y,
  λi H v H'=>∃ T x y,v=.ref T/\H T=none/\H'=upd H T (.tup [x,y])/\(∀ xs,SqL K H a xs->xs[i]?=some x)/\(∀ ys,SqL K H b ys->ys[i]?=some y),
  λi H=>∃ xs ys,SqL K H a xs/\SqL K H b ys/\min xs.length ys.length=i⟩
def IW (z TI TO i1 i2 l1 l2:Addr) (i:Nat) (h:Heap):Prop:=IsZip h z TI TO .none/\IsPair h TI (.ref i1) (.ref i2)/\(∃ a b,IsPair h TO a b)/\h.IsListIter i1 l1 i/\h.IsListIter i2 l2 i
theorem tY {P:Program} {w:World} {K:W.Frag} {elts:List Expr} {k:Nat} {pos:Pos} (z TI TO i1 i2 l1 l2:Addr) (D:ZipApart z TI TO i1 i2 l1 l2) :
  Turn P w K (.Tuple elts k pos) (Itz K l1 l2) [z,TI,TO,i1,i2] z (IW z TI TO i1 i2 l1 l2) where
 mem:=by simp
 obj:=λi h st b hb=>by
  obtain ⟨hz,hTI,⟨a,c,hTO⟩,⟨o1,e1,c1,d1⟩,⟨o2,e2,c2,d2⟩⟩:=st;simp only [aAm,aA8,or_false] at hb;rcases hb with rfl | rfl | rfl | rfl | rfl
  ·exact ⟨_,hz,λv q=>by cases q⟩
  ·exact ⟨_,hTI,λv q=>by cases q⟩
  ·exact ⟨_,hTO,λv q=>by cases q⟩
  ·exact ⟨o1,e1,λv q=>by rw [d1] at q;cases q⟩
  ·exact ⟨o2,e2,λv q=>by rw [d2] at q;cases q⟩
 keep:=λi h h' st kk=>by
  obtain ⟨hz,hTI,⟨a,c,hTO⟩,h1,h2⟩:=st;exact ⟨kk z (by simp) _ hz,kk TI (by simp) _ hTI,⟨a,c,kk TO (by simp) _ hTO⟩,h1.at λo e=>kk i1 (by simp) o e,h2.at λo e=>kk i2 (by simp) o e⟩
 item:=by
  intro X hP hw hK hc i pins s σ H E I hf st hg;subst hP hw hK;obtain ⟨xs,ys,x,y,hx,hy,ex,ey⟩:=hg;obtain ⟨its,rv,p,hz⟩:=I.list hx;obtain ⟨its2,rv2,p2,hz2⟩:=I.list hy;obtain ⟨s1,s2,s3,s4,s5⟩:=st;have W:=WalksT.zip2 (prog:=X.prog) (w:=X.w) (I.ok.hd hc) z TI TO i1 i2 l1 l2 D its.toArray its2.toArray;have li:i < xs.length:=(aAc.mp ex).1;have li2:i < ys.length:=(aAc.mp ey).1;have el:=rv.length;have el2:=rv2.length;have wsub:∀ b∈[z,TO,i1,i2],b∈[z,TI,TO,i1,i2]:=λb hb=>by
   simp only [aAm,aA8,or_false] at hb ⊢;rcases hb with rfl | rfl | rfl | rfl <;> simp
  refine W.item i s _ _ (by simp only [aAh];lia) ⟨s1,s2,s3,s4,s5,p.isList,p2.isList⟩ λT vals h' tk hv hT hTup hm hk=>?_;obtain ⟨u,v,eu,ev,rfl⟩:=hv;obtain ⟨u',eu',ru⟩:=rv.get ex;obtain ⟨v',ev',rv'⟩:=rv2.get ey;have e1:u=u':=by
   have:its[i]?=some u:=by simpa using eu
   rw [eu'] at this;exact (Option.some.inj this).symm
  have e2:v=v':=by
   have:its2[i]?=some v:=by simpa using ev
   rw [ev'] at this;exact (Option.some.inj this).symm
  subst e1 e2;have hTn:H T=none:=I.hok.fresh hT;have I1:Inv X pins σ (upd H T (.tup [x,y])) { s with heap:=h',toks:=tk }:=I.turnedT hk (λb hb=>hf b (wsub b hb)) hT ⟨by show 2<=sizeLine;decide,[u,v],.cons ru (.cons rv' .nil),hTup⟩;have ap:=W.apart i T h' hm;have f1:∀ b∈[z,TO,i1,i2],dj X pins (upd H T (.tup [x,y])) b:=λb hb=>by
   obtain ⟨f0,f1⟩:=hf b (wsub b hb);exact ⟨by rw [ag (λe:b=T=>ap (by rw [<- e];exact hb))];exact f0,f1⟩
  refine ⟨_,rfl,W.go elts k pos i T _ _ _ hm λh'' st2 hk2=>?_⟩;obtain ⟨t1,t2,t3,t4,t5,_,_⟩:=st2;refine ⟨.ref T,_,Inv.turnedL (s:={ s with heap:=h',toks:=tk }) (t':=tk) I1 hk2 f1,rfl,⟨T,x,y,rfl,hTn,rfl,λzs q=>by rw [I.list_inj q hx];exact ex,λzs q=>by rw [I.list_inj q hy];exact ey⟩,⟨t1,t2,t3,t4,t5⟩,λb hb=>?_⟩;have fb:=(hf b hb).1
  by_cases e:b=T
  ·subst e;have lti:s.heap.objs.size > TI:=aAb s2;simp only [aAm,aA8,or_false] at hb;rcases hb with rfl | rfl | rfl | rfl | rfl
   ·exact absurd (by simp) ap
   ·exact absurd lti (Nat.not_lt.mpr hT)
   ·exact absurd (by simp) ap
   ·exact absurd (by simp) ap
   ·exact absurd (by simp) ap
  ·rw [ag e];exact fb
 done:=by
  intro X hP hw hK hc i pins s σ H E I hf st hg;subst hP hw hK;obtain ⟨xs,ys,hx,hy,hi⟩:=hg;obtain ⟨its,rv,p,hz⟩:=I.list hx;obtain ⟨its2,rv2,p2,hz2⟩:=I.list hy;obtain ⟨s1,s2,s3,s4,s5⟩:=st;have W:=WalksT.zip2 (prog:=X.prog) (w:=X.w) (I.ok.hd hc) z TI TO i1 i2 l1 l2 D its.toArray its2.toArray;have el:=rv.length;have el2:=rv2.length;have en:min its.toArray.size its2.toArray.size=i:=by simp only [aAh];lia
  have wsub:∀ b∈[z,TO,i1,i2],b∈[z,TI,TO,i1,i2]:=λb hb=>by
   simp only [aAm,aA8,or_false] at hb ⊢;rcases hb with rfl | rfl | rfl | rfl <;> simp
  refine W.done s _ _ ?_ λh' tk hk=>⟨rfl,I.turnedL hk λb hb=>hf b (wsub b hb)⟩;rw [en];exact ⟨s1,s2,s3,s4,s5,p.isList,p2.isList⟩
 self:=λ_ _ _ _ _ st h=>wpAny_pyIter_zip st.1 h
section
variable {X:Cx} {elts:List Expr} {k:Nat} {tpos:Pos}
def JZ (K:W.Frag) (ta:TA):TI:=λσ H R=>ta σ H λvs H1=>∃ a b,vs=[.ref a,.ref b]/\(∃ xs,SqL K H1 a xs)/\(∃ ys,SqL K H1 b ys)/\R (Itz K a b) H1
theorem Ba {a b:Expr} {ta:TA} {p pos:Pos} (hg:Gl X "zip") (hm:X.mg "zip" = none) (ha:PA X [a,b] ta) (hs:starEach [a,b] X.env=[(false,eval a X.env),(false,eval b X.env)]:=by rfl) (hs2:starEach [b] X.env=[(false,eval b X.env)]:=by rfl) :
  PI X (.Tuple elts k tpos) (.Call (.Name "zip" p) [a,b] [] pos) (JZ X.K ta):=by
 intro pins s σ H R I h;refine Call_ (di I hg hm boot_zip (PyProof.Rows.callWith_type1 (thn (ha pos pins s σ H _ I h) λus s1 ⟨vs,H1,I1,r1,q1⟩=>?_) (by rw [hs,hs2]) (by rw [hs2];rfl)));obtain ⟨l1,l2,e,⟨xs,hx⟩,⟨ys,hy⟩,q⟩:=q1;subst e;obtain ⟨u,v,rfl,ru,rv⟩:=r1.two
 cases ru
 cases rv
 obtain ⟨its,rr,pl,hz⟩:=I1.list hx;obtain ⟨its2,rr2,pl2,hz2⟩:=I1.list hy;have lt1:l1 < s1.heap.objs.size:=by obtain ⟨o,e,_⟩:=pl.isList;exact aAb e
 have lt2:l2 < s1.heap.objs.size:=by obtain ⟨o,e,_⟩:=pl2.isList;exact aAb e
 refine call_zip_2 pl.isList pl2.isList λh' z1 z2 z3 z4 z5 zs kk=>?_;have I2:Inv X pins σ H1 { s1 with heap:=h' }:=I1.kept (t':=s1.toks) kk;refine wpAny_pyIter_zip z1 ?_;refine ⟨_,_,_,_,H1,rfl,I2,tY _ _ _ _ _ l1 l2 ?_,⟨z1,z2,⟨_,_,z3⟩,z4,z5⟩,λb hb=>?_,q⟩
 ·have lt1':s1.heap.objs.size > l1:=lt1;have lt2':s1.heap.objs.size > l2:=lt2
  constructor <;> (show ¬ (@Eq Nat _ _)) <;> lia
 ·have:s1.heap.objs.size<=b:=by
   simp only [aAm,aA8,or_false] at hb;rcases hb with rfl | rfl | rfl | rfl | rfl <;> lia
  exact I1.fpOk this (I1.hok.fresh this)
end
theorem tZ {K:W.Frag} {a b l:Addr} {xs ys:List V} {g:TG} {tb:List V->Addr->St->Hp->(List V->St->Hp->Prop)->Prop} {Q:VK} {σ0:St} {H0:Hp} (Pv:Nat->List V->St->Hp->Prop) (h0:Pv 0 [] σ0 H0)
  (hla:∀ i us σ H,Pv i us σ H->SqL K H a xs/\SqL K H b ys)
  (hs:∀ i x y T us σ H (N:List V->St->Hp->Prop),xs[i]?=some x->ys[i]?=some y->H T=none->Pv i us σ H->(∀ us' σ' H',Pv (i+1) us' σ' H'->N us' σ' H')->g (.ref T) σ (upd H T (.tup [x,y])) λσ2 H2=>tb us l σ2 H2 N)
  (hd:∀ us σ H,Pv (min xs.length ys.length) us σ H->Q (.ref l) H) :
  ∃ W:Nat->Nat->List V->St->Hp->Prop,(∃ m,W 0 m [] σ0 H0)/\∀ i m us σ' H',W i m us σ' H'->((Itz K a b).stop i H'/\Q (.ref l) H') \/
   ((Itz K a b).go i H'/\∀ x H'',(Itz K a b).yld i H' x H''->g x σ' H'' λσ2 H2=>tb us l σ2 H2 λus' σ3 H3=>∃ m',m' < m/\W (i+1) m' us' σ3 H3):=by
 refine ⟨λi m us σ H=>m=min xs.length ys.length - i/\i<=min xs.length ys.length/\Pv i us σ H,⟨_,rfl,aAI _,h0⟩,?_⟩;rintro i m us σ H ⟨rfl,hi,p⟩;obtain ⟨sa,sb⟩:=hla i us σ H p
 by_cases hlt:i < min xs.length ys.length
 ·obtain ⟨x,ex⟩:∃ x,xs[i]?=some x:=⟨_,aAi (by lia)⟩;obtain ⟨y,ey⟩:∃ y,ys[i]?=some y:=⟨_,aAi (by lia)⟩;refine .inr ⟨⟨xs,ys,x,y,sa,sb,ex,ey⟩,λv H' q=>?_⟩;obtain ⟨T,x',y',rfl,hT,rfl,q1,q2⟩:=q;have e1:=q1 xs sa;have e2:=q2 ys sb;exact hs i x' y' T us σ H _ e1 e2 hT p λus' σ' H' w=>⟨_,by lia,rfl,hlt,w⟩
 ·have e:i=min xs.length ys.length:=by lia
  subst e;exact .inl ⟨⟨xs,ys,sa,sb,rfl⟩,hd us σ H p⟩
def met:List Key->List Key
 | []=>[]
 | k :: r=>if r.any (λj=>decide (j=k)) then met r else k :: met r
theorem lE (k:Key):∀ l:List Key,(met l).any (λj=>decide (j=k))=l.any (λj=>decide (j=k))
 | []=>rfl
 | a :: r=>by
  unfold met
  split
  ·rename_i h
   rw [lE k r,aA5]
   by_cases e:a=k
   ·subst e;rw [h];simp
   ·simp [e]
  ·rw [aA5,aA5,lE k r]
theorem uc:∀ l:List Key,(met l).length<=l.length
 | []=>aAf _
 | a :: r=>by
  unfold met;have:=uc r
  split
  ·rw [aAo];lia
  ·rw [aAo,aAo];lia
theorem qu:∀ {l:List Key},l.Nodup->(met l).length=l.length
 | [],_=>rfl
 | a :: r,h=>by
  obtain ⟨h1,h2⟩:=aBa.mp h;unfold met;rw [if_neg,aAo,aAo,qu h2];intro z;obtain ⟨b,hb,e⟩:=List.any_eq_true.mp z;exact h1 (of_decide_eq_true e ▸ hb)
abbrev gM (ks:List Key) (i:Nat):List Key:=met (ks.take i).reverse
theorem kG {ks:List Key} {i:Nat} {k:Key} (h:ks[i]?=some k):gM ks (i+1)=if (gM ks i).any (λj=>decide (j=k)) then gM ks i else k :: gM ks i:=by
 have e:(ks.take (i+1)).reverse=k :: (ks.take i).reverse:=by rw [aBm,h];simp
 show met (ks.take (i+1)).reverse=_;rw [e];show (if (ks.take i).reverse.any (λj=>decide (j=k)) then met (ks.take i).reverse else k :: met (ks.take i).reverse)=_;rw [<- lE k (ks.take i).reverse]
theorem vV (ks:List Key) (i:Nat):(gM ks i).length<=i:=by
 have h:=uc (ks.take i).reverse;rw [List.length_reverse,aAB] at h;show (met (ks.take i).reverse).length<=i;lia
section
variable {P:Program} {w:World} {A:Around} {R:Result->Shared->Prop} {it:Addr} {fp wr:List Addr} {G:Array GenState->Array GenState->Prop} {n:Nat} {Pt:Nat->Value->Prop} {St:Nat->Shared->Prop}
abbrev SetK (P:Program) (w:World) (h:Heap) (a:Addr) (l:List Key):Prop:=h.SetOf (ar P w) a (λk=>l.any λj=>decide (j=k)) l.length
theorem SetK.kept {h h':Heap} {a:Addr} {l:List Key} (x:SetK P w h a l) (k:∀ o,h.get? a=some o->h'.get? a=some o):SetK P w h' a l:=by
 obtain ⟨o,es,ep,tb,ho,rest⟩:=x;exact ⟨o,es,ep,tb,k o ho,rest⟩
theorem ud {h:Heap} {a:Addr} {S S':Key->Bool} {n n':Nat} (x:h.SetOf (ar P w) a S n) (e:∀ k,S k=S' k) (en:n=n'):h.SetOf (ar P w) a S' n':=by
 cases en
 cases (funext e:S=S')
 exact x
theorem ue (W:WalksS P w A.in1 it fp wr G n Pt St) (S:Addr) (hS0:S∉fp) (ks:List Key) (hks:ks.length=n) (hv:∀ i v,Pt i v->∃ k,ks[i]?=some k/\(ar P w).is k v=true/\v.scannable=true) (hn:n+1 < scanBound) :
  ∀ (d i:Nat) (s:Shared),n - i=d->i<=n->St i s->SetK P w s.heap S (gM ks i) ->
   (∀ s',Moved (S :: wr) G s s'->SetK P w s'.heap S (gM ks n)->R (.ok (.ret .none)) s')->codeAny (model P w) A (.builtin "set.update.loop" ⟨[.ref S,.ref it],[]⟩) R s:=by
 have nw:S∉wr:=λz=>hS0 (W.sub _ z);have up:∀ b∈wr,b∈S :: wr:=λb z=>aAp _ z;intro d
 induction d with
 | zero =>
  intro i s e1 e2 st hS hR;obtain rfl:i=n:=by lia
  refine codeAny_builtin PyProof.Rows.F.entry_set_update_loop (by
   rw [Around.under_plainId PyProof.Rows.F.plain_set_update_loop _];show wpAny _ A.in1 (pyNext (.ref it) >>= _) _ _ s;refine wpAny_bind (W.done s _ _ st λs' mv=>?_);exact wpAny_pure (hR s' (mv.mono up) (hS.kept λo q=>mv.heap S o nw q)))
 | succ d ih =>
  intro i s e1 e2 st hS hR;have lt:i < n:=by lia
  refine codeAny_builtin PyProof.Rows.F.entry_set_update_loop (by
   rw [Around.under_plainId PyProof.Rows.F.plain_set_update_loop _];show wpAny _ A.in1 (pyNext (.ref it) >>= _) _ _ s;refine wpAny_bind (W.item i s _ _ lt st λv s' pv st' mv=>?_);obtain ⟨k,ek,kv,sc⟩:=hv i v pv;have hS':=hS.kept (h':=s'.heap) λo q=>mv.heap S o nw q;show wpAny _ A.in1 (holding [v] (setAdd S v) >>= _) _ _ s';refine wpAny_bind (wpAny_holding (by
    unfold setAdd;refine wpAny_holding (wpAny_bind ((ar P w).pyHash kv ?_));have room:(gM ks i).length+1 < scanBound:=by have:=vV ks i;lia
    refine wpAny_setAddHashed_of (knd:=ar P w) (s:={ s' with toks:=s'.toks+1 }) kv sc hS' room λh2 sb hS2=>?_;have hS3:SetK P w h2 S (gM ks (i+1)):=by
     refine ud hS2 (λj=>?_) ?_
     ·rw [kG ek]
      split
      ·rename_i c
       by_cases z:j=k
       ·subst z;rw [c];simp
       ·simp [z]
      ·rw [aA5,Bool.or_comm]
       congr 1
       exact decide_eq_decide.mpr eq_comm
     ·rw [kG ek]
      split <;> rfl
    refine wpAny_pure ⟨plainId_quiet PyProof.Rows.F.plain_set_update_loop _,ih (i+1) _ (by lia) lt (W.frame _ s' _ _ st' (aBo _) λb hb o q=>?_) hS3 λs3 mv3 hS4=>?_⟩
    ·rw [sb.2 b (λz:b=S=>hS0 (by rw [<- z];exact hb))];exact q
    ·refine hR s3 (Moved.trans W.gtrans ((mv.mono up).then_heap (aBo _) λb o hb q=>?_) mv3) hS4;rw [sb.2 b (λz:b=S=>hb (by rw [z];exact aAr))];exact q)))
theorem jN:isSubtype (.type "tuple") (.type "set")=pure false:=dB _ _
theorem e8:isSubtype (.type "tuple") (.type "frozenset")=pure false:=dB _ _
end
section
variable {P:Program} {w:World} {A:Around} {E:Value->Shared->Prop} {s:Shared}
def lF (b:Bool):Obj:={ cls:=.type "set",dict:=none,data:=.set #[] 0 (.fresh 0 0 b) }
set_option maxHeartbeats 3200000 in
theorem lG {t:Addr} {its:Array Value} {ks:List Key} {Q:Value->Shared->Prop} (hh:A.handled=none) (ht:s.heap.IsTuple t its) (hl:ks.length=its.size) (hv:∀ (i:Nat) v,its[i]?=some v->∃ k,ks[i]?=some k/\(ar P w).is k v=true/\v.scannable=true)
  (hn:its.size+1 < scanBound) (h:∀ (h':Heap) (tk:Nat),SetK P w h' s.heap.objs.size (gM ks its.size)->(∀ b o,s.heap.get? b=some o->h'.get? b=some o)->Q (.ref s.heap.objs.size) { s with heap:=h',toks:=tk }) :
  wpAny (model P w) A (call (.type "set") [.ref t]) Q E s:=by
 obtain ⟨c0,tl,hmro⟩:=PySem.F.called_set.mro;have k1:=PySem.F.called_set.made;have k2:=PySem.F.called_set.sub;refine wpAny_call (codeAny_of_tree (by
  show wpAny _ _ (callAny (.type "set") _) _ _ _;refine wpAny_pure ⟨Code.quiet_builtin _ (by decide +kernel),codeAny_builtin PySem.F.entry_type_call ?_⟩;rw [Around.under_plain (weight_type_call_type "set" [.ref t] []) rfl];have k3:=PySem.F.called_set.notType;have k4:=PySem.F.called_set.canCreate;have k5:=PySem.F.typeCall_set_1 (.ref t)
  repeat (any_goals (first | assumption | wp_step))
  refine codeAny_mono (code_set_new_1 (.ref t) (E:=E) (Q₁:=λob s1=>∃ b:Bool,ob=.ref s.heap.objs.size/\s1={ s with heap:=s.heap.push (lF b) }) λb=>⟨b,rfl,rfl⟩) λr s1 hr=>?_
  cases r with
  | error e=>exact hr
  | ok fl =>
   cases fl with
   | ret ob =>
    obtain ⟨b,rfl,rfl⟩:=hr;have g1:(s.heap.push (lF b)).get? s.heap.objs.size=some (lF b):=aAg _ rfl;have tS:Shared.TypeIs { s with heap:=s.heap.push (lF b) } (.ref s.heap.objs.size) "set" :=⟨_,g1,rfl⟩;have k6:=PySem.F.called_set.init.lookup;have k7:=PySem.F.called_set.init.bind (.ref s.heap.objs.size)
    repeat (any_goals (first | assumption | wp_step))
    refine codeAny_mono (codeAny_call_builtin (R:=wants (λr s2=>r=.none/\∃ h' tk,s2={ s with heap:=h',toks:=tk }/\SetK P w h' s.heap.objs.size (gM ks its.size)/\(∀ b o,s.heap.get? b=some o->h'.get? b=some o)) E)
     PySem.F.called_set.init.plain PySem.F.entry_set_init (check_set_init_1 tS ?_)) λr2 s2 hr2=>?_
    ·obtain ⟨⟨oc,od,oa,osl⟩,ho,hcl,nl,hdt⟩:=id ht;simp only at hcl hdt;subst hcl hdt;have ht1:(s.heap.push (lF b)).IsTuple t its:=⟨_,aAa _ ho,rfl,nl,rfl⟩;have ho1:(s.heap.push (lF b)).get? t=some { cls:=.type "tuple",dict:=od,data:=.seq its nl,slots:=osl }:=aAa _ ho;have k8:=jN;have k9:=e8;have ka:(Value.type "tuple" == Value.type "dict")=false:=(1)
     unfold Builtin.«set.__init__» noKeywords Builtin.Frozenset.updateFrom
     generalize hPI:pyIter=PI
     wp_walk
     subst hPI;refine wpAny_pyIter_tuple ht1 ?_;refine wpAny_bind (wpAny_runValue ?_);have lt:s.heap.objs.size > t:=aAb ho;have hh3:A.in1.in1.in1.handled=none:=by simp [hh]
     have sz:(s.heap.push (lF b)).objs.size=s.heap.objs.size+1:=aAL ..;have ne1:t≠(s.heap.push (lF b)).objs.size:=by rw [sz];exact aAk (aBE lt)
     have nS:s.heap.objs.size∉[(s.heap.push (lF b)).objs.size,t]:=by
      rw [sz];intro z;rcases aAm.mp z with z | z
      ·exact absurd z (aAk (aA2 _))
      ·exact absurd (aAA.mp z) (aAQ lt)
     refine ue ((Walks.tuple hh3 _ t ne1 its).toS) s.heap.objs.size nS ks hl hv hn (its.size - 0) 0 _ rfl (aAI _) ⟨⟨_,aAg _ rfl,rfl,rfl⟩,ht1.push _⟩ ?_ ?_
     ·exact ⟨_,#[],0,_,aAa _ g1,⟨rfl,rfl,rfl⟩,rfl,(λe he=>by simp at he),(λk=>⟨λz=>Bool.noConfusion (show false=true from z),λ⟨e,he,_⟩=>(aA8 he).elim⟩),(1),rfl,rfl⟩
     ·intro s3 mv hS3;obtain ⟨h3,g3,d3,t3,o3⟩:=s3
      cases (mv.gens:g3=s.gens)
      cases (mv.drawn:d3=s.drawn)
      cases (mv.os:o3=s.os)
      refine wpAny_pure (wpAny_pure ⟨rfl,h3,t3,rfl,hS3,λc o q=>?_⟩);have lc:s.heap.objs.size > c:=aAb q;refine mv.heap c o ?_ (aAa _ (aAa _ q));intro z;rcases aAm.mp z with z | z
      ·exact absurd z (aAk lc)
      ·exact absurd ((aAA.mp z).trans sz) (aAk (aBE lc))
    ·cases r2 with
     | error e=>exact hr2
     | ok fl2 =>
      cases fl2 with
      | ret r =>
       obtain ⟨rfl,h',tk,rfl,q1,q2⟩:=hr2
       repeat (any_goals (first | assumption | wp_step))
       exact h _ _ q1 q2
      | _=>exact hr2.elim
   | _=>exact hr.elim))
end
def Bb (P:Program) (w:World) (p:Addr) (n:Nat):HO:=.ext λh=>∃ l,SetK P w h p l/\l.length=n
section
variable {X:Cx}
theorem vW {k:Key} {u:Value} (r:RelV (kV k) u):u.scannable=true:=by
 cases k with
 | inl i=>obtain ⟨t,rfl⟩:=r;rfl
 | inr z=>obtain ⟨t,rfl⟩:=r;rfl
theorem rN (hc:X.calm=true):aS X (.type "set") (λxs H Q=>∃ a ks,xs=[.ref a]/\SqT X.K H a (ks.map kV)/\ks.length<=1000/\∀ p,H p=none->Q (.ref p) (upd H p (Bb X.prog X.w p (gM ks ks.length).length))):=by
 intro pins s σ H xs us Q I r h;obtain ⟨a,ks,rfl,ha,hl,q⟩:=h;obtain ⟨u,rfl,rx⟩:=cq r
 cases rx
 obtain ⟨its,rv,ht,hz⟩:=I.tuple ha;have el:=rv.length;rw [aAe] at el;have ez:its.toArray.size=ks.length:=by rw [aAh,el]
 refine lG (ks:=ks) (I.ok.hd hc) (show s.heap.IsTuple a its.toArray from ht) ez.symm (λi v e=>?_) (by rw [ez];unfold scanBound;lia) λh' tk hS kk=>?_
 ·have e':its[i]?=some v:=by simpa using e
  have hi:i < ks.length:=by rw [el];exact (aAc.mp e').1
  obtain ⟨v',ev,rk⟩:=rv.get (i:=i) (x:=kV ks[i]) (by rw [aAC,aAi hi];rfl);rw [e'] at ev
  cases ev
  exact ⟨ks[i],aAi hi,kE rk,vW rk⟩
 ·rw [ez] at hS;refine ⟨.ref s.heap.objs.size,_,I.laid (a:=s.heap.objs.size) (o:=Bb X.prog X.w s.heap.objs.size (gM ks ks.length).length) kk (aAf _) ?_,rfl,q _ (I.hok.fresh (aAf _))⟩;obtain ⟨o,_,_,_,ho,_⟩:=id hS;exact ⟨⟨_,hS,rfl⟩,⟨o,ho⟩,λh1 h2 ⟨l,hl,e⟩ k=>⟨l,hl.kept k,e⟩⟩
theorem rO:aS X (.builtin "len") (λxs H Q=>∃ p n,xs=[.ref p]/\H p=some (Bb X.prog X.w p n)/\Q (.int n) H):=by
 intro pins s σ H xs us Q I r h;obtain ⟨p,n,rfl,e,q⟩:=h;obtain ⟨u,rfl,rx⟩:=cq r
 cases rx
 obtain ⟨⟨l,hS,en⟩,_,_⟩:=I.hok p _ e;obtain ⟨o,es,ep,tb,ho,hex,hd,_,_,hb,hf,hn⟩:=hS;have e2:es.size=n:=hn.trans en;have hb':es.size < 4096:=hb;exact call_len_set ho hex hd hf (by lia) ⟨.int n,H,I.tok _,⟨_,by rw [e2]⟩,q⟩
end
section
variable {K:W.Frag} {a b l:Addr} {xs ys:List V} {g:TG} {tb:List V->Addr->St->Hp->(List V->St->Hp->Prop)->Prop} {R:Hp->Prop} {σ0:St} {H0:Hp}
theorem aR (Pv:Nat->List V->St->Hp->Prop) (h0:Pv 0 [] σ0 H0) (hl:∀ i ys σ H,i<=xs.length->Pv i ys σ H->SqT K H a xs)
  (hs:∀ i x ys σ H (N:List V->St->Hp->Prop),xs[i]?=some x->Pv i ys σ H->(∀ ys' σ' H',Pv (i+1) ys' σ' H'->N ys' σ' H')->g x σ H λσ2 H2=>tb ys l σ2 H2 N)
  (hd:∀ ys σ H,Pv xs.length ys σ H->R H) :
  ∃ W:Nat->Nat->List V->St->Hp->Prop,(∃ m,W 0 m [] σ0 H0)/\∀ i m ys σ' H',W i m ys σ' H'->((Itt K a).stop i H'/\R H') \/
   ((Itt K a).go i H'/\∀ x H'',(Itt K a).yld i H' x H''->g x σ' H'' λσ2 H2=>tb ys l σ2 H2 λys' σ3 H3=>∃ m',m' < m/\W (i+1) m' ys' σ3 H3):=tM (Q:=λ_ H=>R H) Pv h0 hl hs hd
theorem ph (Pv:Nat->List V->St->Hp->Prop) (h0:Pv 0 [] σ0 H0) (hl:∀ i ys σ H,i<=xs.length->Pv i ys σ H->SqL K H a xs)
  (hs:∀ i x ys σ H (N:List V->St->Hp->Prop),xs[i]?=some x->Pv i ys σ H->(∀ ys' σ' H',Pv (i+1) ys' σ' H'->N ys' σ' H')->g x σ H λσ2 H2=>tb ys l σ2 H2 N)
  (hd:∀ ys σ H,Pv xs.length ys σ H->R H) :
  ∃ W:Nat->Nat->List V->St->Hp->Prop,(∃ m,W 0 m [] σ0 H0)/\∀ i m ys σ' H',W i m ys σ' H'->((Itl K a).stop i H'/\R H') \/
   ((Itl K a).go i H'/\∀ x H'',(Itl K a).yld i H' x H''->g x σ' H'' λσ2 H2=>tb ys l σ2 H2 λys' σ3 H3=>∃ m',m' < m/\W (i+1) m' ys' σ3 H3):=rE (Q:=λ_ H=>R H) Pv h0 hl hs hd
theorem rP (Pv:Nat->List V->St->Hp->Prop) (h0:Pv 0 [] σ0 H0) (hla:∀ i us σ H,Pv i us σ H->SqL K H a xs/\SqL K H b ys)
  (hs:∀ i x y T us σ H (N:List V->St->Hp->Prop),xs[i]?=some x->ys[i]?=some y->H T=none->Pv i us σ H->(∀ us' σ' H',Pv (i+1) us' σ' H'->N us' σ' H')->g (.ref T) σ (upd H T (.tup [x,y])) λσ2 H2=>tb us l σ2 H2 N)
  (hd:∀ us σ H,Pv (min xs.length ys.length) us σ H->R H) :
  ∃ W:Nat->Nat->List V->St->Hp->Prop,(∃ m,W 0 m [] σ0 H0)/\∀ i m us σ' H',W i m us σ' H'->((Itz K a b).stop i H'/\R H') \/
   ((Itz K a b).go i H'/\∀ x H'',(Itz K a b).yld i H' x H''->g x σ' H'' λσ2 H2=>tb us l σ2 H2 λus' σ3 H3=>∃ m',m' < m/\W (i+1) m' us' σ3 H3):=tZ (Q:=λ_ H=>R H) Pv h0 hla hs hd
end
theorem dE {X:Cx} {K:W.Frag} {es:List Expr} {k:Nat} {pos:Pos} {t:TGs} {n:Nat} (hK:X.K=K) (hc:X.calm=true) (h:PGs X es t)
  (hn:(assignEach es X.env).length=n:=by rfl) (hst:(assignEach es X.env).findIdx? (·.1)=none:=by rfl):PG X (.Tuple es k pos) (IA K n t):=by
 subst hK;exact oE hc h hn hst
theorem aK {H H1:Hp} {l:Addr} {o:HO} (hl:H l=none) (g:Same H H1):Same H (upd H1 l o):=λb u e=>by rw [ag (ah e hl)];exact g b u e
section
variable {X:Cx}
theorem uf {elt tgt iter:Expr} {ifs:List Expr} {scope:Scope} {pos spos py:Pos} {NL N':List Str} {ρ:List Nat} {wi:TI} {g:TG} {tb:List V->Addr->St->Hp->(List V->St->Hp->Prop)->Prop} {body:Value->Env->Sem Unit} {j:Nat} {y:Str}
  (hN:X.N.Nodup) (hj:X.N[j]?=some y) (hy:Loc X.env.scope y) (hfn:X.fn y=true\/X.env.scope.names.lookup y=some .local)
  (hsw:swapsWith (.ListComp elt [⟨tgt,iter,ifs,0⟩] scope pos) (some (.Name y py)) spos.line X.env=pure true)
  (hc:X.calm=true) (S:CScope X scope NL ρ N') (hi:PI X tgt iter wi)
  (hg:∀ C s₀ H₀ fp,PG (ccx X scope C N' s₀ H₀ fp) tgt g) (hb:∀ C s₀ H₀ fp,PB (ccx X scope C N' s₀ H₀ fp) (λacc=>body acc (ccx X scope C N' s₀ H₀ fp).env) tb)
  (he:∀ (it acc:Value) (env:Env),compTurn (.ListComp elt [⟨tgt,iter,ifs,0⟩] scope pos) 0 it acc env=(standAt iter.pos >>= λ_=>pyNext it >>= λr=>match r with
   | none=>pure (.done .next)
   | some v=>letOwnedTupleGo tgt it v >>= λ_=>assign tgt env v >>= λ_=>body acc env >>= λ_=>again (.compLoop (.ListComp elt [⟨tgt,iter,ifs,0⟩] scope pos) 0 it acc env)))
  (hs:∀ x,foldedSetIterable iter X.env x=pure x:=by intro _;rfl):PS X (.Assign [.Name y py] (.ListComp elt [⟨tgt,iter,ifs,0⟩] scope pos) spos) (re (kz NL.length ρ wi g tb) (dX j)):=by
 intro pins s σ H D0 I h;have free_in:∀ x∈scope.names,x.2=.free->∃ c,X.env.cells.lookup x.1=some c:=λx hx hk=>I.ok.has x.1 (S.frees x hx hk);rw [exec_Assign_Name_used _ _ _ _ hsw];refine wpAny_bind (wpAny_standAt (wpAny_bind ?_));rw [arm_evalThenUse_ListComp];refine wpAny_bind (thn (Q:=λ_ s'=>SP X pins D0 .next s') ?_ λ_ s' q0=>wpAny_pure (wpAny_pure q0));refine wpAny_comprehension_free (use:=some (assign (.Name y py) X.env)) (Q:=λ_ s'=>SP X pins D0 .next s') rfl hs (fC free_in) S.kind S.locs ?_;refine thn (hi pins s σ H _ I h) λv s1 h1=>thn h1 λitv s2 h2=>?_;obtain ⟨it,fp,tn,J,H2,e,I2,T,st2,f2,w⟩:=h2;subst e;refine wpAny_newObj_type (wpAny_newFunctionEnv S.nocell (by intro y hy;simp at hy) (λh₁ hns₁ hsb₁=>?_) S.kind);dsimp only at hns₁ hsb₁ ⊢
 generalize hH2:s2.heap.push { cls:=.type "list",dict:=none,data:=.seq ([]:List Value).toArray }=h2' at hns₁ hsb₁ ⊢
 have hCs:h2'.objs.size=s2.heap.objs.size+1:=by rw [<- hH2,aAL]
 have hDC:s2.heap.objs.size≠h2'.objs.size:=by rw [hCs];exact aAk (aA2 _)
 have hC:s2.heap.objs.size<=h2'.objs.size:=by rw [hCs];exact aBo _
 have old:∀ b o,s2.heap.get? b=some o->h₁.get? b=some o:=λb o e=>hsb₁.extBut b o (aAk (aAd (aAb e) hC)) (aAa _ (hH2 ▸ aAa _ e));have hd:h₁.get? s2.heap.objs.size=some { cls:=.type "list",data:=.seq #[] 0 }:=hsb₁.extBut _ _ hDC (aAa _ (hH2 ▸ aAg _ rfl));have hfo:∀ b∈fp,∃ o,s2.heap.get? b=some o:=λb hb=>let ⟨o,e,_⟩:=T.obj _ _ st2 b hb;⟨o,e⟩;have I4:Inv (ccx X scope h2'.objs.size N' s2 H2 fp) (X.pn++pins) (cst NL.length ρ σ) (upd H2 s2.heap.objs.size (.lst [])) { s2 with heap:=h₁,toks:=s2.toks+([]:List (Str×Value)).length } :=
  Inv.comp S I2 f2 hfo hC (aAf _) hDC old hd (by simpa using hns₁)
 have hD0:H2 s2.heap.objs.size=none:=I2.hok.fresh (aAf _);have nfp:s2.heap.objs.size∉fp:=λz=>by
  obtain ⟨o,e⟩:=hfo _ z;exact absurd (aAb e) (aAx _)
 obtain ⟨W,⟨m0,w0⟩,turn⟩:=w s2.heap.objs.size hD0;have stat:∀ {H':Hp},(∀ b∈fp,H' b=none)->∀ b∈fp,dj (ccx X scope h2'.objs.size N' s2 H2 fp) (X.pn++pins) H' b:=λ{H'} hn b hb=>by
  obtain ⟨f0,f1,f2',f3,f4,f5⟩:=f2 b hb;have ok:=I4.ok;refine ⟨hn b hb,(ok.exf b hb).1,ok.exfs b hb,.inl hb,(ok.exf b hb).2,λp hp=>f5 p hp⟩
 have loop:∀ s₃:Shared,s₃={ s2 with heap:=h₁,toks:=s2.toks+([]:List (Str×Value)).length } ->
   codeAny (model X.prog X.w) X.A (.compLoop (.ListComp elt [⟨tgt,iter,ifs,0⟩] scope pos) 0 (.ref it) (.ref s2.heap.objs.size) (compEnvC scope (bV X.env scope.names []) h2'.objs.size X.env))
    (compPost (model X.prog X.w) X.A X.xe (some (assign (.Name y py) X.env)) (λ_ s'=>SP X pins D0 .next s') (.ref s2.heap.objs.size) h2'.objs.size) s₃:=by
  rintro s₃ rfl;refine codeAny_loop rfl (λn s'=>∃ i ys σ' H',Inv (ccx X scope h2'.objs.size N' s2 H2 fp) (X.pn++pins) σ' H' s'/\tn i s'.heap/\(∀ b∈fp,H' b=none)/\W i n ys σ' H') (λn s3 hI=>?_) m0
   ⟨0,[],_,_,I4,T.keep _ _ _ st2 (λb _ o e=>old b o e),λb hb=>?_,w0⟩
  ·obtain ⟨i,ys,σ3,H3,I3,st3,fr3,w3⟩:=hI;show wpAny _ _ ((compTurn (.ListComp elt [⟨tgt,iter,ifs,0⟩] scope pos) 0 (.ref it) (.ref s2.heap.objs.size) (compEnvC scope (bV X.env scope.names []) h2'.objs.size X.env)).onRaise (λx=>do noteFrame x _;theTreesLotGoes x)) _ _ s3;refine wpAny_noted ?_;rw [he];refine wpAny_bind (wpAny_standAt (wpAny_bind ?_));rcases turn i n ys σ3 H3 w3 with ⟨stop,qn⟩ | ⟨go,step⟩
   ·refine thn (T.done (ccx X scope h2'.objs.size N' s2 H2 fp) rfl rfl rfl hc i _ s3 σ3 H3 _ I3 (stat fr3) st3 stop) λr s4 ⟨hr,I5⟩=>?_;subst hr;refine wpAny_pure ?_;obtain ⟨m,hm,_⟩:=id I5.loc;have IX:Inv X pins σ H3 { s4 with heap:=s4.heap }:=Inv.compEnd I2 f2 hC I5 (Heap.SameBut.refl _ _);have cne:∀ x c,X.env.cells.lookup x=some c->c≠h2'.objs.size:=λx c ec z=>by
     obtain ⟨v0,oc,hoc,_⟩:=I2.cell x c ec;exact absurd (aAd (aAb hoc) hC) (by rw [z];exact aAx _)
    have lne:h2'.objs.size≠X.env.locals:=aAQ (aAd I2.lt hC);refine wpAny_assign_Name (kn IX hN hj hy (v:=.ref s2.heap.objs.size) rfl (λs5 I6 ⟨a,sb,ha⟩=>?_) hfn);have na:h2'.objs.size≠a:=λz=>by
     rcases ha with e | e
     ·exact lne (z.trans e)
     ·exact cne _ _ e z.symm
    refine ⟨m,hm.at' λo e=>(sb.2 _ na).trans e,λh' hs'=>⟨_,H3,?_,qn⟩⟩;exact I6.turned (t':=s5.toks) (λb o hb' e=>(hs'.2 b hb').trans e) I5.free lne (.inr (aAw I2.sz hC)) cne λq hq z=>by
     obtain ⟨e,_⟩:=I2.pin q hq;exact absurd (aAd (aAb e) hC) (by rw [z];exact aAx _)
   ·refine thn (T.item (ccx X scope h2'.objs.size N' s2 H2 fp) rfl rfl rfl hc i _ s3 σ3 H3 _ I3 (stat fr3) st3 go) λr s4 ⟨u,hr,h4⟩=>?_;subst hr;refine wpAny_bind (thn h4 λ_ s5 ⟨x,H5,I5,r5,y5,st5,fr5⟩=>?_);have I5':=I5.pinned (stat fr5) (T.obj _ _ st5);refine wpAny_bind (wpAny_mono (hg h2'.objs.size s2 H2 fp _ s5 σ3 H5 x u _ I5' r5 (step x H5 y5)) (λ_ s6 ⟨σ6,H6,I6,q6⟩=>?_) λ_ _ z=>z.elim);refine wpAny_bind (wpAny_mono (hb h2'.objs.size s2 H2 fp _ s6 σ6 H6 s2.heap.objs.size ys _ I6 q6) (λ_ s7 ⟨ys7,σ7,H7,I7,m',hm,w7⟩=>?_) λ_ _ z=>z.elim);refine wpAny_pure ⟨rfl,m',hm,i+1,ys7,σ7,H7,I7.unpinned,T.keep _ _ _ st5 λb hb o e=>(I7.pin (b,o) (aAn _ (aAn _ (be hb e)))).1,λb hb=>?_,w7⟩;obtain ⟨o,e,d⟩:=T.obj _ _ st5 b hb;exact (I7.pin (b,o) (aAn _ (aAn _ (be hb e)))).2.1
  ·rw [ag (show b≠s2.heap.objs.size from λz=>nfp (by rw [<- z];exact hb))];exact (f2 b hb).1
 refine codeAny_compStart_list (loop _ rfl) (T.self _ 0 _ _ _ ?_ (loop _ rfl));exact T.keep _ _ _ st2 λb _ o e=>old b o e
theorem ps_setC {elt tgt iter:Expr} {scope:Scope} {pos spos py:Pos} {NL N':List Str} {ρ:List Nat} {wi:TI} {g:TG} {te:TE} {j:Nat} {y:Str} (hN:X.N.Nodup) (hj:X.N[j]?=some y) (hy:Loc X.env.scope y)
  (hc:X.calm=true) (S:CScope X scope NL ρ N') (hi:PI X tgt iter wi) (hg:∀ C s₀ H₀ fp,PG (ccx X scope C N' s₀ H₀ fp) tgt g) (he:∀ C s₀ H₀ fp,PE (ccx X scope C N' s₀ H₀ fp) elt te)
  (hsw:swapsWith (.ListComp elt [⟨tgt,iter,[],0⟩] scope pos) (some (.Name y py)) spos.line X.env=pure true:=by rfl) (hfn:X.fn y=true\/X.env.scope.names.lookup y=some .local:=by first | exact .inl rfl | exact .inr rfl | assumption)
  (hs:∀ x,foldedSetIterable iter X.env x=pure x:=by intro _;rfl):PS X (.Assign [.Name y py] (.ListComp elt [⟨tgt,iter,[],0⟩] scope pos) spos) (re (kz NL.length ρ wi g (cEl te)) (dX j)) :=
 uf (body:=λacc env=>do let x <- eval elt env;let _ <- call (.builtin "list.append") [acc,x];pure ()) hN hj hy hfn hsw hc S hi hg (λC s₀ H₀ fp=>tF (he C s₀ H₀ fp)) (λit acc env=>mK elt tgt iter scope pos it acc env) hs
end
section
variable {X:Cx}
variable {K:W.Frag}
theorem pe_tupPK {es:List Expr} {x1:Nat} {pos:Pos} {t:TA} (hK:X.K=K) (h:PA X es t):PE X (.Tuple es x1 pos) (tU K t):=by subst hK;exact vL h
theorem aL (hK:X.K=K):IxR X (IE K):=by subst hK;exact vB
theorem vX (hK:X.K=K) (hu:X.A.units+64 < cLine):OpR X (compareOp .Eq) (IN K):=by subst hK;exact A5 hu
theorem op_in_seqK (hK:X.K=K):OpR X (compareOp .In) (rIn K false):=by subst hK;exact rn
end
section
variable {X:Cx}
end
section
variable {X:Cx}
theorem eU:∀ {ss:List Str} {us:List Value},Vals (ss.map V.str) us->StrsAre us ss
 | [],us,h=>by cases h;exact .nil
 | z :: ss,us,h=>by
  cases h with
  | cons r rr =>
   obtain ⟨t,rfl⟩:=r;exact .cons z t (eU rr)
theorem kH:∀ {ss:List Str} {us:List Value},StrsAre us ss->Vals (ss.map V.str) us
 | _,_,.nil=>.nil
 | _,_,.cons z t r=>.cons ⟨t,rfl⟩ (kH r)
end
abbrev two (v:Value) (c:Nat):Obj:={ cls:=.type "list",dict:=none,data:=.seq #[v,v] c,slots:=#[] }
section
variable {prog:Program} {w:World} {A:Around} {R:Result->Shared->Prop} {it:Addr} {fp wr:List Addr} {n:Nat} {P:Nat->Value->Prop} {St:Nat->Heap->Prop}
end
section
variable {prog:Program} {w:World} {A:Around} {E:Value->Shared->Prop} {s:Shared} {l:Addr} {zs:Array (Int×Tok)} {d:Value} {Q:Value->Shared->Prop}
end
section
variable {X:Cx}
end
section
variable {X:Cx} {K:W.Frag}
end
section
variable {l:Addr} {g:TG} {tb:List V->Addr->St->Hp->(List V->St->Hp->Prop)->Prop} {R:Hp->Prop} {σ0:St} {H0:Hp} {lo:Int} {n:Nat} {z:Str}
theorem ie (Pv:Nat->List V->St->Hp->Prop) (h0:Pv 0 [] σ0 H0) (hs:∀ i ys σ H (N:List V->St->Hp->Prop),i < n->Pv i ys σ H->(∀ ys' σ' H',Pv (i+1) ys' σ' H'->N ys' σ' H')->g (.int (lo+i)) σ H λσ2 H2=>tb ys l σ2 H2 N) (hd:∀ ys σ H,Pv n ys σ H->R H) :
  ∃ W:Nat->Nat->List V->St->Hp->Prop,(∃ m,W 0 m [] σ0 H0)/\∀ i m ys σ' H',W i m ys σ' H'->((Itr lo n).stop i H'/\R H')\/((Itr lo n).go i H'/\∀ x H'',(Itr lo n).yld i H' x H''->g x σ' H'' λσ2 H2=>tb ys l σ2 H2 λys' σ3 H3=>∃ m',m' < m/\W (i+1) m' ys' σ3 H3):=oX (Q:=λ_ H=>R H) Pv h0 hs hd
theorem rQ (Pv:Nat->List V->St->Hp->Prop) (h0:Pv 0 [] σ0 H0) (hs:∀ i c ys σ H (N:List V->St->Hp->Prop),z.cps[i]?=some c->Pv i ys σ H->(∀ ys' σ' H',Pv (i+1) ys' σ' H'->N ys' σ' H')->g (.str ⟨#[c]⟩) σ H λσ2 H2=>tb ys l σ2 H2 N) (hd:∀ ys σ H,Pv z.cps.size ys σ H->R H) :
  ∃ W:Nat->Nat->List V->St->Hp->Prop,(∃ m,W 0 m [] σ0 H0)/\∀ i m ys σ' H',W i m ys σ' H'->((Its z).stop i H'/\R H')\/((Its z).go i H'/\∀ x H'',(Its z).yld i H' x H''->g x σ' H'' λσ2 H2=>tb ys l σ2 H2 λys' σ3 H3=>∃ m',m' < m/\W (i+1) m' ys' σ3 H3):=mU (Q:=λ_ H=>R H) Pv h0 hs hd
end
section
variable {X:Cx} {K:W.Frag}
inductive JIxP (K:W.Frag) (x y:V) (H:Hp) (Q:VK):Prop
 | mk (l:List Dt) (i:Int) (d:Dt):(IsP K H (.tup l) x)->(y=.int i)->(atI l i=some d)->(∀ v,IsP K H d v->Q v H)->JIxP K x y H Q
def Bc (K:W.Frag):R2:=λx y H Q=>JIxP K x y H Q
inductive JCatP (K:W.Frag) (x y:V) (H:Hp) (Q:VK):Prop
 | mk (l m:List Dt):(IsP K H (.tup l) x)->(IsP K H (.tup m) y)->(l.length+m.length<=sizeLine)->(∀ v H',Same H H'->IsP K H' (.tup (l++m)) v->Q v H')->JCatP K x y H Q
def IY (K:W.Frag):R2:=λx y H Q=>JCatP K x y H Q
inductive JLenD (K:W.Frag) (xs:List V) (H:Hp) (Q:VK):Prop
 | mk (x:V) (l:List Dt):(xs=[x])->(IsD K H (.tup l) x)->(Q (.int l.length) H)->JLenD K xs H Q
def IZ (K:W.Frag):List V->Hp->VK->Prop:=λxs H Q=>JLenD K xs H Q
inductive JIsi (K:W.Frag) (xs:List V) (H:Hp) (Q:VK):Prop
 | mk (x:V) (T:String) (b:Bool):(xs=[x,.ty T])->(IsiB K H x T b)->(Q (.bl b) H)->JIsi K xs H Q
def J0 (K:W.Frag):List V->Hp->VK->Prop:=λxs H Q=>JIsi K xs H Q
inductive JTupP (K:W.Frag) (xs:List V) (H:Hp) (Q:VK):Prop
 | mk (p:Addr) (ys:List V) (l:List Dt):(xs=[.ref p])->(SqL K H p ys)->(IsPs K H l ys)->(∀ v H',Same H H'->IsP K H' (.tup l) v->Q v H')->JTupP K xs H Q
def Ja (K:W.Frag):List V->Hp->VK->Prop:=λxs H Q=>JTupP K xs H Q
def Jb (K:W.Frag):List V->Hp->VK->Prop:=λxs H Q=>∃ x fs,xs=[x]/\IsP K H (.tup (fs.map prD)) x/\(fs.map (·.1)).Nodup/\fs.length<=1000/\∀ p H',Same H H'->DicP K H' p fs->Q (.ref p) H'
theorem ix_tupPN (hK:X.K=K):IxR X (Bc K):=by
 subst hK;intro e1 e2 pins s σ H x y v u Q I rx ry h hs;obtain ⟨l,i,d,a,b,c,q⟩:=h;exact vO _ _ _ _ _ _ _ _ _ _ _ I rx ry ⟨l,i,d,a,b,c,q⟩ hs
theorem op_catPN (hK:X.K=K):OpR X (binaryOp .Add) (IY K):=by
 subst hK;intro pins s σ H x y v u Q I rx ry h;obtain ⟨l,m,a,b,c,q⟩:=h;exact vM _ _ _ _ _ _ _ _ _ I rx ry ⟨l,m,a,b,c,q⟩
theorem qv (hK:X.K=K) (hu:X.A.units+64 < cLine):OpR X (compareOp .NotEq) (IP K):=by subst hK;exact A6 hu
theorem call_lenDN (hK:X.K=K):aS X (.builtin "len") (IZ K):=by
 subst hK;intro pins s σ H xs us Q I r h;obtain ⟨x,l,a,b,q⟩:=h;exact rJ _ _ _ _ _ _ _ I r ⟨x,l,a,b,q⟩
theorem aj (hK:X.K=K):aS X (.builtin "isinstance") (J0 K):=by
 subst hK;intro pins s σ H xs us Q I r h;obtain ⟨x,l,m,a,b,q⟩:=h;exact tI _ _ _ _ _ _ _ I r ⟨x,l,m,a,b,q⟩
theorem bD (hK:X.K=K):aS X (.type "tuple") (Ja K):=by
 subst hK;intro pins s σ H xs us Q I r h;obtain ⟨x,l,m,a,b,c,q⟩:=h;exact m7 _ _ _ _ _ _ _ I r ⟨x,l,m,a,b,c,q⟩
theorem call_dictPN (hK:X.K=K) (hc:X.calm=true):aS X (.type "dict") (Jb K):=by subst hK;exact pf hc
theorem aM {tg l:Expr} {tl:TE} (hK:X.K=K) (hl:PE X l tl):PI X tg l (IB K tl):=by subst hK;exact AS hl
theorem ug {tg l:Expr} {tl:TE} (hK:X.K=K) (hl:PE X l tl):PI X tg l (wX K tl):=by subst hK;exact vx hl
end
section
variable {prog:Program} {w:World} {A:Around} {E:Value->Shared->Prop} {s:Shared}
theorem bv {b t:Addr} {k:Nat} {its:Array Value} {v:Value} {Q:Value->Shared->Prop} (hb:IsTupIter s.heap b t k) (ht:IsTup s.heap t its) (hv:its[k]?=some v)
  (q:∀ h',IsTupIter h' b t (k+1)->Heap.SameBut b s.heap h'->Q v { s with heap:=h' }):wpAny (model prog w) A (Builtin.SmallTypes.nextOf (.ref b)) Q E s:=by
 obtain ⟨ob,gb,cb,db⟩:=id hb;obtain ⟨ot,gt,_,nt,dt⟩:=ht;unfold Builtin.SmallTypes.nextOf;refine wpAny_bind (wpAny_callSpecial?_slot (name:=Str.ofString "__next__") hb.typeIs slot_tupleiter_next (wpAny_call_entry slot_tupleiter_next hb.typeIs entry_tupleiter_next ?_ (args_tupleiter_next _)));refine show wpAny _ _ (field (.ref b) 0 >>= _) _ _ s from wpAny_bind (wpAny_field gb db (x:=.ref t) rfl ?_);refine show wpAny _ _ (if (Value.ref t == Value.none)=true then _ else _) _ _ s from ?_;rw [if_neg (by exact aAj)];refine show wpAny _ _ (field (.ref b) 1 >>= _) _ _ s from wpAny_bind (wpAny_field gb db (x:=.int k 0) rfl ?_);refine show wpAny _ _ (seqItems? (.ref t) >>= _) _ _ s from wpAny_bind (wpAny_seqItems gt dt ?_);simp only [hv,aBc];refine wpAny_bind (wpAny_setField gb db (by simp) (wpAny_pure ⟨v,rfl,wpAny_pure (q _ ⟨_,aAN _ gb (Obj.isFreed_of_fields (Obj.data_mapFields db _)),(Obj.cls_mapFields ..).trans cb,?_⟩ (Heap.SameBut.update ..))⟩));rw [Obj.data_mapFields db];simp [rawInt]
theorem eV {b t:Addr} {k:Nat} {its:Array Value} {Q:Value->Shared->Prop} (hh:A.handled=none) (hb:IsTupIter s.heap b t k) (ht:IsTup s.heap t its) (hv:its[k]?=none)
  (q:∀ h' e,Heap.ExtBut b s.heap h'->(∃ o,h'.get? e=some o/\o.cls=.type "StopIteration")->E (.ref e) { s with heap:=h' }):wpAny (model prog w) A (Builtin.SmallTypes.nextOf (.ref b)) Q E s:=by
 obtain ⟨ob,gb,cb,db⟩:=id hb;obtain ⟨ot,gt,_,nt,dt⟩:=ht;unfold Builtin.SmallTypes.nextOf;refine wpAny_bind (wpAny_callSpecial?_slot (name:=Str.ofString "__next__") hb.typeIs slot_tupleiter_next (wpAny_call_entry slot_tupleiter_next hb.typeIs entry_tupleiter_next ?_ (args_tupleiter_next _)));refine show wpAny _ _ (field (.ref b) 0 >>= _) _ _ s from wpAny_bind (wpAny_field gb db (x:=.ref t) rfl ?_);refine show wpAny _ _ (if (Value.ref t == Value.none)=true then _ else _) _ _ s from ?_;rw [if_neg (by exact aAj)];refine show wpAny _ _ (field (.ref b) 1 >>= _) _ _ s from wpAny_bind (wpAny_field gb db (x:=.int k 0) rfl ?_);refine show wpAny _ _ (seqItems? (.ref t) >>= _) _ _ s from wpAny_bind (wpAny_seqItems gt dt ?_);simp only [hv,aBc];refine wpAny_bind (wpAny_rule (wpAny_bind (wpAny_setField gb db (by simp) ?_)));refine show wpAny _ _ (newExc (.type "StopIteration") [] >>= _) _ _ _ from wpAny_bind ?_;simp only [newTuple,newExc];refine wpAny_bind (wpAny_newObj_type (wpAny_bind (m:=firstArgMember _ _) (wpAny_of_eq (a:=Value.none) (by first | rfl | (simp only [firstArgMember];rfl)) (wpAny_newObj_type ?_ (by size_fits)))) (by size_fits));simp only [raiseNew];refine wpAny_bind (wpAny_handled ?_);rw [show A.in1.handled=none from hh];exact wpAny_bind (wpAny_pure (wpAny_throw (q _ _ (((Heap.SameBut.update ..).extBut.push _).push _) ⟨_,aAg _ rfl,rfl⟩)))
theorem rR {z P0 P1 u v l m:Addr} {k:Nat} {xs ys:Array Value} {x y a b:Value} {Q:Option Value->Shared->Prop} (D:ZipApart z P0 P1 u v l m) (Z:IsZip s.heap z P0 P1 .none) (I0:IsPair s.heap P0 (.ref u) (.ref v)) (I1:IsPair s.heap P1 a b)
  (wu:IsTupIter s.heap u l k) (wv:IsTupIter s.heap v m k) (tl:IsTup s.heap l xs) (tm:IsTup s.heap m ys) (ex:xs[k]?=some x) (ey:ys[k]?=some y)
  (q:∀ h',IsZip h' z P0 P1 (rawInt s.heap.objs.size)->IsPair h' P1 x y->IsTupIter h' u l (k+1)->IsTupIter h' v m (k+1)->IsPair h' s.heap.objs.size x y->h'.objs.size=s.heap.objs.size+1 ->
   (∀ c o,c≠z->c≠P1->c≠u->c≠v->s.heap.get? c=some o->h'.get? c=some o)->Q (some (.ref s.heap.objs.size)) { s with heap:=h' }):wpAny (model prog w) A (pyNext (.ref z)) Q E s:=by
 have hT:s.TypeIs (.ref z) "zip" :=⟨_,Z,rfl⟩;unfold pyNext;refine wpAny_bind (wpAny_attempt (wpAny_callSpecial?_slot (name:=Str.ofString "__next__") hT F.slot_zip_next (wpAny_call_entry F.slot_zip_next hT F.entry_zip_next ?_ (F.args_zip_next_1 _))));refine show wpAny _ _ (field (.ref z) 2 >>= _) _ _ _ from wpAny_bind (wpAny_field Z rfl (x:=.bool false) rfl ?_);refine show wpAny _ _ (field (.ref z) 3 >>= _) _ _ _ from wpAny_bind (wpAny_field Z rfl (x:=.ref P0) rfl (wpAny_bind (wpAny_seqItems I0 rfl ?_)));refine show wpAny _ _ (Builtin.SmallTypes.ownedTupleIsFree (.ref z) >>= _) _ _ _ from wpAny_bind ?_;unfold Builtin.SmallTypes.ownedTupleIsFree;refine wpAny_bind (wpAny_field Z rfl (x:=.none) rfl (wpAny_pure ?_));rw [if_pos rfl];refine wpAny_bind (wpAny_rule (wpAny_bind (wpAny_field Z rfl (x:=.ref P1) rfl (wpAny_bind (wpAny_setField_rec Z (by simp) λha Za sa=>?_)))));replace Za:IsZip ha z P0 P1 .ellipsis:=Za;refine wpAny_bind ?_;simp only [List.zipIdx_cons,aAz,List.zipIdx_nil,aAU];refine wpAny_bind (wpAny_bind (wpAny_onRaise ?_));refine show wpAny _ _ (Builtin.SmallTypes.nextOf (.ref u) >>= _) _ _ _ from wpAny_bind (bv (wu.extBut sa.extBut D.i1z) (tl.extBut sa.extBut D.l1z) ex λhb wb sb=>wpAny_pure ?_);have Ib:IsPair hb P1 a b:=sb.extBut _ _ D.TOi1 (sa.extBut _ _ D.TOz I1);refine wpAny_bind (wpAny_seqItems Ib rfl (wpAny_bind (wpAny_updateSeq_pair Ib λhc Ic sc=>wpAny_bind (wpAny_letGo (wpAny_pure ?_)))));replace Ic:IsPair hc P1 x b:=Ic;refine wpAny_bind (wpAny_bind (wpAny_onRaise ?_));refine show wpAny _ _ (Builtin.SmallTypes.nextOf (.ref v) >>= _) _ _ _ from wpAny_bind (bv (((wv.extBut sa.extBut D.i2z).extBut sb.extBut D.i12.symm).extBut sc.extBut D.TOi2.symm) (((tm.extBut sa.extBut D.l2z).extBut sb.extBut D.l2i1).extBut sc.extBut D.l2TO) ey λhd wd sd=>wpAny_pure ?_);have Id:IsPair hd P1 x b:=sd.extBut _ _ D.TOi2 Ic;refine wpAny_bind (wpAny_seqItems Id rfl (wpAny_bind (wpAny_updateSeq_pair Id λhe Ie se=>wpAny_bind (wpAny_letGo (wpAny_pure (wpAny_pure ?_))))));replace Ie:IsPair he P1 x y:=Ie;refine wpAny_bind (wpAny_seqItems Ie rfl (wpAny_bind (wpAny_newTuple ?_)));have size:he.objs.size=s.heap.objs.size:=by rw [se.1,sd.1,sc.1,sb.1,sa.1]
 have Ze:IsZip he z P0 P1 .ellipsis:=se.extBut _ _ D.TOz.symm (sd.extBut _ _ D.i2z.symm (sc.extBut _ _ D.TOz.symm (sb.extBut _ _ D.i1z.symm Za)));have keep:∀ c o,c≠z->c≠P1->c≠u->c≠v->s.heap.get? c=some o->he.get? c=some o:=λc o n1 n2 n3 n4 e=>se.extBut _ _ n2 (sd.extBut _ _ n4 (sc.extBut _ _ n2 (sb.extBut _ _ n3 (sa.extBut _ _ n1 e))));have we:IsTupIter he u l (k+1):=((wb.extBut sc.extBut D.TOi1.symm).extBut sd.extBut D.i12).extBut se.extBut D.TOi1.symm;have we':IsTupIter he v m (k+1):=wd.extBut se.extBut D.TOi2.symm;have ltz:z < he.objs.size:=aAb Ze;refine show wpAny _ _ (Builtin.SmallTypes.ownedTupleHandOut (.ref z) (.ref he.objs.size) >>= _) _ _ _ from wpAny_bind ?_;unfold Builtin.SmallTypes.ownedTupleHandOut;have Zf:IsZip (he.push { cls:=.type "tuple",data:=.seq #[x,y] }) z P0 P1 .ellipsis:=aAa _ Ze;refine wpAny_bind (wpAny_setField_rec Zf (by simp) λhg Zg sg=>?_);replace Zg:IsZip hg z P0 P1 (rawInt he.objs.size):=Zg;refine wpAny_setField_rec Zg (by simp) λhi Zi si=>?_;replace Zi:IsZip hi z P0 P1 (rawInt he.objs.size):=Zi;have up:∀ c o,c≠z->he.get? c=some o->hi.get? c=some o:=λc o n e=>si.extBut _ _ n (sg.extBut _ _ n (aAa _ e));have Ti:IsPair hi he.objs.size x y:=si.extBut _ _ (aAQ ltz) (sg.extBut _ _ (aAQ ltz) (aAg _ rfl));have size':hi.objs.size=he.objs.size+1:=by rw [si.1,sg.1,aAL]
 refine wpAny_pure ⟨_,rfl,wpAny_pure ?_⟩;rw [size] at Zi Ti size';have go:=q hi Zi (up _ _ D.TOz Ie) (by obtain ⟨o,e,r⟩:=we;exact ⟨o,up _ o D.i1z e,r⟩) (by obtain ⟨o,e,r⟩:=we';exact ⟨o,up _ o D.i2z e,r⟩) Ti size' λc o n1 n2 n3 n4 e=>up c o n1 (keep c o n1 n2 n3 n4 e);rw [<- size] at go;exact go
theorem uh {z P0 P1 u v l m:Addr} {k:Nat} {xs ys:Array Value} {a b:Value} {Q:Option Value->Shared->Prop} (hh:A.handled=none) (D:ZipApart z P0 P1 u v l m) (Z:IsZip s.heap z P0 P1 .none) (I0:IsPair s.heap P0 (.ref u) (.ref v)) (I1:IsPair s.heap P1 a b)
  (wu:IsTupIter s.heap u l k) (wv:IsTupIter s.heap v m k) (tl:IsTup s.heap l xs) (tm:IsTup s.heap m ys) (no:xs[k]?=none\/ys[k]?=none)
  (q:∀ h',(∀ c o,c≠z->c≠P1->c≠u->c≠v->s.heap.get? c=some o->h'.get? c=some o)->Q none { s with heap:=h' }):wpAny (model prog w) A (pyNext (.ref z)) Q E s:=by
 have hT:s.TypeIs (.ref z) "zip" :=⟨_,Z,rfl⟩;unfold pyNext;refine wpAny_bind (wpAny_attempt (wpAny_callSpecial?_slot (name:=Str.ofString "__next__") hT F.slot_zip_next (wpAny_call_entry F.slot_zip_next hT F.entry_zip_next ?_ (F.args_zip_next_1 _))));refine show wpAny _ _ (field (.ref z) 2 >>= _) _ _ _ from wpAny_bind (wpAny_field Z rfl (x:=.bool false) rfl ?_);refine show wpAny _ _ (field (.ref z) 3 >>= _) _ _ _ from wpAny_bind (wpAny_field Z rfl (x:=.ref P0) rfl (wpAny_bind (wpAny_seqItems I0 rfl ?_)));refine show wpAny _ _ (Builtin.SmallTypes.ownedTupleIsFree (.ref z) >>= _) _ _ _ from wpAny_bind ?_;unfold Builtin.SmallTypes.ownedTupleIsFree;refine wpAny_bind (wpAny_field Z rfl (x:=.none) rfl (wpAny_pure ?_));rw [if_pos rfl];refine wpAny_bind (wpAny_rule (wpAny_bind (wpAny_field Z rfl (x:=.ref P1) rfl (wpAny_bind (wpAny_setField_rec Z (by simp) λha Za sa=>?_)))));replace Za:IsZip ha z P0 P1 .ellipsis:=Za;refine wpAny_bind ?_;simp only [List.zipIdx_cons,aAz,List.zipIdx_nil,aAU];refine wpAny_bind (wpAny_bind (wpAny_onRaise ?_));have stop:∀ {h':Heap} {e:Addr},(∃ o,h'.get? e=some o/\o.cls=.type "StopIteration")->IsZip h' z P0 P1 .ellipsis->e≠z:=λhe hz c=>by
  obtain ⟨o,ho,hc⟩:=he;subst c;rw [hz] at ho
  cases ho
  simp at hc
 have fin:∀ {h':Heap} {e:Addr},(∃ o,h'.get? e=some o/\o.cls=.type "StopIteration")->(∀ c o,c≠z->c≠P1->c≠u->c≠v->s.heap.get? c=some o->h'.get? c=some o) ->
   wpAny (model prog w) A (do if (<- isInstance (.ref e) (.type "StopIteration")) then pure none else throw (.ref e)) Q E { s with heap:=h' }:=λ{h' e} he hk=>by
  obtain ⟨o,ho,hc⟩:=he;exact wpAny_bind (wpAny_isInstance (T:= "StopIteration") (b:=true) ⟨o,ho,hc⟩ isSubtype_stop (wpAny_pure (q _ hk)))
 cases ex:xs[k]? with
 | none =>
  refine show wpAny _ _ (Builtin.SmallTypes.nextOf (.ref u) >>= _) _ _ _ from wpAny_bind (eV hh (wu.extBut sa.extBut D.i1z) (tl.extBut sa.extBut D.l1z) ex λhb e sb he=>?_);have Zb:IsZip hb z P0 P1 .ellipsis:=sb _ _ D.i1z.symm Za;have ne:=stop he Zb;obtain ⟨o,ho,hc⟩:=he;exact wpAny_setField_rec Zb (by simp) λhd _ sd=>fin ⟨o,sd.extBut _ _ ne ho,hc⟩ λc o n1 _ n3 _ e=>sd.extBut _ _ n1 (sb _ _ n3 (sa.extBut _ _ n1 e))
 | some x =>
  have ey:ys[k]?=none:=no.resolve_left (by rw [ex];simp);refine show wpAny _ _ (Builtin.SmallTypes.nextOf (.ref u) >>= _) _ _ _ from wpAny_bind (bv (wu.extBut sa.extBut D.i1z) (tl.extBut sa.extBut D.l1z) ex λhb wb sb=>wpAny_pure ?_);have Ib:IsPair hb P1 a b:=sb.extBut _ _ D.TOi1 (sa.extBut _ _ D.TOz I1);refine wpAny_bind (wpAny_seqItems Ib rfl (wpAny_bind (wpAny_updateSeq_pair Ib λhc Ic sc=>wpAny_bind (wpAny_letGo (wpAny_pure (wpAny_bind (wpAny_bind (wpAny_onRaise ?_))))))));refine show wpAny _ _ (Builtin.SmallTypes.nextOf (.ref v) >>= _) _ _ _ from wpAny_bind (eV hh (((wv.extBut sa.extBut D.i2z).extBut sb.extBut D.i12.symm).extBut sc.extBut D.TOi2.symm) (((tm.extBut sa.extBut D.l2z).extBut sb.extBut D.l2i1).extBut sc.extBut D.l2TO) ey λhd e sd he=>?_);have Zd:IsZip hd z P0 P1 .ellipsis:=sd _ _ D.i2z.symm (sc.extBut _ _ D.TOz.symm (sb.extBut _ _ D.i1z.symm Za));have ne:=stop he Zd;obtain ⟨o,ho,hcl⟩:=he;exact wpAny_setField_rec Zd (by simp) λhf _ sf=>fin ⟨o,sf.extBut _ _ ne ho,hcl⟩ λc o n1 n2 n3 n4 e=>sf.extBut _ _ n1 (sd _ _ n4 (sc.extBut _ _ n2 (sb.extBut _ _ n3 (sa.extBut _ _ n1 e))))
abbrev zT1 (h:Heap) (l:Addr):Heap:=h.push { cls:=.type "tuple_iterator",data:=.fields #[.ref l,.int 0 0] }
abbrev zT2 (h:Heap) (l m:Addr):Heap:=(zT1 h l).push { cls:=.type "tuple_iterator",data:=.fields #[.ref m,.int 0 0] }
abbrev zT3 (h:Heap) (l m:Addr):Heap:=(zT2 h l m).push { cls:=.type "tuple",data:=.seq #[.ref h.objs.size,.ref (zT1 h l).objs.size] }
abbrev zT4 (h:Heap) (l m:Addr):Heap:=(zT3 h l m).push { cls:=.type "tuple",data:=.seq #[.none,.none] }
abbrev zT5 (h:Heap) (l m:Addr):Heap:=(zT4 h l m).push { cls:=.type "zip",data:=.fields #[.none,.bool false,.bool false,.ref (zT2 h l m).objs.size,.ref (zT3 h l m).objs.size] }
theorem pi (l m:Addr) (xs ys:Array Value) :
  Meets (Builtin.«zip.__new__» ⟨[.type "zip",.ref l,.ref m],[]⟩) (λ_ R s=>IsTup s.heap l xs/\IsTup s.heap m ys/\R (.ok (.ret (.ref (zT4 s.heap l m).objs.size))) { s with heap:=zT5 s.heap l m }) :=
 .of_wp λprog w A R s h=>by
  obtain ⟨hp,g,d,tk,os⟩:=s;obtain ⟨tl,tm,h⟩:=h;have sub:=sub_zip;have T1:IsTup (Shared.heap ⟨hp,g,d,tk,os⟩) l xs:=tl;have T2:IsTup (Shared.heap ⟨hp.push { cls:=.type "tuple_iterator",data:=.fields #[.ref l,.int 0 0] },g,d,tk,os⟩) m ys:=IsTup.push tm _
  wp_walk using iter_tuple T1,iter_tuple T2
  exact ⟨_,rfl,h⟩
theorem rS {l m:Addr} {xs ys:Array Value} {Q:Value->Shared->Prop} (tl:IsTup s.heap l xs) (tm:IsTup s.heap m ys)
  (q:∀ h',IsZip h' (s.heap.objs.size+4) (s.heap.objs.size+2) (s.heap.objs.size+3) .none->IsPair h' (s.heap.objs.size+2) (.ref s.heap.objs.size) (.ref (s.heap.objs.size+1))->IsPair h' (s.heap.objs.size+3) .none .none ->
   IsTupIter h' s.heap.objs.size l 0->IsTupIter h' (s.heap.objs.size+1) m 0->h'.objs.size=s.heap.objs.size+5->(∀ c o,s.heap.get? c=some o->h'.get? c=some o)->Q (.ref (s.heap.objs.size+4)) { s with heap:=h' }) :
  wpAny (model prog w) A (call (.type "zip") [.ref l,.ref m]) Q E s:=by
 refine callType_new F.called_zip (1) (F.typeCall_zip_2 _ _) (F.newCall_zip_2 _ _) (λobj=>F.args_object_init_3 obj _ _) F.entry_zip_new (pi l m xs ys) ⟨tl,tm,?_⟩;have n1:(zT1 s.heap l).objs.size=s.heap.objs.size+1:=aAL ..;have n2:(zT2 s.heap l m).objs.size=s.heap.objs.size+2:=by rw [aAL,n1]
 have n3:(zT3 s.heap l m).objs.size=s.heap.objs.size+3:=by rw [aAL,n2]
 have n4:(zT4 s.heap l m).objs.size=s.heap.objs.size+4:=by rw [aAL,n3]
 have n5:(zT5 s.heap l m).objs.size=s.heap.objs.size+5:=by rw [aAL,n4]
 have e5:(zT5 s.heap l m).get? (zT4 s.heap l m).objs.size=some _:=aAg _ rfl;have e4:(zT5 s.heap l m).get? (zT3 s.heap l m).objs.size=some _:=aAa _ (aAg _ rfl);have e3:(zT5 s.heap l m).get? (zT2 s.heap l m).objs.size=some _:=aAa _ (aAa _ (aAg _ rfl));have e2:(zT5 s.heap l m).get? (zT1 s.heap l).objs.size=some _:=aAa _ (aAa _ (aAa _ (aAg _ rfl)));have e1:(zT5 s.heap l m).get? s.heap.objs.size=some _:=aAa _ (aAa _ (aAa _ (aAa _ (aAg _ rfl))));refine show _/\_ from ?_;rw [n2,n3,n4] at e5;rw [n1,n2] at e3;rw [n3] at e4;rw [n1] at e2;rw [n4];exact ⟨⟨_,e5,rfl⟩,q _ e5 e3 e4 ⟨_,e1,rfl,rfl⟩ ⟨_,e2,rfl,rfl⟩ n5 λc o x=>aAa _ (aAa _ (aAa _ (aAa _ (aAa _ x))))⟩
end
section
variable {X:Cx} {elts:List Expr} {k:Nat} {tpos:Pos}
end
section
variable {X:Cx} {K:W.Frag}
theorem kI:OpR X (compareOp .LtE) (λx y H Q=>∃ i j,x=.str i/\y=.str j/\Q (.bl (!decide (j.cps.toList < i.cps.toList))) H):=by
 intro pins s σ H x y v u Q I rx ry h;obtain ⟨i,j,rfl,rfl,q⟩:=h;obtain ⟨t,rfl⟩:=rx;obtain ⟨t',rfl⟩:=ry;exact PySem.P.le_str (au I q rfl)
end
section
variable {prog:Program} {w:World} {A:Around} {E:Value->Shared->Prop} {s:Shared}
end
section
variable {X:Cx}
def DicQ (K:W.Frag) (H:Hp) (p:Addr) (fs:List (Str×Dt)):Prop :=
 ∃ kvs,H p=some (.dK kvs)/\kvs.map (·.1)=fs.map (λp=>(Sum.inr p.1:Key))/\∀ z,(aP fs z=none->bC kvs (Sum.inr z:Key)=none)/\∀ d,aP fs z=some d->∃ v,bC kvs (Sum.inr z:Key)=some v/\IsP K H d v
theorem DicQ.p {K:W.Frag} {H:Hp} {p:Addr} {fs:List (Str×Dt)} (h:DicQ K H p fs):DicP K H p fs:=by
 obtain ⟨kvs,e,_,k⟩:=h;exact ⟨kvs,e,k⟩
end
section
variable {prog:Program} {w:World} {A:Around} {E:Value->Shared->Prop} {s:Shared}
theorem xi {a:Addr} {Q:Option Obj->Shared->Prop} (h:Q (s.heap.get? a) s):wpAny (model prog w) A (loadIfAlive a) Q E s:=λΓ p _=>by
 show Sem.wp _ _ (.loadIfAlive a .pure) _ _ _ _;rw [Sem.wp_loadIfAlive];exact h
end
section
variable {prog:Program} {w:World} {A:Around} {E:Value->Shared->Prop} {s:Shared}
end
section
variable {X:Cx} {pins:List (Addr×Obj)} {σ:St} {H H':Hp} {s:Shared} {h':Heap}
end
abbrev Jc (j tk:Nat) (x:Value):Obj:={ cls:=.type "tuple",data:=.seq #[.int j tk,x] }
inductive Rws (h:Heap) (lo:Nat):Nat->List V->List (Addr×HO)->Prop
 | nil {j:Nat}:Rws h lo j [] []
 | cons {j T tk:Nat} {x:Value} {v:V} {vs:List V} {r:List (Addr×HO)}:lo < T->RelV v x->h.get? T=some (Jc j tk x)->Rws h lo (j+1) vs r->Rws h lo j (v :: vs) ((T,plO [.int j,v] [.int j tk,x]) :: r)
theorem Rws.length {h:Heap} {lo:Nat}:∀ {j:Nat} {vs:List V} {r:List (Addr×HO)},Rws h lo j vs r->r.length=vs.length
 | _,_,_,.nil=>rfl
 | _,_,_,.cons _ _ _ r=>by rw [aAo,aAo,r.length]
section
variable {X:Cx}
end
section
variable {prog:Program} {w:World} {A:Around} {E:Value->Shared->Prop} {s:Shared}
end
section
variable {X:Cx}
end
section
variable {X:Cx} {tg:Expr} {pins:List (Addr×Obj)} {σ:St} {H:Hp} {s:Shared}
end
section
variable {X:Cx}
end
section
variable {a:Addr} {ob:Obj} {kvs:List (Key×V)} {g:TG} {l:Addr} {σ0:St} {H0:Hp} {R:Hp->Prop} {tb:List V->Addr->St->Hp->(List V->St->Hp->Prop)->Prop}
end
section
variable {X:Cx}
end
section
variable {prog:Program} {w:World} {A:Around} {E:Value->Shared->Prop} {s:Shared}
end
section
variable {X:Cx}
end
section
variable {X:Cx} {K:W.Frag}
end
section
variable {X:Cx} {K:W.Frag}
inductive JSlP (K:W.Frag) (x:V) (lo hi:Option Int) (H:Hp) (Q:VK):Prop
 | mk (l:List Dt):(IsP K H (.tup l) x)->(∀ v H',Same H H'->IsP K H' (.tup (jM l lo hi)) v->Q v H')->JSlP K x lo hi H Q
def J1 (K:W.Frag):V->Option Int->Option Int->Hp->VK->Prop:=λx lo hi H Q=>JSlP K x lo hi H Q
inductive JLenS (K:W.Frag) (xs:List V) (H:Hp) (Q:VK):Prop
 | mk (p:Addr) (ys:List V):(xs=[.ref p])->((SqL K H p ys\/SqT K H p ys))->(Q (.int ys.length) H)->JLenS K xs H Q
def Jd (K:W.Frag):List V->Hp->VK->Prop:=λxs H Q=>JLenS K xs H Q
def J3 (K:W.Frag):List V->Hp->VK->Prop:=λxs H Q=>∃ p ys,xs=[.ref p]/\true=true/\SqL K H p (bls ys)/\Q (.bl (ys.all id)) H
theorem i7 (hK:X.K=K):SlR X (J1 K):=by
 subst hK;intro pins s σ H x v vl vu lo hi sl Q I rx hs pl pu h;obtain ⟨l,a,q⟩:=h;exact vN _ _ _ _ _ _ _ _ _ _ _ _ I rx hs pl pu ⟨l,a,q⟩
theorem uk (hK:X.K=K):SlR X (IG K):=by subst hK;exact vC
theorem cz (hK:X.K=K):OpR X (binaryOp .Add) (ng K):=by subst hK;exact vT
theorem cT (hK:X.K=K):aS X (.builtin "len") (Jd K):=by
 subst hK;intro pins s σ H xs us Q I r h;obtain ⟨x,l,a,b,q⟩:=h;exact fR _ _ _ _ _ _ _ I r ⟨x,l,a,b,q⟩
theorem call_allN (hK:X.K=K) (hc:X.calm=true):aS X (.builtin "all") (J3 K):=by
 subst hK;intro pins s σ H xs us Q I r h;obtain ⟨p,ys,rfl,_,hs,q⟩:=h;exact tK _ _ _ _ _ _ _ I r ⟨p,ys,rfl,hc,hs,q⟩
end
section
variable {K:W.Frag} {a b l:Addr} {xs ys:List V} {g:TG} {tb:List V->Addr->St->Hp->(List V->St->Hp->Prop)->Prop} {R:Hp->Prop} {σ0:St} {H0:Hp}
end
section
variable {X:Cx} {K:W.Frag}
theorem qw:∀ {zs:List Str} {its:List Value},Vals (zs.map V.str) its->StrsAre its zs
 | [],its,h=>by cases h;exact .nil
 | z :: zs,its,h=>by
  cases h with
  | cons h1 h2 =>
   obtain ⟨t,rfl⟩:=h1;exact .cons z t (qw h2)
theorem i8:∀ {zs:List Str} {its:List Value},StrsAre its zs->∀ (m:Nat) (hm:m < its.length) (k:Str),isStrOf k its[m]=decide (zs[m]?=some k)
 | _,_,.nil,m,hm,_=>absurd hm (aBt _)
 | _,_,.cons z t h,0,hm,k=>by
  show (z == k)=decide (some z=some k)
  by_cases e:z=k
  ·subst e;simp
  ·rw [decide_eq_false (λc=>e (Option.some.inj c))]
   simpa using e
 | _,_,.cons z t h,m+1,hm,k=>i8 h m (by simpa using hm) k
end
end L2
namespace PySem
open Sem (wp)
namespace F
end F
section
variable {prog:Program} {w:World} {K:Type} [DecidableEq K] {kd:KeyKind prog w K} {A:Around} {E:Value->Shared->Prop}
end
end PySem
namespace L2
open PySem PySem.Spec PyProof.Rows
def kDt:Key->Dt
 | .inl i=>.int i
 | .inr z=>.str z
theorem vY {K:W.Frag} {H:Hp} {k:Key} {v:V} (h:IsP K H (kDt k) v):v=kV k:=by
 cases k <;> (cases h;rfl)
theorem kJ {K:W.Frag} {H:Hp}:∀ {ks:List Key} {xs:List V},IsPs K H (ks.map kDt) xs->xs=ks.map kV
 | [],_,h=>by cases h;rfl
 | k :: ks,_,h=>by
  cases h with
  | cons h r=>rw [vY h,kJ r];rfl
def xj (P:Program) (w:World) (p:Addr) (xs:List (List Key×Addr×Value)) (h:Heap):Prop :=
 ∃ o es ep,h.get? p=some o/\o.ExactDict/\o.data=.dict es ep/\es.toList=xs.map (entryOfKey (tupleKind (ar P w)))/\(xs.map (·.1)).Nodup
def DicT (P:Program) (w:World) (K:W.Frag) (H:Hp) (p:Addr) (kvs:List (List Key×Dt)):Prop :=
 (p == sysModules)=false/\∃ xs:List (List Key×Addr×Value),H p=some (.ext (xj P w p xs)) /\
  Paired (λ(a:List Key×Dt) (b:List Key×Addr×Value)=>a.1=b.1/\IsP K H (.tup (a.1.map kDt)) (.ref b.2.1)/\∃ v,RelV v b.2.2/\IsP K H a.2 v) kvs xs
section
variable {X:Cx} {pins:List (Addr×Obj)} {σ:St} {H:Hp} {s:Shared}
theorem qx (I:Inv X pins σ H s) {ks:List Key} {a:Addr} (h:IsP X.K H (.tup (ks.map kDt)) (.ref a)):IsTupleKey (ar X.prog X.w) s.heap ks a:=by
 obtain ⟨b,ys,e,ha,_,ra⟩:=h.unref
 cases e
 obtain ⟨its,r,⟨o,h1,h2,n,h3⟩,_⟩:=I.tuple ha;rw [kJ ra] at r;exact ⟨o,its.toArray,n,h1,h2,h3,by simpa using gK r⟩
theorem DicT.dict {p:Addr} {kvs:List (List Key×Dt)} (I:Inv X pins σ H s) (h:DicT X.prog X.w X.K H p kvs):(p == sysModules)=false/\∃ xs:List (List Key×Addr×Value),s.heap.DictOfH (tupleKind (ar X.prog X.w)) p xs /\
  Paired (λ(a:List Key×Dt) (b:List Key×Addr×Value)=>a.1=b.1/\IsP X.K H (.tup (a.1.map kDt)) (.ref b.2.1)/\∃ v,RelV v b.2.2/\IsP X.K H a.2 v) kvs xs:=by
 obtain ⟨e0,xs,e,r⟩:=h;obtain ⟨⟨o,es,ep,h1,h2,h3,h4,h5⟩,_⟩:=(show ObjOk X.prog X.w H s.heap p (.ext (xj X.prog X.w p xs)) from I.hok p _ e);refine ⟨e0,xs,⟨o,es,ep,h1,h2,h3,h4,λy hy=>?_,h5⟩,r⟩;have all:∀ {l:List (List Key×Dt)} {m:List (List Key×Addr×Value)},Paired (λ(a:List Key×Dt) (b:List Key×Addr×Value)=>a.1=b.1/\IsP X.K H (.tup (a.1.map kDt)) (.ref b.2.1)/\∃ v,RelV v b.2.2/\IsP X.K H a.2 v) l m->∀ y∈m,IsTupleKey (ar X.prog X.w) s.heap y.1 y.2.1:=by
  intro l m q
  induction q with
  | nil=>intro y hy;exact nomatch hy
  | @cons p q ps qs hq t ih =>
   intro y hy;rcases aAm.mp hy with rfl | hy
   ·rw [<- hq.1];exact qx I hq.2.1
   ·exact ih y hy
 exact all r y hy
end
end L2
namespace PySem
open Sem (wp)
section
variable {prog:Program} {w:World} {K:Type} [DecidableEq K] {knd:HeapKind prog w K} {A:Around} {E:Value->Shared->Prop} {s:Shared}
end
end PySem
namespace L2
open PySem PySem.Spec PyProof.Rows
section
variable {X:Cx} {pins:List (Addr×Obj)} {σ:St} {H:Hp} {s:Shared}
end
theorem u2 {A:Around} (h:A.units+64 < cLine):A.units+2 < cLine:=by lia
section
variable {X:Cx} {o e f:Expr} {apos cpos:Pos} {td ty tx:TE}
end
end L2
namespace PySem
open Sem (wp)
open PyProof.Rows
section
variable {prog:Program} {w:World} {A:Around} {E:Value->Shared->Prop} {s:Shared} {δ:Type} {R:δ->Value->Prop} {h₀:Heap} {a:Addr} {D:List (Str×δ)} {k:Str} {tk:Tok}
theorem ig {Q:Option Value->Shared->Prop} (T:KTD.TabOf R h₀ a D) (kp:∀ b o,h₀.get? b=some o->s.heap.get? b=some o) (q1:∀ d v,KTD.datumAt k D=some d->R d v->Q (some v) { s with toks:=s.toks+1 })
  (q2:KTD.datumAt k D=none->Q none { s with toks:=s.toks+1 }):wpAny (model prog w) A (dictGet a (.str k tk)) Q E s:=by
 obtain ⟨_,o,es,ep,ho0,hc,hd,hr⟩:=T;have ho:=kp _ _ ho0;obtain ⟨l⟩:=es;unfold dictGet
 try with_reducible refine wpAny_holding ?_
 refine wpAny_bind (wpAny_pyHash_str (wpAny_bind (KTD.kt_dictFind_strs (s:={ s with toks:=s.toks+1 }) ho hd (by simpa using hr.exact) ?_)));have hq:Q (findBy (λk v=>v.isStr k) (Array.mk l) k) { s with toks:=s.toks+1 }:=by
  rw [show findBy (λk v=>v.isStr k) (Array.mk l) k=(l.find? λe=>e.key.isStr k).map (·.val) by simp [findBy]]
  cases hat:KTD.datumAt k D with
  | none=>rw [show (l.find? λe=>e.key.isStr k).map (·.val)=none by have:=hr.find_none hat;simpa using this];exact q2 hat
  | some d =>
   obtain ⟨v,hv,rv⟩:=hr.find_some hat;rw [show (l.find? λe=>e.key.isStr k).map (·.val)=some v from hv];exact q1 d v hat rv
 rw [findBy_of_findIdx?] at hq
 cases hi:(Array.mk l).findIdx? λe=>e.key.isStr k with
 | some i=>rw [hi] at hq;exact wpAny_bind (wpAny_dictEntries (s:={ s with toks:=s.toks+1 }) ho hd (wpAny_pure hq))
 | none=>rw [hi] at hq;exact wpAny_pure hq
theorem pj {dflt:Value}:MeetsIn prog w (Builtin.«dict.get» ⟨[.ref a,.str k tk,dflt],[]⟩) (λ_ Rr s=>KTD.TabOf R h₀ a D/\(∀ b o,h₀.get? b=some o->s.heap.get? b=some o)/\(∀ d v,KTD.datumAt k D=some d->R d v->Rr (.ok (.ret v)) { s with toks:=s.toks+1 }) /\
  (KTD.datumAt k D=none->Rr (.ok (.ret dflt)) { s with toks:=s.toks+1 })) :=
 .of_wp λA Rr s ⟨T,kp,h1,h2⟩=>by
  show wpAny _ _ (dictGet a (.str k tk) >>= _) _ _ s;refine wpAny_bind (ig T kp (λd v ha hv=>wpAny_pure ⟨v,rfl,h1 d v ha hv⟩) λhn=>wpAny_bind (m:=Builtin.Dict.missed a (.str k tk)) (wpAny_missed_other T.1 (wpAny_pure ⟨dflt,rfl,h2 hn⟩)))
end
end PySem
namespace L2
open PySem PySem.Spec PyProof.Rows
def pp (K:W.Frag) (a:Addr) (D:List (Str×Addr)):Prop:=∀ h,K.In h->KTD.TabOf (λb v=>v=Value.ref b) h a D
theorem BN {K:W.Frag} {a:Addr} {D:List (Str×Addr)} (e:KTD.tabLook (λb v=>v == Value.ref b) (λb=>K.lookup b) a D=true):pp K a D :=
 λ_ X=>KTD.tab_of_look (L:=λb v=>v == Value.ref b) (R:=λb v=>v=Value.ref b) (λ_ _ z=>eq_of_beq z) (λb o q=>X b o q) e
def lH (K:W.Frag) (b:Addr) (ws:List Str):Bool:=match K.lookup b with
 | some o=>o.cls == .type "tuple" && (match o.data with | .seq vs _=>KTD.strsLook vs.toList ws && decide (vs.size<=1000) | _=>false)
 | none=>false
def ul (K:W.Frag) (D:List (Addr×List Str)):Bool:=D.all λp=>lH K p.1 p.2
def xl (K:W.Frag) (D:List (Addr×List Str)):Prop:=∀ p∈D,∀ H:Hp,SqT K H p.1 (p.2.map V.str)
theorem Je {K:W.Frag} {D:List (Addr×List Str)} (e:ul K D=true):xl K D:=by
 intro p hp H;have e1:lH K p.1 p.2=true:=aAG.mp e p hp;unfold lH at e1
 split at e1
 ·rename_i o ho
  simp only [aAq] at e1;obtain ⟨e2,e3⟩:=e1
  split at e3
  ·rename_i vs n hd
   simp only [aAq] at e3;exact .inr ⟨o,vs,n,ho,eq_of_beq e2,hd,aAM (am (of_decide_eq_true e3.2)),kH (KTD.strs_of_look e3.1)⟩
  ·cases e3
 ·cases e1
def nh (k:Str):List (Str×Addr)->Option Addr
 | []=>none
 | (x,b) :: D=>if k=x then some b else nh k D
theorem i9 {k:Str}:∀ D:List (Str×Addr),KTD.datumAt k D=nh k D
 | []=>rfl
 | (x,b) :: D=>by
  show (if decide (k=x)=true then some b else KTD.datumAt k D)=_
  by_cases h:k=x
  ·simp [nh,h]
  ·simp [nh,h,i9 D]
def Bd (D:List (Str×Addr)) (ty tx:TE):TE:=λσ H Q=>ty σ H λy H1=>tx σ H1 λz H2=>∃ k,y=.str k/\Q (match nh k D with | some b=>.ref b | none=>z) H2
section
variable {X:Cx}
theorem pe_kgetA {x:Str} {ad:Addr} {D:List (Str×Addr)} {e f:Expr} {ty tx:TE} {p apos cpos:Pos} (hD:pp X.K ad D) (hg:Gl X x) (hm:X.mg x=some (.ref ad)) (he:PE X e ty) (hf:PE X f tx) (m:M2 X (.Name x p) "get" apos e f cpos) (hdb:(x == ("__debug__" : Str))=false:=by decide) :
  PE X (.Call (.Attribute (.Name x p) "get" apos) [e,f] [] cpos) (Bd D ty tx):=by
 intro pins s σ H Q I h;have T:∀ {s':Shared} {σ':St} {H':Hp} {pins':List (Addr×Obj)},Inv X pins' σ' H' s'->KTD.TabOf (λb v=>v=Value.ref b) X.base ad D:=λJ=>hD _ J.ok.mod.kin;have ty0:∀ {s':Shared} {σ':St} {H':Hp} {pins':List (Addr×Obj)},Inv X pins' σ' H' s'->s'.TypeIs (.ref ad) "dict" /\(∀ b,Value.ref ad=.ref b->∃ ob,s'.heap.get? b=some ob/\ob.dict=none):=λ{s' σ' H' pins'} J=>by
  obtain ⟨_,o,_,_,ho,hc,_⟩:=T J;refine ⟨⟨o,J.bk _ _ ho,hc.1⟩,λb q=>?_⟩;injection q with q
  subst q;exact ⟨o,J.bk _ _ ho,hc.2.1⟩
 refine wpAny_Call_method_late m.base m.few m.line rfl (aY I hg hm ?_ hdb);refine ⟨"dict","dict.get",PySem.F.plainAttrs_dict,PySem.F.slot_dict_get,PySem.F.type_dict_get,(ty0 I).1,(ty0 I).2,?_⟩;rw [m.trees];refine Calls.callWith_builtin rfl (Calls.evalArgs_plain (Calls.spliced_cons (thn (he pins s σ H _ I h) λiv s2 ⟨y,H2,I2,ry,q2⟩ =>
  Calls.spliced_cons (thn (hf pins s2 σ H2 _ I2 q2) λfv s3 ⟨z,H3,I3,rz,k,ey,q3⟩=>Calls.spliced_nil ?_))))
 subst ey;obtain ⟨tk,rfl⟩:=ry;refine call_meetsIn PySem.F.slot_dict_get (ty0 I3).1 PySem.F.entry_dict_get (PySem.F.args_dict_get_3 _ _ _) (pj (h₀:=X.base) (D:=D) (R:=λb v=>v=Value.ref b)) ⟨T I3,λb o z=>I3.bk b o z,λb v hb hv=>?_,λhn=>?_⟩
 ·subst hv;rw [<- i9,hb] at q3;exact ⟨.ref b,H3,I3.tok _,rfl,q3⟩
 ·rw [<- i9,hn] at q3;exact ⟨z,H3,I3.tok _,rz,q3⟩
end
section
variable {prog:Program} {w:World} {A:Around} {E:Value->Shared->Prop} {s:Shared}
abbrev zpO (f0:Value) (f1:Bool) (P0 P1:Addr):Obj:={ cls:=.type "zip",dict:=none,data:=.fields #[f0,.bool f1,.bool false,.ref P0,.ref P1],slots:=#[] }
def ZS (h:Heap) (z P0 P1 u v:Addr):Prop:=∃ (T:Nat) (f1:Bool) (o:Obj),h.get? z=some (zpO (rawInt T) f1 P0 P1)/\h.get? T=some o/\T≠z/\T≠u/\T≠v/\o.cls=.type "tuple"
theorem rV {z P0 P1 u v l m:Addr} {k:Nat} {xs ys:Array Value} {x y:Value} {Q:Option Value->Shared->Prop} (D:ZipApart z P0 P1 u v l m) (Z:ZS s.heap z P0 P1 u v) (I0:IsPair s.heap P0 (.ref u) (.ref v))
  (wu:IsTupIter s.heap u l k) (wv:IsTupIter s.heap v m k) (tl:IsTup s.heap l xs) (tm:IsTup s.heap m ys) (ex:xs[k]?=some x) (ey:ys[k]?=some y)
  (q:∀ h',ZS h' z P0 P1 u v->IsTupIter h' u l (k+1)->IsTupIter h' v m (k+1)->IsPair h' s.heap.objs.size x y->h'.objs.size=s.heap.objs.size+1 ->
   (∀ c o,c≠z->c≠u->c≠v->s.heap.get? c=some o->h'.get? c=some o)->Q (some (.ref s.heap.objs.size)) { s with heap:=h' }):wpAny (model prog w) A (pyNext (.ref z)) Q E s:=by
 obtain ⟨T,f1,oT,gz,gT,n1,n2,n3,n4⟩:=Z;have hT:s.TypeIs (.ref z) "zip" :=⟨_,gz,rfl⟩;obtain ⟨hp,g,d,tk,os⟩:=s;unfold pyNext;refine wpAny_bind (wpAny_attempt (wpAny_callSpecial?_slot (name:=Str.ofString "__next__") hT F.slot_zip_next (wpAny_call_entry F.slot_zip_next hT F.entry_zip_next ?_ (F.args_zip_next_1 _))));refine show wpAny _ _ (field (.ref z) 2 >>= _) _ _ _ from wpAny_bind (wpAny_field gz rfl (x:=.bool false) rfl ?_);refine show wpAny _ _ (field (.ref z) 3 >>= _) _ _ _ from wpAny_bind (wpAny_field gz rfl (x:=.ref P0) rfl (wpAny_bind (wpAny_seqItems I0 rfl ?_)));refine show wpAny _ _ (Builtin.SmallTypes.ownedTupleIsFree (.ref z) >>= _) _ _ _ from wpAny_bind ?_;unfold Builtin.SmallTypes.ownedTupleIsFree;refine wpAny_bind (wpAny_field gz rfl (x:=rawInt T) rfl ?_);refine show wpAny _ _ (loadIfAlive (T:Int).toNat >>= _) _ _ _ from wpAny_bind (xi ?_);rw [aBc];refine show wpAny _ _ (if (hp.get? T).isNone=true then _ else _) _ _ _ from ?_;rw [show hp.get? T=some oT from gT,if_neg (by simp)];refine show wpAny _ _ (field (.ref z) 1 >>= _) _ _ _ from wpAny_bind (wpAny_field gz rfl (x:=.bool f1) rfl ?_)
 cases f1 with
 | true =>
  refine wpAny_pure ?_;rw [if_neg (1)];refine wpAny_bind ?_;rw [<- aAX];simp only [aAz,aAU];refine wpAny_bind (wpAny_bind (wpAny_holding ?_));refine show wpAny _ _ (Builtin.SmallTypes.nextOf (.ref u) >>= _) _ _ _ from wpAny_bind (bv (s:=⟨hp,g,d,tk,os⟩) (wu) (tl) ex λhb wb sb=>wpAny_pure ?_);refine wpAny_pure ?_;refine wpAny_bind (wpAny_bind (wpAny_holding ?_));refine show wpAny _ _ (Builtin.SmallTypes.nextOf (.ref v) >>= _) _ _ _ from wpAny_bind (bv (s:=⟨hb,g,d,tk,os⟩) ((wv).extBut sb.extBut D.i12.symm) ((tm).extBut sb.extBut D.l2i1) ey λhd wd sd=>wpAny_pure ?_);refine wpAny_pure (wpAny_pure ?_);refine wpAny_bind (wpAny_newTuple (hsz:=by show 2<=sizeLine;decide) ?_);replace sb:Heap.SameBut u hp hb:=sb;replace sd:Heap.SameBut v hb hd:=sd;have size:hd.objs.size=hp.objs.size:=by rw [sd.1,sb.1]
  have keep:∀ c o,c≠z->c≠u->c≠v->hp.get? c=some o->hd.get? c=some o:=λc o m1 m2 m3 e=>sd.extBut _ _ m3 (sb.extBut _ _ m2 (e));have gzd:hd.get? z=some (zpO (rawInt T) true P0 P1):=sd.extBut _ _ D.i2z.symm (sb.extBut _ _ D.i1z.symm gz);have we:IsTupIter hd u l (k+1):=wb.extBut sd.extBut D.i12;have e:=q (hd.push { cls:=.type "tuple",data:=.seq #[x,y] }) ⟨T,true,oT,aAa _ gzd,aAa _ (keep T oT n1 n2 n3 gT),n1,n2,n3,n4⟩
   (by obtain ⟨o,ho,r⟩:=we;exact ⟨o,aAa _ ho,r⟩) (by obtain ⟨o,ho,r⟩:=wd;exact ⟨o,aAa _ ho,r⟩)
   (by show (hd.push _).get? hp.objs.size=_;rw [<- size];exact aAg _ rfl) (by rw [aAL,size]) λc o m1 m2 m3 ec=>aAa _ (keep c o m1 m2 m3 ec)
  refine wpAny_pure ⟨_,rfl,wpAny_pure ?_⟩;rw [<- size] at e;exact e
 | false =>
  refine show wpAny _ _ (setField (.ref z) 1 (.bool true) >>= _) _ _ _ from wpAny_bind (wpAny_setField_rec gz (by simp) λha ga sa=>wpAny_pure ?_);replace sa:Heap.SameBut z hp ha:=sa;replace ga:ha.get? z=some (zpO (rawInt T) true P0 P1):=ga;rw [if_neg (1)];refine wpAny_bind ?_;rw [<- aAX];simp only [aAz,aAU];refine wpAny_bind (wpAny_bind (wpAny_holding ?_));refine show wpAny _ _ (Builtin.SmallTypes.nextOf (.ref u) >>= _) _ _ _ from wpAny_bind (bv (s:=⟨ha,g,d,tk,os⟩) (wu.extBut sa.extBut D.i1z) (tl.extBut sa.extBut D.l1z) ex λhb wb sb=>wpAny_pure ?_);refine wpAny_pure ?_;refine wpAny_bind (wpAny_bind (wpAny_holding ?_));refine show wpAny _ _ (Builtin.SmallTypes.nextOf (.ref v) >>= _) _ _ _ from wpAny_bind (bv (s:=⟨hb,g,d,tk,os⟩) ((wv.extBut sa.extBut D.i2z).extBut sb.extBut D.i12.symm) ((tm.extBut sa.extBut D.l2z).extBut sb.extBut D.l2i1) ey λhd wd sd=>wpAny_pure ?_);refine wpAny_pure (wpAny_pure ?_);refine wpAny_bind (wpAny_newTuple (hsz:=by show 2<=sizeLine;decide) ?_);replace sb:Heap.SameBut u ha hb:=sb;replace sd:Heap.SameBut v hb hd:=sd;have size:hd.objs.size=hp.objs.size:=by rw [sd.1,sb.1,sa.1]
  have keep:∀ c o,c≠z->c≠u->c≠v->hp.get? c=some o->hd.get? c=some o:=λc o m1 m2 m3 e=>sd.extBut _ _ m3 (sb.extBut _ _ m2 (sa.extBut _ _ m1 e));have gzd:hd.get? z=some (zpO (rawInt T) true P0 P1):=sd.extBut _ _ D.i2z.symm (sb.extBut _ _ D.i1z.symm ga);have we:IsTupIter hd u l (k+1):=wb.extBut sd.extBut D.i12;have e:=q (hd.push { cls:=.type "tuple",data:=.seq #[x,y] }) ⟨T,true,oT,aAa _ gzd,aAa _ (keep T oT n1 n2 n3 gT),n1,n2,n3,n4⟩
   (by obtain ⟨o,ho,r⟩:=we;exact ⟨o,aAa _ ho,r⟩) (by obtain ⟨o,ho,r⟩:=wd;exact ⟨o,aAa _ ho,r⟩)
   (by show (hd.push _).get? hp.objs.size=_;rw [<- size];exact aAg _ rfl) (by rw [aAL,size]) λc o m1 m2 m3 ec=>aAa _ (keep c o m1 m2 m3 ec)
  refine wpAny_pure ⟨_,rfl,wpAny_pure ?_⟩;rw [<- size] at e;exact e
theorem um {z P0 P1 u v l m:Addr} {k:Nat} {xs:Array Value} {Q:Option Value->Shared->Prop} (hh:A.handled=none) (D:ZipApart z P0 P1 u v l m) (Z:ZS s.heap z P0 P1 u v) (I0:IsPair s.heap P0 (.ref u) (.ref v))
  (wu:IsTupIter s.heap u l k) (tl:IsTup s.heap l xs) (ex:xs[k]?=none)
  (q:∀ h',(∀ c o,c≠z->c≠u->c≠v->s.heap.get? c=some o->h'.get? c=some o)->Q none { s with heap:=h' }):wpAny (model prog w) A (pyNext (.ref z)) Q E s:=by
 obtain ⟨T,f1,oT,gz,gT,n1,n2,n3,n4⟩:=Z;have hT:s.TypeIs (.ref z) "zip" :=⟨_,gz,rfl⟩;obtain ⟨hp,g,d,tk,os⟩:=s;unfold pyNext;refine wpAny_bind (wpAny_attempt (wpAny_callSpecial?_slot (name:=Str.ofString "__next__") hT F.slot_zip_next (wpAny_call_entry F.slot_zip_next hT F.entry_zip_next ?_ (F.args_zip_next_1 _))));refine show wpAny _ _ (field (.ref z) 2 >>= _) _ _ _ from wpAny_bind (wpAny_field gz rfl (x:=.bool false) rfl ?_);refine show wpAny _ _ (field (.ref z) 3 >>= _) _ _ _ from wpAny_bind (wpAny_field gz rfl (x:=.ref P0) rfl (wpAny_bind (wpAny_seqItems I0 rfl ?_)));refine show wpAny _ _ (Builtin.SmallTypes.ownedTupleIsFree (.ref z) >>= _) _ _ _ from wpAny_bind ?_;unfold Builtin.SmallTypes.ownedTupleIsFree;refine wpAny_bind (wpAny_field gz rfl (x:=rawInt T) rfl ?_);refine show wpAny _ _ (loadIfAlive (T:Int).toNat >>= _) _ _ _ from wpAny_bind (xi ?_);rw [aBc];refine show wpAny _ _ (if (hp.get? T).isNone=true then _ else _) _ _ _ from ?_;rw [show hp.get? T=some oT from gT,if_neg (by simp)];refine show wpAny _ _ (field (.ref z) 1 >>= _) _ _ _ from wpAny_bind (wpAny_field gz rfl (x:=.bool f1) rfl ?_)
 cases f1 with
 | true =>
  refine wpAny_pure ?_;rw [if_neg (1)];refine wpAny_bind ?_;rw [<- aAX];simp only [aAz,aAU];refine wpAny_bind (wpAny_bind (wpAny_holding ?_));refine show wpAny _ _ (Builtin.SmallTypes.nextOf (.ref u) >>= _) _ _ _ from wpAny_bind (eV (s:=⟨hp,g,d,tk,os⟩) hh (wu) (tl) ex λhb e sb hex=>?_);obtain ⟨o,ho,hc⟩:=hex;exact wpAny_bind (wpAny_isInstance (T:= "StopIteration") (b:=true) ⟨o,ho,hc⟩ isSubtype_stop (wpAny_pure (q hb λc o m1 m2 m3 e=>sb _ _ m2 (e))))
 | false =>
  refine show wpAny _ _ (setField (.ref z) 1 (.bool true) >>= _) _ _ _ from wpAny_bind (wpAny_setField_rec gz (by simp) λha ga sa=>wpAny_pure ?_);replace sa:Heap.SameBut z hp ha:=sa;rw [if_neg (1)];refine wpAny_bind ?_;rw [<- aAX];simp only [aAz,aAU];refine wpAny_bind (wpAny_bind (wpAny_holding ?_));refine show wpAny _ _ (Builtin.SmallTypes.nextOf (.ref u) >>= _) _ _ _ from wpAny_bind (eV (s:=⟨ha,g,d,tk,os⟩) hh (wu.extBut sa.extBut D.i1z) (tl.extBut sa.extBut D.l1z) ex λhb e sb hex=>?_);obtain ⟨o,ho,hc⟩:=hex;exact wpAny_bind (wpAny_isInstance (T:= "StopIteration") (b:=true) ⟨o,ho,hc⟩ isSubtype_stop (wpAny_pure (q hb λc o m1 m2 m3 e=>sb _ _ m2 (sa.extBut _ _ m1 e))))
end
theorem ja:typeLookup (.type "zip") "__getattr__" = pure none:=by rw [typeLookup_type,builtinLookup_eq_fast];kernel_rfl
theorem nk:typeLookup (.type "zip") "keys" = pure none:=by rw [typeLookup_type,builtinLookup_eq_fast];kernel_rfl
theorem uo:entryFor table "zip.__getattribute__" = some Builtin.«object.__getattribute__»:=entryFor_alias (id':= "object.__getattribute__") (by kernel_rfl) (by decide +kernel) (by decide +kernel) (by kernel_rfl)
theorem pq (a:Addr) (fs:Array Value) (sl:Array (Option Value)) (u:Tok) :
  Meets (Builtin.«object.__getattribute__» ⟨[.ref a,.str "keys" u],[]⟩) (λA R s=>s.heap.get? a=some { cls:=.type "zip",dict:=none,data:=.fields fs,slots:=sl }/\raisesAttr (.ref a) "keys" A R s) :=
 Meets.of_wp λprog w A R s hs=>by
  obtain ⟨hp,g,d,tk,os⟩:=s;obtain ⟨hx,hr⟩:=hs;have hT:(⟨hp,g,d,tk,os⟩:Shared).TypeIs (.ref a) "zip" :=⟨_,hx,rfl⟩;have miss:=nk;have nm:(["__module__","__name__","__qualname__","__doc__","__annotations__"]:List Str).contains "keys" = false:=(1)
  unfold Builtin.«object.__getattribute__»;repeat (any_goals (first | assumption | wp_step))
  (try simp only [nm,aAF,if_false]);repeat (any_goals (first | assumption | wp_step))
  exact wpAny_raiseAttrError hr.1 hr.2 (attrMsg_fits (by decide +kernel) (1))
section
variable {prog:Program} {w:World} {A:Around} {E:Value->Shared->Prop} {s:Shared}
theorem jO {a:Addr} {fs:Array Value} {sl:Array (Option Value)} {Q:Option Value->Shared->Prop}
  (hx:s.heap.get? a=some { cls:=.type "zip",dict:=none,data:=.fields fs,slots:=sl }) (hA:A.handled=none)
  (h:∀ h' tk e,Heap.NewExcOf s.heap h' e "AttributeError" ->Q none { s with heap:=h',toks:=tk }) :
  wpAny (model prog w) A (getAttr? (.ref a) "keys") Q E s:=by
 obtain ⟨hp,g,d,tk,os⟩:=s;have hT:∀ tk',(⟨hp,g,d,tk',os⟩:Shared).TypeIs (.ref a) "zip" :=λ_=>⟨_,hx,rfl⟩;have f1:=sub_AttributeError;have f3:=PySem.F.slot_zip_getattribute.lookup;have f4:=PySem.F.slot_zip_getattribute.bind (.ref a);have f5:=ja;unfold getAttr? getAttrBy? getAttrBy
 repeat (any_goals (first | assumption | exact hT _ | ((with_reducible show wpAny _ _ (call (Value.builtin "zip.__getattribute__") _ _) _ _ _);refine call_meets PySem.F.slot_zip_getattribute (hT _) uo (PySem.F.args_zip_getattribute_2 _ _) (pq a fs sl _) ⟨hx,hA,λh' tk' e hx'=>?_⟩) | wp_step))
 obtain ⟨t',u',he⟩:=hx'.there;show wpAny _ _ (getattributeRaised _ _ _ _ _ _ _) _ _ _;unfold getattributeRaised
 repeat (any_goals (first | assumption | wp_step))
 all_goals exact h _ _ _ hx'.of
def ZQ (h:Heap) (z P0 P1 u v:Addr):Prop:=(IsZip h z P0 P1 .none/\∃ a b,IsPair h P1 a b)\/ZS h z P0 P1 u v
theorem rW {z P0 P1 u v l m:Addr} {k:Nat} {xs ys:Array Value} {x y:Value} {Q:Option Value->Shared->Prop} (D:ZipApart z P0 P1 u v l m) (Z:ZQ s.heap z P0 P1 u v) (I0:IsPair s.heap P0 (.ref u) (.ref v))
  (wu:IsTupIter s.heap u l k) (wv:IsTupIter s.heap v m k) (tl:IsTup s.heap l xs) (tm:IsTup s.heap m ys) (ex:xs[k]?=some x) (ey:ys[k]?=some y)
  (q:∀ h',ZS h' z P0 P1 u v->IsTupIter h' u l (k+1)->IsTupIter h' v m (k+1)->IsPair h' s.heap.objs.size x y->h'.objs.size=s.heap.objs.size+1 ->
   (∀ c o,c≠z->c≠P1->c≠u->c≠v->s.heap.get? c=some o->h'.get? c=some o)->Q (some (.ref s.heap.objs.size)) { s with heap:=h' }):wpAny (model prog w) A (pyNext (.ref z)) Q E s:=by
 have lu:u < s.heap.objs.size:=by obtain ⟨o,e,_⟩:=wu;exact aAb e
 have lv:v < s.heap.objs.size:=by obtain ⟨o,e,_⟩:=wv;exact aAb e
 rcases Z with ⟨Z,a,b,I1⟩ | Z
 ·have lz:z < s.heap.objs.size:=aAb Z;exact rR D Z I0 I1 wu wv tl tm ex ey λh' z1 _ z3 z4 z5 z6 kp=>q h' ⟨_,false,_,z1,z5,aAQ lz,aAQ lu,aAQ lv,rfl⟩ z3 z4 z5 z6 kp
 ·exact rV D Z I0 wu wv tl tm ex ey λh' z1 z3 z4 z5 z6 kp=>q h' z1 z3 z4 z5 z6 λc o n1 _ n3 n4 e=>kp c o n1 n3 n4 e
theorem uq {z P0 P1 u v l m:Addr} {k:Nat} {xs ys:Array Value} {Q:Option Value->Shared->Prop} (hh:A.handled=none) (D:ZipApart z P0 P1 u v l m) (Z:ZQ s.heap z P0 P1 u v) (I0:IsPair s.heap P0 (.ref u) (.ref v))
  (wu:IsTupIter s.heap u l k) (wv:IsTupIter s.heap v m k) (tl:IsTup s.heap l xs) (tm:IsTup s.heap m ys) (ex:xs[k]?=none)
  (q:∀ h',(∀ c o,c≠z->c≠P1->c≠u->c≠v->s.heap.get? c=some o->h'.get? c=some o)->Q none { s with heap:=h' }):wpAny (model prog w) A (pyNext (.ref z)) Q E s:=by
 rcases Z with ⟨Z,a,b,I1⟩ | Z
 ·exact uh hh D Z I0 I1 wu wv tl tm (.inl ex) q
 ·exact um hh D Z I0 wu tl ex λh' kp=>q h' λc o n1 _ n3 n4 e=>kp c o n1 n3 n4 e
end
section
variable {prog:Program} {w:World} {K:Type} [DecidableEq K] {knd:KeyKind prog w K} {A:Around} {E:Value->Shared->Prop}
structure ZOff (d z P0 P1 u v l m:Addr):Prop where
 z:d≠z
 P0:d≠P0
 P1:d≠P1
 u:d≠u
 v:d≠v
 l:d≠l
 m:d≠m
theorem fD {z P0 P1 u v l m d:Addr} {xs ys:Array Value} {kvs:List (K×Value)} {R:Result->Shared->Prop} (hh:A.handled=none) (D:ZipApart z P0 P1 u v l m) (O:ZOff d z P0 P1 u v l m)
  (hx:xs.size=kvs.length) (hk:∀ (i:Nat) (kv:K×Value),kvs[i]?=some kv->∃ key,xs[i]?=some key/\ys[i]?=some kv.2/\knd.is kv.1 key=true) (hsz:kvs.length+kvs.length<=sizeLine) :
  ∀ (n i:Nat) (s:Shared) (acc:List (K×Value)),kvs.length - i=n->i<=kvs.length->acc.length<=i->ZQ s.heap z P0 P1 u v->IsPair s.heap P0 (.ref u) (.ref v)->IsTupIter s.heap u l i->IsTupIter s.heap v m i->IsTup s.heap l xs->IsTup s.heap m ys->s.heap.DictOf knd d acc ->
   (∀ h' tk,h'.DictOf knd d (merged acc (kvs.drop i))->(∀ b o,b≠d->b≠z->b≠P1->b≠u->b≠v->s.heap.get? b=some o->h'.get? b=some o)->R (.ok (.ret .none)) { s with heap:=h',toks:=tk }) ->
   codeAny (model prog w) A (.builtin "dict.update.loop" ⟨[.ref d,.ref z,rawInt i,.none],[]⟩) R s:=by
 intro n
 induction n with
 | zero =>
  intro i s acc hn hi ha Z I0 wu wv tl tm hd hR;have e:i=kvs.length:=by lia
  refine codeAny_builtin F.entry_dict_update_loop ?_;rw [Around.under_plainId F.plain_dict_update_loop _];show wpAny _ A.in1 (pyNext (.ref z) >>= _) _ _ s;refine wpAny_bind (uq (by first | exact hh | simpa using hh) D Z I0 wu wv tl tm (by rw [e,<- hx];simp) λh' eb=>?_);show wpAny _ _ (Builtin.Dict.addKeywords d [] >>= _) _ _ _;have hd':h'.DictOf knd d acc:=by
   obtain ⟨o,es,ep,ho,r⟩:=hd;exact ⟨o,es,ep,eb d o O.z O.P1 O.u O.v ho,r⟩
  have q:=hR h' s.toks (by rw [e,List.drop_length];exact hd') λb o _ n1 n2 n3 n4 z=>eb b o n1 n2 n3 n4 z;exact wpAny_bind (wpAny_pure (wpAny_pure q))
 | succ n ih =>
  intro i s acc hn hi ha Z I0 wu wv tl tm hd hR;have hlt:i < kvs.length:=by lia
  obtain ⟨kv,hkv⟩:∃ kv,kvs[i]?=some kv:=⟨_,aAi hlt⟩;obtain ⟨key,ex,ey,hkey⟩:=hk i kv hkv;refine codeAny_builtin F.entry_dict_update_loop ?_;rw [Around.under_plainId F.plain_dict_update_loop _];show wpAny _ A.in1 (pyNext (.ref z) >>= _) _ _ s;refine wpAny_bind (rW D Z I0 wu wv tl tm ex ey λh1 Z1 wu1 wv1 pr1 sz1 k1=>?_);have hd1:h1.DictOf knd d acc:=by
   obtain ⟨o,es,ep,ho,r⟩:=hd;exact ⟨o,es,ep,k1 d o O.z O.P1 O.u O.v ho,r⟩
  have ld:d < s.heap.objs.size:=by obtain ⟨o,_,_,e,_⟩:=hd;exact aAb e
  refine wpAny_bind (wpAny_holding ?_);refine wpAny_bind (wpAny_tryCatch ?_);unfold Builtin.Dict.pairItems;refine wpAny_bind (wpAny_typeOf (T:= "tuple") ⟨_,pr1,rfl⟩ ?_);rw [if_pos (1)];refine wpAny_bind (wpAny_seqItems pr1 rfl ?_);refine wpAny_pure ?_;show wpAny _ _ (holding [key,kv.2] (dictSet d key kv.2)) _ _ _;refine wpAny_holding (wpAny_dictSet_pairs (s:={ s with heap:=h1 }) hkey hd1 (λh2 hd2 sb2=>?_) (by lia));refine wpAny_pure ⟨plainId_quiet F.plain_dict_update_loop _,?_⟩;have keep2:∀ b o,b≠d->h1.get? b=some o->h2.get? b=some o:=λb o hb z=>(sb2.2 b hb).trans z;have hlen:(stored acc kv.1 kv.2).length<=i+1:=by have:=stored_length_le acc kv.1 kv.2;lia
  have Z2:ZQ h2 z P0 P1 u v:=by
   obtain ⟨T,f1,oT,gz,gT,n1,n2,n3,n4⟩:=Z1;refine .inr ⟨T,f1,oT,keep2 _ _ O.z.symm gz,keep2 _ _ (λc=>?_) gT,n1,n2,n3,n4⟩;obtain ⟨o,_,_,ho,hc,_⟩:=hd1;have gT':h1.get? d=some oT:=by rw [<- c];exact gT
   rw [ho] at gT';obtain rfl:=Option.some.inj gT';rw [hc.1] at n4;exact absurd (Value.type.inj n4) (1)
  have I2:IsPair h2 P0 (.ref u) (.ref v):=keep2 _ _ O.P0.symm (k1 _ _ D.TIz D.TITO D.TIi1 D.TIi2 I0);have wu2:IsTupIter h2 u l (i+1):=by obtain ⟨o,ho,r⟩:=wu1;exact ⟨o,keep2 _ _ O.u.symm ho,r⟩
  have wv2:IsTupIter h2 v m (i+1):=by obtain ⟨o,ho,r⟩:=wv1;exact ⟨o,keep2 _ _ O.v.symm ho,r⟩
  have tl2:IsTup h2 l xs:=by obtain ⟨o,ho,r⟩:=tl;exact ⟨o,keep2 _ _ O.l.symm (k1 _ _ D.l1z D.l1TO D.l1i1 D.l1i2 ho),r⟩
  have tm2:IsTup h2 m ys:=by obtain ⟨o,ho,r⟩:=tm;exact ⟨o,keep2 _ _ O.m.symm (k1 _ _ D.l2z D.l2TO D.l2i1 D.l2i2 ho),r⟩
  have e:rawInt ((i:Int)+1)=rawInt ((i+1:Nat):Int):=by rw [Int.natCast_add];rfl
  show codeAny _ _ (.builtin "dict.update.loop" ⟨[.ref d,.ref z,rawInt ((i:Int)+1),.none],[]⟩) _ _;rw [e];refine ih (i+1) { s with heap:=h2,toks:=s.toks+1 } (stored acc kv.1 kv.2) (by lia) hlt hlen Z2 I2 wu2 wv2 tl2 tm2 hd2 λh' tk hd' k'=>?_;have q:=hR h' tk (by
   have z:kvs.drop i=kv :: kvs.drop (i+1):=by
    rw [aAY hlt];rw [aAi hlt] at hkv;rw [Option.some.inj hkv]
   rw [z];exact hd') λb o hb n1 n2 n3 n4 z=>k' b o hb n1 n2 n3 n4 (keep2 b o hb (k1 b o n1 n2 n3 n4 z))
  exact q
end
section
variable {prog:Program} {w:World} {K:Type} [DecidableEq K] {knd:KeyKind prog w K} {A:Around} {E:Value->Shared->Prop}
theorem jP {s:Shared} {z P0 P1 u v l m:Addr} {xs ys:Array Value} {a b:Value} {kvs:List (K×Value)} {Q:Value->Shared->Prop} (hh:A.handled=none) (D:ZipApart z P0 P1 u v l m) (Z:IsZip s.heap z P0 P1 .none) (I0:IsPair s.heap P0 (.ref u) (.ref v)) (I1:IsPair s.heap P1 a b)
  (wu:IsTupIter s.heap u l 0) (wv:IsTupIter s.heap v m 0) (tl:IsTup s.heap l xs) (tm:IsTup s.heap m ys)
  (hx:xs.size=kvs.length) (hk:∀ (i:Nat) (kv:K×Value),kvs[i]?=some kv->∃ key,xs[i]?=some key/\ys[i]?=some kv.2/\knd.is kv.1 key=true) (hsz:kvs.length+kvs.length<=sizeLine)
  (h:∀ h' tk,h'.DictOf knd s.heap.objs.size (merged [] kvs)->(∀ b o,b≠z->b≠P1->b≠u->b≠v->s.heap.get? b=some o->h'.get? b=some o)->Q (.ref s.heap.objs.size) { s with heap:=h',toks:=tk }) :
  wpAny (model prog w) A (call (.type "dict") [.ref z]) Q E s:=by
 refine callType_codes (Q₁:=λobj s₁=>obj=.ref s.heap.objs.size/\s₁={ s with heap:=s.heap.push { cls:=.type "dict",data:=.dict #[] } }) F.kt_called_dict (F.kt_typeCall_dict_1 _) F.entry_dict_init (kt_code_dict_new _ ⟨rfl,rfl⟩) ?_;rintro obj s₁ ⟨rfl,rfl⟩;have hnew:(s.heap.push { cls:=.type "dict",data:=.dict #[] }).DictOf knd s.heap.objs.size []:=Heap.DictOf.new s.heap;refine ⟨hnew.typeIs,F.args_dict_init_2 _ _,?_⟩;unfold Builtin.«dict.__init__»;refine wpAny_bind ?_;unfold Builtin.Dict.selfAndRest;refine wpAny_bind (wpAny_notOrdered_dict hnew.typeIs ?_);show wpAny _ _ (pure (s.heap.objs.size,[Value.ref z])) _ _ _;refine wpAny_pure ?_;show wpAny _ _ (Builtin.Dict.updateFrom "dict.__init__" s.heap.objs.size (.ref z) [] .none) _ _ _;unfold Builtin.Dict.updateFrom;have up:∀ b o,s.heap.get? b=some o->(s.heap.push { cls:=.type "dict",data:=.dict #[] }).get? b=some o:=λb o e=>aAa _ e;refine wpAny_bind (wpAny_typeOf (T:= "zip") ⟨_,up _ _ Z,rfl⟩ ?_);rw [if_pos (1)];refine wpAny_bind (jO (up _ _ Z) (by first | exact hh | simpa using hh) λh1 tk1 e hx1=>?_);rw [if_pos (0)];refine wpAny_bind (wpAny_rule ?_);have kp1:∀ b o,(s.heap.push { cls:=.type "dict",data:=.dict #[] }).get? b=some o->h1.get? b=some o:=λb o z=>hx1.keeps b o z;have kp0:∀ b o,s.heap.get? b=some o->h1.get? b=some o:=λb o z=>kp1 b o (up b o z);refine wpAny_bind (wpAny_pyIter_zip (kp0 _ _ Z) ?_);refine wpAny_pure ⟨plainId_quiet F.plain_dict_update_loop _,?_⟩;have lt:∀ {c:Addr} {o:Obj},s.heap.get? c=some o->s.heap.objs.size≠c:=λe=>aAQ (aAb e);refine fD (knd:=knd) (kvs:=kvs) (l:=l) (m:=m) (by first | exact hh | simpa using hh) D ⟨lt Z,lt I0,lt I1,?_,?_,?_,?_⟩ hx hk hsz kvs.length 0 _ [] (by lia) (aAI _) (aAf _) (.inl ⟨kp0 _ _ Z,_,_,kp0 _ _ I1⟩) (kp0 _ _ I0) ?_ ?_ ?_ ?_ ?_ λh' tk hd' k'=>⟨rfl,?_⟩
 ·obtain ⟨o,e,_⟩:=wu;exact lt e
 ·obtain ⟨o,e,_⟩:=wv;exact lt e
 ·obtain ⟨o,e,_⟩:=tl;exact lt e
 ·obtain ⟨o,e,_⟩:=tm;exact lt e
 ·obtain ⟨o,e,r⟩:=wu;exact ⟨o,kp0 _ _ e,r⟩
 ·obtain ⟨o,e,r⟩:=wv;exact ⟨o,kp0 _ _ e,r⟩
 ·obtain ⟨o,e,r⟩:=tl;exact ⟨o,kp0 _ _ e,r⟩
 ·obtain ⟨o,e,r⟩:=tm;exact ⟨o,kp0 _ _ e,r⟩
 ·obtain ⟨o2,es,ep,ho2,r⟩:=hnew;exact ⟨o2,es,ep,kp1 _ _ ho2,r⟩
 ·exact h h' tk hd' λb ob n1 n2 n3 n4 e=>k' b ob (aAk (aAb e)) n1 n2 n3 n4 (kp0 b ob e)
end
section
variable {X:Cx}
theorem rX {K:W.Frag} {H:Hp}:∀ {ws:List Str} {us:List Dt} {xs ys:List V} {its its2:List Value},IsPs K H (ws.map Dt.str) xs->Vals xs its->IsPs K H us ys->Vals ys its2->us.length=ws.length ->
  ∃ (kvs:List (Key×V)) (vs:List (Key×Value)),KV kvs vs/\kvs.map (·.1)=(ws.zip us).map (λp=>Sum.inr p.1)/\kvs.length=ws.length /\
   (∀ z,(aP (ws.zip us) z=none->bC kvs (Sum.inr z:Key)=none)/\∀ d,aP (ws.zip us) z=some d->∃ v,bC kvs (Sum.inr z:Key)=some v/\IsP K H d v) /\
   its.length=vs.length/\∀ (i:Nat) (kv:Key×Value),vs[i]?=some kv->∃ key,its[i]?=some key/\its2[i]?=some kv.2/\(ar X.prog X.w).is kv.1 key=true:=by
 intro ws
 induction ws with
 | nil =>
  intro us xs ys its its2 h1 r1 h2 r2 e
  cases h1
  cases r1
  exact ⟨[],[],.nil,rfl,rfl,λz=>⟨λ_=>rfl,λd q=>by cases q⟩,rfl,λi kv q=>by simp at q⟩
 | cons f ws ih =>
  intro us xs ys its its2 h1 r1 h2 r2 e
  cases us with
  | nil=>cases e
  | cons t us =>
  cases h1 with
  | cons d1 h1 =>
  cases h2 with
  | @cons _ _ v _ d2 h2 =>
  cases r1 with
  | cons q1 r1 =>
  cases r2 with
  | @cons _ u _ _ q2 r2 =>
  obtain ⟨kvs,vs,e1,e2,e3,e4,e5,e6⟩:=ih h1 r1 h2 r2 (Nat.succ.inj e)
  cases d1
  obtain ⟨tk,rfl⟩:=q1;refine ⟨(Sum.inr f,v) :: kvs,(Sum.inr f,u) :: vs,.cons ⟨rfl,q2⟩ e1,by simp [e2],by simp [e3],λz=>?_,by simp [e5],λi kv q=>?_⟩
  ·by_cases hz:f=z
   ·subst hz;have l1:aP ((f :: ws).zip (t :: us)) f=some t:=by simp [aP]
    have l2:bC ((Sum.inr f,v) :: kvs) (Sum.inr f:Key)=some v:=by simp [bC]
    exact ⟨λq=>(by rw [l1] at q;cases q),λd q=>(by rw [l1] at q;cases q;exact ⟨v,l2,d2⟩)⟩
   ·have l1:aP ((f :: ws).zip (t :: us)) z=aP (ws.zip us) z:=by simp [aP,hz]
    have l2:bC ((Sum.inr f,v) :: kvs) (Sum.inr z:Key)=bC kvs (Sum.inr z:Key):=by simp [bC,hz]
    rw [l1,l2];exact e4 z
  ·cases i with
   | zero =>
    simp at q;subst q;exact ⟨_,rfl,rfl,kE (k:=Sum.inr f) ⟨tk,rfl⟩⟩
   | succ i=>exact e6 i kv (by simpa using q)
def Be (K:W.Frag) (ta:TA):TE:=λσ H Q=>ta σ H λvs H1=>∃ (x y:V) (ws:List Str) (us:List Dt),vs=[x,y]/\IsP K H1 (.tup (ws.map Dt.str)) x/\IsP K H1 (.tup us) y/\us.length=ws.length/\ws.Nodup/\ws.length<=1000 /\
 ∀ p H',Same H1 H'->H1 p=none->DicQ K H' p (ws.zip us)->Q (.ref p) H'
theorem pe_dictZ {a b:Expr} {ta:TA} {p p' pos pos':Pos} (hc:X.calm=true) (hgd:Gl X "dict") (hmd:X.mg "dict" = none) (hgz:Gl X "zip") (hmz:X.mg "zip" = none) (ha:PA X [a,b] ta)
  (hs:starEach [a,b] X.env=[(false,eval a X.env),(false,eval b X.env)]:=by rfl) (hs2:starEach [b] X.env=[(false,eval b X.env)]:=by rfl)
  (ho:starEach [.Call (.Name "zip" p') [a,b] [] pos'] X.env=[(false,eval (.Call (.Name "zip" p') [a,b] [] pos') X.env)]:=by rfl) :
  PE X (.Call (.Name "dict" p) [.Call (.Name "zip" p') [a,b] [] pos'] [] pos) (Be X.K ta):=by
 intro pins s σ H Q I h;refine wpAny_Call_Name_kw (di I hgd hmd boot_dict ?_ (1) (1));refine PyProof.Rows.callWith_type1 ?_ (by rw [ho];rfl) rfl;rw [ho];refine Calls.spliced_cons ?_;refine wpAny_Call_Name_kw (di I hgz hmz boot_zip ?_ (1) (1));refine PyProof.Rows.callWith_type1 (thn (ha pos' pins s σ H _ I h) λus s1 ⟨vs,H1,I1,r1,q1⟩=>?_) (by rw [hs,hs2]) (by rw [hs2];rfl);obtain ⟨x,y,ws,ds,e,hx,hy,el,nd,hz,q⟩:=q1;subst e;obtain ⟨l1,zs,rfl,hl1,_,ra⟩:=hx.unref;obtain ⟨l2,zs2,rfl,hl2,_,rb⟩:=hy.unref;obtain ⟨u,v,rfl,ru,rv⟩:=r1.two
 cases ru
 cases rv
 obtain ⟨its,rr,pl,_⟩:=I1.tuple hl1;obtain ⟨its2,rr2,pl2,_⟩:=I1.tuple hl2;have lt1:s1.heap.objs.size > l1:=by obtain ⟨o,e,_⟩:=pl;exact aAb e
 have lt2:s1.heap.objs.size > l2:=by obtain ⟨o,e,_⟩:=pl2;exact aAb e
 refine rS pl pl2 λh' z1 z2 z3 z4 z5 zs kk=>?_;refine Calls.spliced_nil ?_;obtain ⟨kvs,vs,k1,k2,k3,k4,k5,k6⟩:=rX (X:=X) ra rr rb rr2 el;have hl:vs.length=ws.length:=by rw [<- k1.length,k3]
 have big:=I1.big;refine jP (s:={ s1 with heap:=h' }) (knd:=ar X.prog X.w) (xs:=its.toArray) (ys:=its2.toArray) (kvs:=vs) (I1.ok.hd hc) ?D z1 z2 z3 z4 z5 ?T1 ?T2 (by rw [aAh];exact k5) (λi kv z=>?_) (aAw (Nat.add_le_add (hl ▸ hz) (hl ▸ hz)) (1)) λh2 tk dd kp=>?_
 case D=>constructor <;> (show ¬ (@Eq Nat _ _)) <;> lia
 case T1=>obtain ⟨o,e,r⟩:=pl;exact ⟨o,kk _ _ e,r⟩
 case T2=>obtain ⟨o,e,r⟩:=pl2;exact ⟨o,kk _ _ e,r⟩
 ·obtain ⟨key,w1,w2,w3⟩:=k6 i kv z;exact ⟨key,by simpa using w1,by simpa using w2,w3⟩
 ·have ndv:(vs.map (·.1)).Nodup:=by
   rw [<- k1.keys,k2];have z:(ws.zip ds).map (λp=>(Sum.inr p.1:Key))=((ws.zip ds).map (·.1)).map Sum.inr:=by rw [aAu];rfl
   rw [z,List.map_fst_zip (by lia)];exact List.Pairwise.map _ (λa b n q=>n (Sum.inr.inj q)) nd
  rw [merged_nil_of_nodup vs ndv] at dd;have keep:∀ b o,s1.heap.get? b=some o->h2.get? b=some o:=λb o e=>by
   have lb:s1.heap.objs.size > b:=aAb e;refine kp b o ?_ ?_ ?_ ?_ (kk b o e) <;> (show ¬ (@Eq Nat _ _)) <;> lia
  have le:s1.heap.objs.size<=h'.objs.size:=by lia
  have hf:=I1.hok.fresh le;have I2:Inv X pins σ (upd H1 h'.objs.size (.dK kvs)) { s1 with heap:=h2,toks:=tk }:=I1.laid (t':=tk) keep le
   (tT (by rw [k3];exact aAM (am hz)) (by simp;exact aAQ (aAd big le)) k1 dd)
  refine ⟨.ref h'.objs.size,_,I2,rfl,q _ _ (af hf _) hf ⟨kvs,ac,k2,λz=>⟨(k4 z).1,λd l=>?_⟩⟩⟩;obtain ⟨v,l1,l2⟩:=(k4 z).2 d l;exact ⟨v,l1,l2.same (af hf _)⟩
end
section
variable {X:Cx}
theorem ps_tryN {body:List Stmt} {h0:ExceptHandler} {hs:List ExceptHandler} {pos:Pos} {t:TS} (hb:PSs X.nox body t):PS X.nox (.Try body (h0 :: hs) [] [] pos) t:=by
 intro pins s σ H D I h;refine wpAny_Try_except (wpAny_mono (hb pins s σ H D I h) (λf s1 q=>?_) (λe s1 q=>q.elim))
 cases f with
 | next=>exact wpAny_execs_nil q
 | ret u=>exact q
 | brk=>exact q
 | cont=>exact q
end
open AutoSeq1 (wpAny_loadPart')
structure ZOut (lo:Nat) (xs ys acc:Array Value) (h:Heap):Prop where
 pr:∀ (j:Nat) (e:Value),acc[j]?=some e->∃ (T:Addr) (x y:Value),e=.ref T/\lo<=T/\xs[j]?=some x/\ys[j]?=some y/\IsPair h T x y
 ij:∀ (j k:Nat) (e:Value),acc[j]?=some e->acc[k]?=some e->j=k
theorem ZOut.keep {lo:Nat} {xs ys acc:Array Value} {h h':Heap} (Z:ZOut lo xs ys acc h) (k:∀ T x y,lo<=T->IsPair h T x y->IsPair h' T x y):ZOut lo xs ys acc h' :=
 ⟨λj e hj=>by obtain ⟨T,x,y,a,b,c,d,f⟩:=Z.pr j e hj;exact ⟨T,x,y,a,b,c,d,k T x y b f⟩,Z.ij⟩
section
variable {prog:Program} {w:World} {A:Around} {E:Value->Shared->Prop} {s:Shared}
end
section
variable {prog:Program} {w:World} {A:Around} {E:Value->Shared->Prop} {s:Shared}
end
abbrev Jf (x y:Value):Obj:={ cls:=.type "tuple",data:=.seq #[x,y] }
inductive RwZ (h:Heap) (lo:Nat):List V->List V->List (Addr×HO)->Prop
 | nil:RwZ h lo [] [] []
 | cons {T:Nat} {x y:Value} {v u:V} {vs us:List V} {r:List (Addr×HO)}:lo<=T->RelV v x->RelV u y->h.get? T=some (Jf x y)->RwZ h lo vs us r->RwZ h lo (v :: vs) (u :: us) ((T,plO [v,u] [x,y]) :: r)
theorem RwZ.length {h:Heap} {lo:Nat} {vs us:List V} {r:List (Addr×HO)} (R:RwZ h lo vs us r):r.length=vs.length:=by
 induction R with
 | nil=>rfl
 | cons _ _ _ _ _ ih=>rw [aAo,aAo,ih]
section
variable {X:Cx}
end
end L2
namespace L2
open PySem PySem.Spec PyProof.Rows
open AutoSeq1 (wpAny_loadPart')
section
variable {prog:Program} {w:World} {A:Around} {E:Value->Shared->Prop} {s:Shared}
theorem nn {items:Array Value} {x:Value} {e:Value->Bool} (he:∀ y,y∈items->MeetsSeq.EqGives y x (e y)) {j:Nat} (hj:j < items.size) (hit:e items[j]=true) (hno:∀ m (hm:m < items.size),m < j->e items[m]=false) {Q:Option PySem.Fin×Unit->Shared->Prop}
  (q:Q (some (.done (.ret (.int j s.toks))),()) { s with toks:=s.toks+1 }):∀ (k i:Nat),i<=j->j < i+k ->
  wpAny (model prog w) A (forIn (List.range' i k) ((none:Option PySem.Fin),()) λ(i:Nat) __s =>
   match items[i]? with
   | some y=>do
    let __do_lift <- eqBool y x
    if __do_lift=true then do
      let __do_lift <- retInt (i:Int)
      pure (ForInStep.done (some __do_lift,()))
     else pure (ForInStep.yield (none,()))
   | x=>pure (ForInStep.yield (none,()))) Q E s
 | 0,i,h1,h2=>by lia
 | k+1,i,h1,h2=>by
  rw [List.range'_succ,aAz];have hi:i < items.size:=by lia
  rw [Array.getElem?_eq_getElem hi];refine wpAny_bind (wpAny_bind (he _ (Array.getElem_mem hi) prog w _ _ _ _ ?_))
  by_cases ei:i=j
  ·subst ei;rw [hit,if_pos rfl];refine wpAny_bind ?_;unfold retInt;refine wpAny_bind (wpAny_mkInt (wpAny_pure (wpAny_pure (wpAny_pure q))))
  ·rw [hno i hi (by lia),if_neg (1)];refine wpAny_pure ?_;exact nn he hj hit hno q k (i+1) (by lia) (by lia)
end
theorem lI (l:Addr) (items:Array Value) (x:Value) (e:Value->Bool) (he:∀ y,y∈items->MeetsSeq.EqGives y x (e y)) (j:Nat) (hj:j < items.size) (hit:e items[j]=true) (hno:∀ m (hm:m < items.size),m < j->e items[m]=false) :
  Meets (Builtin.«tuple.index» ⟨[.ref l,x],[]⟩) (λA R s=>IsTup s.heap l items/\R (.ok (.ret (.int j s.toks))) { s with toks:=s.toks+1 }) :=
 .of_wp λprog w A R s h=>by
  obtain ⟨tl,h⟩:=h;obtain ⟨ob,ho,hc,n,hd⟩:=id tl;have hT:s.TypeIs (.ref l) "tuple" :=⟨_,ho,hc⟩
  wp_walk using wpAny_typeOf hT,wpAny_loadPart' ho
  rw [hd];refine wpAny_pure (wpAny_pure ?_);refine show wpAny _ _ (pure 0 >>= λlo=>pure items.size >>= λhi=>_) _ _ _ from wpAny_bind (wpAny_pure (wpAny_bind (wpAny_pure ?_)));rw [Std.Legacy.Range.forIn_eq_forIn_range'];have e1:List.range' [:min items.size items.size].start [:min items.size items.size].size [:min items.size items.size].step=List.range' 0 items.size:=by
   simp [Std.Legacy.Range.size]
  rw [e1];refine wpAny_bind (nn (s:={ s with toks:=s.toks }) he hj hit hno ?_ items.size 0 (aAI _) (by lia));exact wpAny_pure ⟨_,rfl,h⟩
section
variable {X:Cx}
theorem rY:MtM X "tuple.index" (λx vs H Q=>∃ (l:Addr) (zs:List Str) (z:Str) (j:Nat),x=.ref l/\vs=[.str z]/\SqT X.K H l (zs.map V.str)/\zs[j]?=some z/\(∀ m,m < j->zs[m]?≠some z)/\zs.length<=1000/\Q (.int (j:Nat)) H):=by
 intro pins s σ H x vs v us Q I rx rv h;obtain ⟨l,zs,z,j,rfl,rfl,hH,hj,hno,hz,q⟩:=h
 cases rx
 obtain ⟨u,rfl,t,rfl⟩:=rv.one;obtain ⟨its,r,pl,_⟩:=I.tuple hH;have sa:=qw r;have ln:its.length=zs.length:=by rw [<- r.length,aAe]
 have hjl:j < its.length:=by have:=(aAc.mp hj).1;lia
 obtain ⟨o,e,hc,n,hd⟩:=id pl;refine call_meets F.slot_tuple_index ⟨_,e,hc⟩ F.entry_tuple_index (F.args_tuple_index_2 _ _) (lI l its.toArray (.str z t) (isStrOf z) (λy hy=>eq_isStrOf z t sa y (by simpa using hy)) j (by simpa using hjl) ?_ ?_) ⟨pl,⟨.int _,H,I.tok _,⟨_,rfl⟩,q⟩⟩
 ·rw [List.getElem_toArray,i8 sa j hjl];exact decide_eq_true hj
 ·intro m hm hmj;rw [List.getElem_toArray,i8 sa m (by simpa using hm)];exact decide_eq_false (hno m hmj)
end
end L2
namespace L2
open PySem PySem.Spec PyProof.Rows
section
variable {X:Cx} {o e:Expr} {es:List Expr} {to:TE} {t:TA} {name:Str} {apos cpos:Pos} {T id:String} {r:V->List V->Hp->VK->Prop}
def tyW (K:W.Frag) (T:String) (x:V) (H:Hp):Prop:=T= "tuple" /\∃ l,IsP K H (.tup l) x
theorem Bf {pins:List (Addr×Obj)} {σ:St} {H:Hp} {s:Shared} {T:String} {x:V} {v:Value} (I:Inv X pins σ H s) (r:RelV x v) (ty:tyW X.K T x H) :
  s.TypeIs v T/\∀ a,v=.ref a->∃ ob,s.heap.get? a=some ob/\ob.dict=none:=by
 obtain ⟨rfl,l,h⟩:=ty;obtain ⟨a,xs,rfl,h1,⟨ob,u,h2,h3⟩,_⟩:=h.unref
 cases r
 obtain ⟨its,_,ht,_⟩:=I.tuple h1;obtain ⟨o',e1,e2,_⟩:=ht;refine ⟨⟨o',e1,e2⟩,λb q=>?_⟩
 cases q
 exact ⟨ob,(I.hok a _ h2).1,h3⟩
def tBW (K:W.Frag) (T:String) (r:V->List V->Hp->VK->Prop) (to:TE) (t:TA):TE:=λσ H Q=>to σ H λx H1=>tyW K T x H1/\t σ H1 λxs H2=>r x xs H2 Q
theorem ur (pa:PlainAttrs T) (slot:Slot T name id) (hty:typeOf (.builtin id)=pure (.type "method_descriptor")) (hm:MtR X id r) (ho:PE X o to) (ha:PA X (e :: es) t)
  (hbase:attributeBase o name X.env (eval o X.env)=eval o X.env:=by rfl)
  (hfew:((backTo cpos (starEach (e :: es) X.env)).all (λx=>!x.1) && (backToKw cpos (keywordEach [] X.env)).all (λx=>x.1.isSome)
   && decide ((e :: es).length+([]:List Keyword).length+(if ([]:List Keyword).isEmpty then 0 else 1) < 30))=true:=by rfl)
  (hline:(apos.endLine == cpos.line)=true:=by rfl) (hs:starEach (e :: es) X.env=(false,eval e X.env) :: starEach es X.env:=by rfl) (hplain:(backTo cpos (starEach es X.env)).any (·.1)=false:=by rfl) :
  PE X (.Call (.Attribute o name apos) (e :: es) [] cpos) (tBW X.K T r to t):=by
 intro pins s σ H Q I h;refine wpAny_Call_method_late hbase hfew hline rfl (thn (ho pins s σ H _ I h) λv s1 ⟨x,H1,I1,r1,ty,q1⟩=>?_);obtain ⟨h1,h2⟩:=Bf I1 r1 ty;refine ⟨T,id,pa,slot,hty,h1,h2,?_⟩;have hA:=ha cpos pins s1 σ H1 _ I1 q1;rw [hs] at hA ⊢;refine Calls.callWith_builtin (by show (false || (backTo cpos (starEach es X.env)).any (·.1))=false;rw [hplain] <;> rfl) (Calls.evalArgs_plain ?_);exact thn hA λus s2 ⟨vs,H2,I2,r2,q2⟩=>hm pins s2 σ H2 x vs v us Q I2 r1 r2 q2
theorem jb {K:W.Frag} {H:Hp}:∀ {ws:List Str} {xs:List V},IsPs K H (ws.map Dt.str) xs->xs=ws.map V.str
 | [],_,r=>by cases r;rfl
 | w :: ws,_,r=>by
  cases r with
  | cons h1 h2 =>
   cases h1
   rw [jb h2]
   rfl
def J4 (K:W.Frag):V->List V->Hp->VK->Prop:=λx xs H Q=>∃ (ws:List Str) (z:Str) (j:Nat),xs=[.str z]/\IsP K H (.tup (ws.map Dt.str)) x/\ws[j]?=some z/\(∀ m:Nat,m < j->ws[m]?≠some z)/\ws.length<=1000/\Q (.int (j:Nat)) H
theorem fE:MtR X "tuple.index" (J4 X.K):=by
 intro pins s σ H x vs v us Q I rx rv h;obtain ⟨ws,z,j,rfl,hp,h1,h2,h3,q⟩:=h;obtain ⟨a,xs,rfl,k1,_,k2⟩:=hp.unref;rw [jb k2] at k1;exact rY pins s σ H _ _ v us Q I rx rv ⟨a,ws,z,j,rfl,rfl,k1,h1,h2,h3,q⟩
end
section
variable {P:Program} {w:World} {A:Around} {E:Value->Shared->Prop} {s:Shared}
end
section
variable {P:Program} {w:World} {A:Around} {R:Result->Shared->Prop} {it:Addr} {fp wr:List Addr} {G:Array GenState->Array GenState->Prop} {n:Nat} {Pt:Nat->Value->Prop} {St:Nat->Shared->Prop}
end
section
variable {P:Program} {w:World} {A:Around} {E:Value->Shared->Prop} {s:Shared}
end
section
variable {P:Program} {w:World} {A:Around} {E:Value->Shared->Prop} {s:Shared}
def SIt (h:Heap) (I a:Addr) (first:Value) (i n ep:Nat):Prop:=∃ o,h.get? I=some o/\o.cls=.type "set_iterator" /\o.data=.fields #[first,.int i 0,.ref a,.int n 0,.int ep 0]
theorem SIt.type {I a:Addr} {first:Value} {i n ep:Nat} (x:SIt s.heap I a first i n ep):s.TypeIs (.ref I) "set_iterator" :=let ⟨o,ho,hc,_⟩:=x;⟨o,ho,hc⟩
theorem SIt.at {h h':Heap} {I a:Addr} {first:Value} {i n ep:Nat} (x:SIt h I a first i n ep) (e:∀ o,h.get? I=some o->h'.get? I=some o):SIt h' I a first i n ep:=let ⟨o,ho,r⟩:=x;⟨o,e _ ho,r⟩
end
section
variable {P:Program} {w:World} {A:Around} {E:Value->Shared->Prop} {s:Shared}
end
section
variable {P:Program} {w:World} {A:Around} {E:Value->Shared->Prop} {s:Shared}
end
section
variable {P:Program} {w:World} {A:Around} {E:Value->Shared->Prop} {s:Shared}
end
section
variable {P:Program} {w:World} {A:Around} {E:Value->Shared->Prop} {s:Shared}
end
section
variable {P:Program} {w:World} {A:Around} {E:Value->Shared->Prop} {s:Shared}
end
section
variable {X:Cx}
end
section
variable {X:Cx} {elts:List Expr} {k:Nat} {tpos:Pos}
end
section
variable {X:Cx} {o e f:Expr} {apos cpos:Pos} {td ty tx:TE}
end
section
variable {X:Cx} {e st:Expr} {te tst:TE} {p2 pos:Pos}
end
end L2
namespace PySem
open Sem (wp)
def Heap.Tr (h base:Heap) (e:Addr) (cls:Value) (ws:Array Value) (fl:Value):Prop :=
 ∃ oe vs T oT ts,h.get? e=some oe/\oe.cls=cls/\oe.data=.fields vs/\(∀ i,i≠1->vs[i]?=ws[i]?)/\vs[1]?=some (.ref T)/\base.get? T=none/\T≠e/\h.get? T=some oT/\oT.data=.fields ts/\ts[3]?=some fl
def Heap.Fl (base:Heap) (l:List Env) (e:Addr) (cls:Value) (ws:Array Value) (fl:Value) (h:Heap):Prop :=
 base.StaysIn h/\base.get? e=none/\h.FunFrames base l/\h.Tr base e cls ws fl
section
variable {M:Model} {A:Around} {E:Value->Shared->Prop} {s:Shared}
theorem fY {base:Heap} {env:Env} {outer:List Env} {L e:Addr} {oe:Obj} {vs ws:Array Value} {head:Value} {hadNext:Bool} {Q:Unit->Shared->Prop}
  (hfr:A.frames=some (env :: outer)) (hl:s.heap.FunFrames base (env :: outer)) (hf:env.frame=some L)
  (he:s.heap.get? e=some oe) (hkb:base.StaysIn s.heap) (hen:base.get? e=none) (hd:oe.data=.fields vs) (hsz:1 < vs.size) (hw:∀ i,i≠1->vs[i]?=ws[i]?)
  (h:∀ h',Heap.Fl base (env :: outer) e oe.cls ws (rawInt L) h'->s.heap.UpToSlots h'->Q () { s with heap:=h' }) :
  wpAny M A (do let a <- frameOf env;let pl <- entryPlaceOf L hadNext;let b <- EntryCells.newEntry head a .none (rawInt L) .none pl;setField (.ref e) 1 b) Q E s:=by
 have nf:e∉(env :: outer).filterMap (·.frame):=λhm=>by
  obtain ⟨_,o,ho,hn⟩:=hl.mem hm;rw [he] at ho
  cases ho
  exact hn vs hd
 refine wpAny_bind (wpAny_frameOf_fun hfr hl hf λh1 hs1=>?_);refine wpAny_bind (wpAny_entryPlaceOf λpl hpl=>?_);unfold EntryCells.newEntry newFields;refine wpAny_bind (wpAny_newObj_type ?_ (hpl.sizeOk5 _ _ _ _ _))
 generalize hts:([head,Value.ref L,Value.none,rawInt L,Value.none]++(if pl.isEmpty then List.replicate 6 Value.none else pl)).toArray=ts
 have h3:ts[3]?=some (rawInt L):=by rw [<- hts];simp
 have he1:h1.get? e=some oe:=(hs1.2.1 e nf).trans he;have he2:=aAa (h:=h1) { cls:=.type "traceback",dict:=none,data:=.fields ts } he1;have hT2:(h1.push { cls:=.type "traceback",dict:=none,data:=.fields ts }).get? h1.objs.size=some { cls:=.type "traceback",dict:=none,data:=.fields ts }:=aAg h1 rfl;have hTe:h1.objs.size≠e:=aAQ (aAb he1);have kb1:base.StaysIn h1:=λb o hbo=>(hs1.2.1 b λhm=>by rw [(hl.mem hm).1] at hbo;cases hbo).trans (hkb b o hbo);have old:∀ b o,b≠e->h1.get? b=some o->((h1.push { cls:=.type "traceback",dict:=none,data:=.fields ts }).update e (Obj.mapFields (·.setIfInBounds 1 (Value.ref h1.objs.size)))).get? b=some o:=λb o ne hb=>(aAD _ _ (Ne.symm ne)).trans (aAa _ hb);have nrec:∀ b o,s.heap.get? b=some o->(∀ vs,o.data≠.fields vs)->b≠e:=λb o hb hn q=>by
  subst q;rw [he] at hb
  cases hb
  exact hn vs hd
 have up:∀ b o,s.heap.get? b=some o->(∀ vs,o.data≠.fields vs)->∃ sl,((h1.push { cls:=.type "traceback",dict:=none,data:=.fields ts }).update e (Obj.mapFields (·.setIfInBounds 1 (Value.ref h1.objs.size)))).get? b=some { o with slots:=sl }:=λb o hb hn=>by
  obtain ⟨sl,q⟩:=hs1.2.2 b o hb;exact ⟨sl,old b _ (nrec b o hb hn) q⟩
 have hd3:=Obj.data_mapFields hd (·.setIfInBounds 1 (Value.ref h1.objs.size));refine wpAny_setField he2 hd hsz (h _ ⟨λb o hbo=>old b o (λq=>by rw [q,hen] at hbo;cases hbo) (kb1 b o hbo),hen,hl.of_keeps λb o hb hn=>?_,?_⟩ up)
 ·obtain ⟨sl,q⟩:=up b o hb hn;exact ⟨_,q,rfl⟩
 ·refine ⟨_,_,h1.objs.size,_,ts,aAN _ he2 (Obj.isFreed_of_fields hd3),Obj.cls_mapFields _ _,hd3,λi hi=>?_,?_,kb1.fresh,hTe,(aAD _ _ (Ne.symm hTe)).trans hT2,rfl,h3⟩
  ·rw [Array.getElem?_setIfInBounds_ne (Ne.symm hi)];exact hw i hi
  ·simp [hsz]
theorem bj {base:Heap} {l:List Env} {e:Addr} {cls fl:Value} {ws:Array Value} {fr:Option Addr} {Q:Unit->Shared->Prop} (x:Heap.Fl base l e cls ws fl s.heap)
  (h:∀ h',Heap.Fl base l e cls ws (fr.elim Value.none λf=>rawInt f) h'->s.heap.UpToSlots h'->Q () { s with heap:=h' }):wpAny M A (setFlight (.ref e) fr) Q E s:=by
 obtain ⟨k1,k2,k3,oe,vs,T,oT,ts,he,hc,hd,hk,h1,hnT,hTe,hT,hdT,h3⟩:=x;have hz:3 < ts.size:=(aAH.mp h3).1;have oth:∀ b,b≠T->(s.heap.update T (Obj.mapFields (·.setIfInBounds 3 (fr.elim Value.none λf=>rawInt f)))).get? b=s.heap.get? b:=λb hb=>aAD _ _ (Ne.symm hb);have nrec:∀ b o,s.heap.get? b=some o->(∀ vs,o.data≠.fields vs)->b≠T:=λb o hb hn q=>by
  subst q;rw [hT] at hb
  cases hb
  exact hn ts hdT
 have hd3:=Obj.data_mapFields hdT (·.setIfInBounds 3 (fr.elim Value.none λf=>rawInt f));unfold setFlight;refine wpAny_bind (wpAny_field he hd h1 ?_);rw [if_pos (show (Value.ref T != Value.none)=true from by simp)];refine wpAny_setField hT hdT hz (h _ ⟨λb o hbo=>(oth b λq=>by rw [q,hnT] at hbo;cases hbo).trans (k1 b o hbo),k2,k3.of_keeps λb o hb hn=>⟨o,(oth b (nrec b o hb hn)).trans hb,rfl⟩,?_⟩ λb o hb hn=>⟨o.slots,(oth b (nrec b o hb hn)).trans hb⟩);exact ⟨oe,vs,T,_,_,(oth e (Ne.symm hTe)).trans he,hc,hd,hk,h1,hnT,hTe,aAN _ hT (Obj.isFreed_of_fields hd3),hd3,by simp [hz]⟩
theorem iS {base:Heap} {env:Env} {outer:List Env} {L e:Addr} {cls:Value} {ws:Array Value} {Q:Unit->Shared->Prop} (hfr:A.frames=some (env :: outer)) (hf:env.frame=some L) (x:Heap.Fl base (env :: outer) e cls ws .none s.heap)
  (h:∀ h',Heap.Fl base (env :: outer) e cls ws (rawInt L) h'->s.heap.UpToSlots h'->Q () { s with heap:=h' }):wpAny M A (noteFrame (.ref e) env) Q E s:=by
 obtain ⟨k1,k2,k3,oe,vs,T,oT,ts,he,hc,hd,hk,h1,hnT,hTe,hT,hdT,h3⟩:=x;have hz:3 < ts.size:=(aAH.mp h3).1;have oth:∀ b,b≠T->(s.heap.update T (Obj.mapFields (·.setIfInBounds 3 Value.none))).get? b=s.heap.get? b:=λb hb=>aAD _ _ (Ne.symm hb);have nrec:∀ b o,s.heap.get? b=some o->(∀ vs,o.data≠.fields vs)->b≠T:=λb o hb hn q=>by
  subst q;rw [hT] at hb
  cases hb
  exact hn ts hdT
 subst hc;unfold noteFrame;simp only [hf];refine wpAny_bind (wpAny_field he hd h1 ?_);rw [if_pos (show (Value.ref T != Value.none)=true from by simp)];refine wpAny_bind (wpAny_field hT hdT h3 ?_);rw [if_neg (show ¬ ((Value.none == rawInt L)=true) from by simp [rawInt])];refine wpAny_bind (wpAny_setField hT hdT hz ?_);refine fY (s:={ s with heap:=s.heap.update T (Obj.mapFields (·.setIfInBounds 3 Value.none)) }) hfr (k3.of_keeps λb o hb hn=>⟨o,(oth b (nrec b o hb hn)).trans hb,rfl⟩) hf ((oth e (Ne.symm hTe)).trans he)
  (λb o hbo=>(oth b λq=>by rw [q,hnT] at hbo;cases hbo).trans (k1 b o hbo)) k2 hd (aAH.mp h1).1 hk λh' x' u=>h h' x' λb o hb hn=>u b o ((oth b (nrec b o hb hn)).trans hb) hn
theorem vZ {base:Heap} {env:Env} {outer:List Env} {L e:Addr} {oe:Obj} {vs:Array Value} {Q:Unit->Shared->Prop} (hfr:A.frames=some (env :: outer)) (hf:env.frame=some L) (hl:s.heap.FunFrames base (env :: outer))
  (he:s.heap.get? e=some oe) (hkb:base.StaysIn s.heap) (hen:base.get? e=none) (hd:oe.data=.fields vs) (h1:vs[1]?=some .none)
  (h:∀ h',Heap.Fl base outer e oe.cls vs .none h'->s.heap.UpToSlots h'->Q () { s with heap:=h' }):wpAny M A (leaving env (.ref e)) Q E s:=by
 unfold leaving noteFrame;simp only [hf];refine wpAny_bind (wpAny_bind (wpAny_field he hd h1 ?_));rw [if_neg (1)];refine fY (ws:=vs) hfr hl hf he hkb hen hd (aAH.mp h1).1 (λ_ _=>rfl) λh2 x2 u2=>?_;refine bj (s:={ s with heap:=h2 }) (fr:=none) x2 λh3 x3 u3=>?_;obtain ⟨k1,k2,⟨_,_,k3⟩,k4⟩:=x3;exact h h3 ⟨k1,k2,k3,k4⟩ (u2.trans u3)
end
end PySem
namespace PySem
open Sem (wp)
theorem cU:entryFor table "proto.unchain" = some Builtin.«proto.unchain»:=entryFor_of_tree (by kernel_rfl)
section
variable {prog:Program} {w:World} {A:Around} {E:Value->Shared->Prop} {s:Shared} {env:Env}
variable {nm q:Str} {C N:Addr} {bs bm bmB:List Value} {hdct:Bool} {sn:List Str} {sub:List Value} {ab:Bool} {col:Option Bool} {dd:Option Addr} {k0 k1 k2 k3 k5:Option Value} {B newId initId:String}
theorem pw {x c:Sem Value} {Q:Flow->Shared->Prop} {ea:Addr} (hbase:bm.contains (.type "BaseException")=true) (hh:A.handled=some (.ref ea))
  (hc:∀ {s:Shared} {Q:Value->Shared->Prop},Q .none s->wpAny (model prog w) A c Q E s)
  (h:wpAny (model prog w) A x (λv s₁=>∃ e t oa wa,v=.ref e/\s₁.heap.get? C=some (excClassObj nm q C N bs bm hdct sn sub ab col dd k0 k1 k2 k3 k5 newId)/\e≠C/\e≠ea/\s₁.heap.get? ea=some oa/\oa.data=.fields wa/\wa[2]?=some .none /\
   s₁.heap.get? e=some { cls:=.ref C,data:=.fields #[.ref t,.none,.none,.none,.bool false,.none] } /\
   ∀ h',(∀ b,b≠e->h'.get? b=s₁.heap.get? b)->h'.get? e=some { cls:=.ref C,data:=.fields #[.ref t,.none,.ref ea,.none,.bool true,.none] }->E (.ref e) { s₁ with heap:=h' }) E s) :
  wpAny (model prog w) A (raiseStmt env (some x) (some c)) Q E s:=by
 have hcB:(Value.ref C :: bm).contains (.type "BaseException")=true:=by rw [List.contains_cons,hbase,Bool.or_true]
 unfold raiseStmt;refine wpAny_bind (wpAny_mono h (λv s₁ h₁=>?_) λ_ _ x=>x);obtain ⟨e,t,oa,wa,rfl,hC,neC,neA,ha,hda,h2,he,hE⟩:=h₁;obtain ⟨hp,g,d,tk,os⟩:=s₁;refine wpAny_bind (wpAny_holding (hc ?_))
 repeat (first | with_reducible refine wpAny_loadPart_at he ?_ | with_reducible refine wpAny_loadPart_at hC ?_ | (with_reducible refine wpAny_isSubtype_exc hC ?_;rw [hcB]) | wp_step)
 unfold raiseNew;refine wpAny_bind (wpAny_handled ?_);rw [hh];have bne:(Value.ref ea != Value.ref e)=true:=by simp [Ne.symm neA]
 dsimp only;rw [if_pos bne];have he3:=aAN (Obj.mapFields (·.setIfInBounds 3 Value.none)) he rfl;have he4:=aAN (Obj.mapFields (·.setIfInBounds 4 (Value.bool true))) he3 rfl;have oth:∀ b,b≠e->((hp.update e (Obj.mapFields (·.setIfInBounds 3 Value.none))).update e (Obj.mapFields (·.setIfInBounds 4 (Value.bool true)))).get? b=hp.get? b:=λb hb=>(aAD _ _ (Ne.symm hb)).trans (aAD _ _ (Ne.symm hb));have ha4:=(oth ea (Ne.symm neA)).trans ha
 generalize (hp.update e (Obj.mapFields (·.setIfInBounds 3 Value.none))).update e (Obj.mapFields (·.setIfInBounds 4 (Value.bool true)))=h4 at he4 oth ha4 ⊢
 refine wpAny_bind (wpAny_holding (wpAny_runValue (codeAny_builtin cU ?_)));unfold Builtin.«proto.unchain»;refine wpAny_bind (wpAny_field ha4 hda h2 ?_);have fin:wpAny (model prog w) A (do updateField e 2 (Value.ref ea);throw (Value.ref e)) Q E { heap:=h4,gens:=g,drawn:=d,toks:=tk,os:=os }:=by
  refine wpAny_bind ?_;show wpAny (model prog w) A (setField (.ref e) 2 (Value.ref ea)) _ _ _;refine wpAny_setField he4 rfl (by show 2 < 6;decide) (wpAny_throw ?_);exact hE _ (λb hb=>(aAD _ _ (Ne.symm hb)).trans (oth b hb)) (aAN _ he4 rfl)
 repeat (first | exact fin | wp_step)
end
end PySem
namespace L2
open PySem PySem.Spec PyProof.Rows
def Bg (P:Program) (w:World) (ws:Array Value):CXT:=λouter H s E e s'=>∃ (ea C:Addr) (B:Heap) (H':Hp),e=.ref ea/\Heap.Fl B outer ea (.ref C) ws .none s'.heap/\s'.os=s.os/\AllBare s'.gens/\Un (frs outer) [] H H' s.heap s'.heap/\HOk P w H' B /\
 (∀ b o,s.heap.get? b=some o->H b=none->b∉frs outer->B.get? b=some o)/\(∀ b o,s.heap.get? b=some o->b∉frs outer->∃ o',B.get? b=some o')/\E (.ref C) none H'
def lJ (P:Program) (w:World):CXT:=λouter H s E e s'=>∃ ws a0,ws[0]?=some a0/\ws[2]?=some .none/\Bg P w ws outer H s E e s'
def ut (X:Cx) (E:XK):Prop:=X.xe=λe s'=>wpAny (model X.prog X.w) X.A (leaving X.env e) (λ_ s''=>lJ X.prog X.w X.outer X.H₀ X.s₀ E e s'') (λe' s''=>lJ X.prog X.w X.outer X.H₀ X.s₀ E e' s'') s'
section
variable {X:Cx} {pins:List (Addr×Obj)} {σ:St} {H:Hp} {s:Shared}
theorem kK (hstk:X.stack=X.env :: X.outer) (I:Inv X pins σ H s) {h':Heap} {ea:Addr} (kp:∀ b o,s.heap.get? b=some o->h'.get? b=some o) (hn:s.heap.get? ea=none) :
  (W.hideAll s.heap (frs (X.env :: X.outer))).StaysIn h'/\(W.hideAll s.heap (frs (X.env :: X.outer))).get? ea=none/\h'.FunFrames (W.hideAll s.heap (frs (X.env :: X.outer))) (X.env :: X.outer):=by
 have F0:s.heap.FunFrames X.base (X.env :: X.outer):=by rw [<- hstk];exact I.stack
 have hin:∀ env∈(X.env :: X.outer),∀ b,env.frame=some b->b∈frs (X.env :: X.outer):=λenv he b hb=>aAl.mpr ⟨env,he,hb⟩;refine ⟨λb o e=>kp b o (W.of_hideAll _ e),?_,(W.funFrames_hide F0 hin).of_keeps λb o hb _=>⟨o,kp b o hb,rfl⟩⟩
 cases hq:(W.hideAll s.heap (frs (X.env :: X.outer))).get? ea with
 | none=>rfl
 | some o =>
  have:=W.of_hideAll _ hq;rw [hn] at this
  cases this
theorem nq {E:XK} {C ea:Addr} {h' h2:Heap} {ws:Array Value} {tk:Nat} (hstk:X.stack=X.env :: X.outer) (hfr:X.env.frame=some X.env.locals) (hex:X.ex=[]) (I:Inv X pins σ H s) (kp:∀ b o,s.heap.get? b=some o->h'.get? b=some o)
  (fl:Heap.Fl (W.hideAll s.heap (frs (X.env :: X.outer))) X.outer ea (.ref C) ws .none h2) (up:h'.UpToSlots h2) (q:E (.ref C) none H):Bg X.prog X.w ws X.outer X.H₀ X.s₀ E (.ref ea) { s with heap:=h2,toks:=tk }:=by
 have F0:s.heap.FunFrames X.base (X.env :: X.outer):=by rw [<- hstk];exact I.stack
 have mem:∀ b∈frs X.outer,b∈frs (X.env :: X.outer):=λb hb=>by
  obtain ⟨env,he,hf⟩:=aAl.mp hb;exact aAl.mpr ⟨env,aAp _ he,hf⟩
 have inv:∀ b,b∈frs (X.env :: X.outer)->b=X.env.locals\/b∈frs X.outer:=λb hb=>by
  obtain ⟨env,he,hf⟩:=aAl.mp hb;rcases aAm.mp he with rfl | he
  ·rw [hfr] at hf;exact .inl (Option.some.inj hf).symm
  ·exact .inr (aAl.mpr ⟨env,he,hf⟩)
 have stayB:∀ b o,s.heap.get? b=some o->b∉frs (X.env :: X.outer)->(W.hideAll s.heap (frs (X.env :: X.outer))).get? b=some o:=λb o e n=>W.hideAll_get _ e n;have old:∀ b o,X.s₀.heap.get? b=some o->b∉frs X.outer->b∉frs (X.env :: X.outer):=λb o e n z=>by
  rcases inv b z with rfl | z
  ·exact absurd (aAd (aAb e) I.ok.above) (aAx _)
  ·exact n z
 have B0:Un X.fs [] X.H₀ H X.s₀.heap s.heap:=by have z:=I.base;rw [hex] at z;exact z
 have c1:∀ b o,X.s₀.heap.get? b=some o->X.H₀ b=none->b∉frs X.outer->(W.hideAll s.heap (frs (X.env :: X.outer))).get? b=some o:=λb o e n hb=>stayB b o (B0.keep b o e n hb (by simp)) (old b o e hb);have c2:∀ b o,X.s₀.heap.get? b=some o->b∉frs X.outer->∃ o',(W.hideAll s.heap (frs (X.env :: X.outer))).get? b=some o':=λb o e hb=>by
  obtain ⟨o',e'⟩:=B0.there b o e (by simp);exact ⟨o',stayB b o' e' (old b o e hb)⟩
 refine ⟨ea,C,_,H,rfl,fl,I.os,I.bare,eg B0 c1 c2 fl.1 λb o e hb=>?_,λb u e=>?_,c1,c2,q⟩
 ·obtain ⟨sl,e1⟩:=B0.slot b o e (I.ok.frf b hb) hb (by simp);obtain ⟨o2,e2,nf⟩:=cv F0 (mem b hb);rw [e1] at e2;obtain rfl:=Option.some.inj e2;obtain ⟨sl2,e3⟩:=up b _ (kp b _ e1) nf;exact ⟨sl2,e3⟩
 ·refine (I.hok b u e).stay (λc v hc z=>stayB c v z λhf=>?_) (λ_ z=>z) λ_ _ z=>z;have n0:H c=none:=by rw [<- hstk] at hf;exact I.stkFree c hf
  rcases hc with rfl | hc
  ·rw [e] at n0;cases n0
  ·rw [hc] at n0;cases n0
theorem rZ {E:XK} {C:Addr} {ea:Addr} {vs:List Value} {h':Heap} {tk:Nat} (hx:ut X E) (hstk:X.stack=X.env :: X.outer) (hfr:X.env.frame=some X.env.locals) (hex:X.ex=[]) (I:Inv X pins σ H s) (hm:Heap.MadeExcOf s.heap h' ea (.ref C) vs)
  (q:E (.ref C) none H):X.xe (.ref ea) { s with heap:=h',toks:=tk }:=by
 rw [hx];have fr0:X.A.frames=some (X.env :: X.outer):=by rw [<- hstk];exact I.ok.frames
 obtain ⟨k1,k2,k3⟩:=kK hstk I hm.keeps hm.new;obtain ⟨t,ht,_⟩:=hm.there;refine vZ (s:={ s with heap:=h',toks:=tk }) fr0 hfr k3 ht k1 k2 rfl rfl λh2 fl up=>?_;exact ⟨_,_,rfl,rfl,nq (s:=s) (tk:=tk) hstk hfr hex I hm.keeps fl up q⟩
theorem ps_raise2 {E:XK} {x:Str} {C:Addr} {e:Expr} {es:List Expr} {t:TA} {np cpos pos:Pos} (hx:ut X E) (hstk:X.stack=X.env :: X.outer) (hfr:X.env.frame=some X.env.locals) (hex:X.ex=[]) (hc:X.calm=true) (G:ExC X.K X.mg x C) (hg:Gl X x) (ha:PA X (e :: es) t)
  (hdb:(x == ("__debug__" : Str))=false:=by decide) (he:starEach (e :: es) X.env=(false,eval e X.env) :: starEach es X.env:=by rfl) (hpl:(backTo cpos (starEach es X.env)).any (·.1)=false:=by rfl) :
  PS X (.Raise (some (.Call (.Name x np) (e :: es) [] cpos)) none pos) (oZ C E t):=by
 intro pins s σ H D I h;obtain ⟨bm,N,nm,qn,bs,hd,sn,sub,ab,col,dd,k0,k1,k2,k3,k5,mN,hC,hN,hni,T⟩:=iP I.ok.mod.kin G.q;refine wpAny_Raise_call_subT (C:=C) (nm:=nm) (q:=qn) (N:=N) (bs:=bs) (bm:=bm) (hdct:=hd) (sn:=sn) (sub:=sub) (ab:=ab) (col:=col) (dd:=dd) (k0:=k0) (k1:=k1) (k2:=k2) (k3:=k3) (k5:=k5) F.excBase_ValueError (mN:=mN) (T.hasType F.excBase_ValueError.hasBase) (I.ok.hd hc)
  (by rw [he];show (false || (backTo cpos (starEach es X.env)).any (·.1))=false;rw [hpl];rfl) hni (aY I hg G.m ⟨rfl,?_⟩ hdb)
 have z:=ha cpos pins s σ H _ I h;rw [he] at z ⊢;refine Calls.evalArgs_plain (wpAny_mono z (λus s2 ⟨vs,H2,I2,r,hz,q⟩=>?_) λ_ _ y=>y);refine ⟨rfl,by show us.length<=sizeLine;rw [<- r.length];exact hz,I2.bk _ _ hC,hN.keeps I2.bk,T.keeps I2.bk,λh' ea hm=>?_⟩;exact rZ (tk:=s2.toks) hx hstk hfr hex I2 hm q
def PX2 (X:Cx) (e:Expr) (t:TX):Prop :=
 ∀ (pins:List (Addr×Obj)) (s:Shared) (σ:St) (H:Hp) (Q:VK) (E:XK),Inv X pins σ H s->t σ H Q E ->
  wpAny (model X.prog X.w) X.A (eval e X.env) (EP X pins σ Q) (λex s'=>∃ H1 s1,Inv X pins σ H1 s1/\lJ X.prog X.w X.stack H1 s1 E ex s') s
theorem uu {k:Nat} {f:Addr} {fd:FuncData} {ps:List Str} {sp:Sp} {x:Str} {p pos:Pos} {e:Expr} {es:List Expr} {t:TA} (F:FnOk X.prog X.w X.K X.mg X.base (lJ X.prog X.w) k f fd ps sp) (hr:Room k X.A) (hg:Gl X x) (hm:X.mg x=some (.ref f))
  (hk:W.keepIn X.K (.ref f)=true) (hb:Binds X.K fd ps []) (ha:PA X.nox (e :: es) t) (hdb:(x == ("__debug__" : Str))=false:=by decide) (he:starEach (e :: es) X.env=(false,eval e X.env) :: starEach es X.env:=by rfl)
  (hpl:(backTo pos (starEach es X.env)).any (·.1)=false:=by rfl):PX2 X (.Call (.Name x p) (e :: es) [] pos) (λσ H Q E=>t σ H λvs H1=>sp vs H1 Q E):=by
 intro pins s σ H Q E I h;refine wpAny_Call_Name_kw (aY I hg hm ?_ hdb);refine W.callWith_K (h₀:=X.base) I.ok.mod.kin hk (wpAny_mono (ha pos pins s σ H _ (I.wish _) h) (λus s1 ⟨vs,H1,I1',r,q⟩=>?_) λ_ _ z=>z.elim) he hpl;have I1:Inv X pins σ H1 s1:=Inv.unwish I1';refine ⟨I1.kIn,?_⟩;have hl:us.length=ps.length:=by rw [<- r.length];exact F.len _ _ _ _ q
 have hb':BindsTo s1 fd ⟨us,[]⟩ (ps.zip us):=by
  have z:=hb s1 us I1.kIn (by rw [aAP];exact hl)
  rwa [aAP] at z
 refine wpAny_call (codeAny_mono (F.run X.A X.stack s1 H1 ⟨us,[]⟩ us vs Q E hr I1.env0 hb' r q) λrr s' hq=>?_)
 cases rr with
 | error ex=>exact ⟨H1,s1,I1,hq⟩
 | ok fl =>
  cases fl with
  | ret u=>exact I1.after hq
  | next=>exact False.elim hq
  | brk=>exact False.elim hq
  | cont=>exact False.elim hq
end
theorem Fun.okE2 {P:Program} {w:World} {K:W.Frag} {mg:Str->Option Value} {base:Heap} {x qual:Str} {st:Stmt} {f:Addr} {fd:FuncData} {N ps:List Str} {k:Nat} {sp:Sp} (F:Fun K x qual st f fd) (S:FnScope N ps (aa st)) (len:∀ vs H Q E,sp vs H Q E->vs.length=ps.length)
  (hbody:∀ (cdv:Value) (A:Around) (outer:List Env) (s:Shared) (H:Hp) (vs:List V) (Q:VK) (E:XK),Room k (A.deeper (envOfC qual (aa st) s.heap.objs.size f cdv))->sp vs H Q E ->
   ∃ t,PSs (eZ (lJ P w) P w K mg base N qual (aa st) f cdv A outer s H E) (aX st) t/\t { nx:=λ_ H'=>Q .non H',rt:=Q } (start N vs) H):FnOk P w K mg base (lJ P w) (k+1) f fd ps sp:=by
 obtain ⟨oc,od,kV,doc,pm,an,cdv,ct,osl,rfl,lk,hcd⟩:=F.ex;exact mJ lk hcd S len λA outer s H vs Q E hr hsp=>hbody cdv A outer s H vs Q E hr hsp
theorem xeOf2 {P:Program} {w:World} {K:W.Frag} {mg:Str->Option Value} {base:Heap} {N:List Str} {qual:Str} {scope:Scope} {f:Addr} {cd:Value} {A:Around} {outer:List Env} {s:Shared} {H:Hp} {E:XK} :
  ut (eZ (lJ P w) P w K mg base N qual scope f cd A outer s H E) E:=rfl
end L2
namespace PySem
open Sem (wp)
section
variable {prog:Program} {w:World} {A:Around} {E:Value->Shared->Prop} {s:Shared} {env:Env}
variable {nm q:Str} {C N:Addr} {bs bm bmB:List Value} {hdct:Bool} {sn:List Str} {sub:List Value} {ab:Bool} {col:Option Bool} {dd:Option Addr} {k0 k1 k2 k3 k5:Option Value} {B newId initId:String}
theorem ir (F:ExcBaseFacts B newId initId bmB) {mN:Str->Option Value} {x:Str} {np cpos pos cp:Pos} {j:Nat} {args:List Expr} {Q:Flow->Shared->Prop} {ea:Addr}
  (hbase:bm.contains (.type "BaseException")=true) (hh:A.handled=some (.ref ea)) (hplain:(backTo cpos (starEach args env)).any (·.1)=false) (hni:mN "__init__" = none)
  (h:wpAny (model prog w) A (eval (.Name x np) env) (λf s₁=>f=.ref C/\wpAny (model prog w) A (evalArgs (.ref C) true (backTo cpos (starEach args env)) [])
   (λa s₂=>a.kw=[]/\a.pos.length<=sizeLine/\s₂.heap.get? C=some (excClassObj nm q C N bs bm hdct sn sub ab col dd k0 k1 k2 k3 k5 newId)/\s₂.heap.Ns N mN/\OwnTail s₂.heap bmB bm/\(∃ oa wa,s₂.heap.get? ea=some oa/\oa.data=.fields wa/\wa[2]?=some .none) /\
    ∀ h' e t,(∀ b o,s₂.heap.get? b=some o->h'.get? b=some o)->s₂.heap.get? e=none->h'.get? e=some { cls:=.ref C,data:=.fields #[.ref t,.none,.ref ea,.none,.bool true,.none] }->E (.ref e) { s₂ with heap:=h' }) E s₁) E s) :
  wpAny (model prog w) A (exec (.Raise (some (.Call (.Name x np) args [] cpos)) (some (.Constant .none j cp)) pos) env) Q E s:=by
 rw [arm_exec_Raise];refine wpAny_bind (wpAny_standAt ?_);refine pw (C:=C) (nm:=nm) (q:=q) (N:=N) (bs:=bs) (bm:=bm) (hdct:=hdct) (sn:=sn) (sub:=sub) (ab:=ab) (col:=col) (dd:=dd) (k0:=k0) (k1:=k1) (k2:=k2) (k3:=k3) (k5:=k5) (newId:=newId) hbase hh (λq=>wpAny_bind (wpAny_Constant_none (wpAny_bind (wpAny_standAt (wpAny_pure q))))) ?_;refine wpAny_bind (wpAny_mono (wpAny_Call_ofName (wpAny_mono h (λf s₁ h₁=>?_) λ_ _ x=>x)) (λv s₃ h₃=>wpAny_bind (wpAny_standAt (wpAny_pure h₃))) λ_ _ x=>x);obtain ⟨rfl,h₁⟩:=h₁;unfold callWith;refine wpAny_bind (wpAny_holding (wpAny_mono h₁ (λa s₂ h₂=>wpAny_bind (wpAny_standAt ?_)) λ_ _ x=>x));obtain ⟨apos,akw⟩:=a;obtain ⟨hkw,hlen,hC,hn,T,⟨oa,wa,ha,hda,h2⟩,h₂⟩:=h₂;obtain rfl:akw=[]:=hkw;obtain ⟨hp,g,d,tk,os⟩:=s₂;simp only [hplain];refine wpAny_bind (wpAny_keeperOf_exc hC ?_);refine wpAny_bind (wpAny_call_exc_subT (hrest:=hlen) F T hC hn hni λh' e hm=>wpAny_bind (wpAny_holding (wpAny_point (wpAny_pure ?_))));obtain ⟨t,ht,_,_⟩:=hm.there;have ne:∀ {b:Addr} {o:Obj},hp.get? b=some o->e≠b:=λ{b o} hb c=>by
  subst c;have:=hm.new;rw [show Heap.get? hp e=some o from hb] at this
  cases this
 exact ⟨e,t,oa,wa,rfl,hm.keeps _ _ hC,ne hC,ne ha,hm.keeps _ _ ha,hda,h2,ht,λh'' ho he=>h₂ h'' e t (λb o hb=>(ho b (ne hb).symm).trans (hm.keeps b o hb)) hm.new he⟩
theorem v9 {M:Model} {A':Around} {base:Heap} {outer:List Env} {L e:Addr} {oe:Obj} {vs:Array Value} {E2:Value->Shared->Prop} (hfr:A.frames=some (env :: outer)) (hfr':A'.frames=some (env :: outer)) (hf:env.frame=some L) (hl:s.heap.FunFrames base (env :: outer))
  (he:s.heap.get? e=some oe) (hkb:base.StaysIn s.heap) (hen:base.get? e=none) (hd:oe.data=.fields vs) (h1:vs[1]?=some .none)
  (hE:∀ s',E2 (.ref e) s'->E (.ref e) s')
  (h:∀ h',Heap.Fl base (env :: outer) e oe.cls vs (rawInt L) h'->s.heap.UpToSlots h'->E2 (.ref e) { s with heap:=h' }):notedBy M A' env (λx s2=>cameBackBy M A env E x s2) (.ref e) s:=by
 unfold notedBy noteFrame;simp only [hf];refine wpAny_bind (wpAny_field he hd h1 ?_);rw [if_neg (1)];refine fY (ws:=vs) hfr' hl hf he hkb hen hd (aAH.mp h1).1 (λ_ _=>rfl) λh2 x2 u2=>?_;have x2':=x2;obtain ⟨k1,k2,k3,oe2,vs2,T,oT,ts,he2,hc2,hd2,hk2,hh1,_⟩:=x2';unfold cameBackBy;refine wpAny_bind (wpAny_field (s:={ s with heap:=h2 }) he2 hd2 hh1 ?_);rw [if_neg (show ¬ ((Value.ref T == Value.none)=true) from by simp)];refine bj (s:={ s with heap:=h2 }) (fr:=env.frame) x2 λh3 x3 u3=>hE _ (h h3 ?_ (u2.trans u3));rw [hf] at x3;exact x3
end
end PySem
namespace L2
open PySem PySem.Spec PyProof.Rows
section
variable {X:Cx} {pins:List (Addr×Obj)} {σ:St} {H:Hp} {s:Shared}
end
end L2
namespace PySem
open Sem (wp)
section
variable {prog:Program} {w:World} {K:Type} [DecidableEq K] {kd:KeyKind prog w K} {k0:K} {A:Around} {E:Value->Shared->Prop} {s:Shared}
def IsBoxKey (kd:KeyKind prog w K) (k0:K) (h:Heap) (k:K) (a:Addr):Prop :=
 ∃ o u b n,h.get? a=some o/\o.cls=.type "tuple" /\o.data=.seq #[u,.ref b] n/\kd.is k0 u=true/\IsTupleKey kd h [k] b
theorem IsBoxKey.tuple {k:K} {a:Addr} (x:IsBoxKey kd k0 s.heap k a):s.TypeIs (.ref a) "tuple" :=let ⟨o,_,_,_,q,c,_⟩:=x;⟨o,q,c⟩
theorem IsBoxKey.one {h:Heap} {a:Addr} {x y:K} (p:IsBoxKey kd k0 h x a) (q:IsBoxKey kd k0 h y a):x=y:=by
 obtain ⟨o,u,b,n,p1,p2,p3,p4,p5⟩:=p;obtain ⟨o',u',b',n',q1,q2,q3,q4,q5⟩:=q;obtain rfl:o=o':=Option.some.inj (p1.symm.trans q1);rw [p3] at q3;injection q3 with e _
 have e2:u=u'/\b=b':=by simpa using e
 obtain ⟨rfl,rfl⟩:=e2;exact List.cons.inj (p5.inj q5) |>.1
theorem IsBoxKey.stay {h h':Heap} {k:K} {a d:Addr} {o:Obj} {es ep} (x:IsBoxKey kd k0 h k a) (q:h.get? d=some o) (qd:o.data=.dict es ep) (sb:Heap.SameBut d h h'):IsBoxKey kd k0 h' k a:=by
 obtain ⟨o',u,b,n,p1,p2,p3,p4,p5⟩:=x;have ne:a≠d:=by
  rintro rfl;obtain rfl:o'=o:=Option.some.inj (p1.symm.trans q);rw [qd] at p3;exact nomatch p3
 exact ⟨o',u,b,n,(sb.2 a ne).trans p1,p2,p3,p4,p5.keeps q qd sb⟩
def lK (kd:KeyKind prog w K) (k0 k:K):Int:=reduceHash (Builtin.Tuple.tupleHashOf [kd.hash k0,tupleKeyHash kd [k]])
theorem uv {k:K} {a:Addr} {Q:Int->Shared->Prop} (hu:A.units+1 < cLine) (x:IsBoxKey kd k0 s.heap k a) (z:Q (lK kd k0 k) { s with toks:=s.toks+4 }) :
  wpAny (model prog w) A (pyHash (.ref a)) Q E s:=by
 have ty:=x.tuple;obtain ⟨o,u,b,n,p1,_,p3,p4,p5⟩:=x;unfold pyHash
 first | unfold pyHashByItsType | skip
 first | refine wpAny_bind (wpAny_cRoomFor_or (.inr (aBf (aA2 _) hu)) ?_) | skip
 refine wpAny_bind (wpAny_specialOf ty F.slot_tuple_hash.lookup ?_);show wpAny _ _ (if (some (Value.builtin "tuple.__hash__") == some Value.none)=true then _ else _) Q E s;rw [if_neg (by rw [beq_builtin_none];exact aAj)];refine wpAny_bind (wpAny_specialOf ty F.slot_tuple_hash.lookup ?_);show wpAny _ _ (callSpecialIfBoundUnlessNone? (.ref a) "__hash__" _ >>= _) Q E s;refine wpAny_bind (wpAny_callSpecialIfBoundUnlessNone?_slot ty F.slot_tuple_hash (wpAny_call_entry F.slot_tuple_hash ty F.entry_tuple_hash ?_ (F.args_tuple_hash_1 _)));show wpAny _ _ (Builtin.Tuple.tupleItemsOf (.ref a) >>= _) _ _ s;refine wpAny_bind (wpAny_tupleItemsOf p1 p3 ?_);refine wpAny_bind ?_;rw [<- aAX];show wpAny _ _ (forIn [u,Value.ref b] _ _) _ _ _;rw [aAz];refine wpAny_bind (wpAny_bind (kd.pyHash p4 ?_))
 first | refine wpAny_pure ?_ | refine wpAny_bind (wpAny_pure (wpAny_pure ?_))
 show wpAny _ _ (forIn [Value.ref b] _ _) _ _ _;rw [aAz];refine wpAny_bind (wpAny_bind (wpAny_pyHash_tuple (knd:=kd) (ks:=[k]) (by exact hu) (by exact p5) ?_))
 first | refine wpAny_pure ?_ | refine wpAny_bind (wpAny_pure (wpAny_pure ?_))
 show wpAny _ _ (forIn ([]:List Value) _ _) _ _ _;rw [aAU];refine wpAny_pure ?_;show wpAny _ _ (retInt (Builtin.Tuple.tupleHashOf [kd.hash k0,tupleKeyHash kd [k]])) _ _ _;refine wpAny_ret_mkInt ?_;show wpAny _ _ (if (decide (-(2:Int) ^ 63<=Builtin.Tuple.tupleHashOf [kd.hash k0,tupleKeyHash kd [k]]) && decide (Builtin.Tuple.tupleHashOf [kd.hash k0,tupleKeyHash kd [k]] < 2 ^ 63))=true then _ else _) Q E _;unfold lK reduceHash at z
 split
 ·rename_i q
  rw [if_pos q] at z;exact wpAny_pure z
 ·rename_i q
  rw [if_neg q] at z;exact wpAny_bind (wpAny_rule (wpAny_pure z))
theorem uw {x y:K} {a b:Addr} {P:Fin->Shared->Prop} (hu:A.units+1 < cLine) (p:IsBoxKey kd k0 s.heap x a) (q:IsBoxKey kd k0 s.heap y b) (z:P (.done (.ret (.bool (decide (x=y))))) s) :
  wpAny (model prog w) A (Builtin.«tuple.__eq__» ⟨[.ref a,.ref b],[]⟩) P E s:=by
 have ty:=q.tuple;obtain ⟨oa,ua,ba,na,a1,_,a3,a4,a5⟩:=p;obtain ⟨ob,ub,bb,nb,b1,_,b3,b4,b5⟩:=q;show wpAny _ _ (isInstance (.ref b) (.type "tuple") >>= _) _ _ s;refine wpAny_bind (wpAny_isInstance ty isSubtype_tuple_tuple ?_);simp only [aA6,aAF,if_false];refine wpAny_bind (wpAny_tupleItemsOf a1 a3 ?_);refine wpAny_bind (wpAny_tupleItemsOf b1 b3 ?_);refine wpAny_bind ?_;show wpAny _ _ (forIn [(ua,ub),(Value.ref ba,Value.ref bb)] _ _) _ _ _;rw [aAz];refine wpAny_bind (wpAny_bind (kd.eqBool (a:=k0) (b:=k0) a4 b4 ?_));rw [decide_eq_true rfl];simp only [aA6,aAF,if_false];refine wpAny_pure ?_;show wpAny _ _ (forIn [(Value.ref ba,Value.ref bb)] _ _) _ _ _;rw [aAz];refine wpAny_bind (wpAny_bind (wpAny_eqBool_tuple (knd:=kd) (x:=[x]) (y:=[y]) (by lia) a5 b5 ?_))
 by_cases e:x=y
 ·subst e;rw [decide_eq_true rfl];rw [decide_eq_true rfl] at z;simp only [aA6,aAF,if_false];refine wpAny_pure ?_;show wpAny _ _ (forIn ([]:List (Value×Value)) _ _) _ _ _;rw [aAU];exact wpAny_pure (wpAny_pure z)
 ·have e':¬ [x]=[y]:=λc=>e (List.cons.inj c).1;rw [decide_eq_false e'];rw [decide_eq_false e] at z;simp only [Bool.not_false,if_true];exact wpAny_bind (wpAny_pure (wpAny_pure (wpAny_pure (wpAny_pure z))))
theorem Bh {x y:K} {a b:Addr} {Q:Bool->Shared->Prop} (hu:A.units+2 < cLine) (p:IsBoxKey kd k0 s.heap x a) (q:IsBoxKey kd k0 s.heap y b) (z:Q (decide (x=y)) s) :
  wpAny (model prog w) A (eqBool (.ref a) (.ref b)) Q E s:=by
 unfold eqBool
 try with_reducible refine wpAny_holding ?_
 show wpAny _ _ (if (Value.ref a == Value.ref b)=true then _ else _) Q E s
 by_cases ab:(Value.ref a == Value.ref b)=true
 ·rw [if_pos ab];have e:a=b:=by have:=eq_of_beq ab;injection this
  subst e;obtain rfl:=p.one q;exact wpAny_bind (wpAny_rule (wpAny_pure (by simpa using z)))
 ·rw [if_neg ab];exact wpAny_bind (wpAny_richCompare_same_room (op:=.Eq) p.tuple q.tuple F.slot_tuple_eq
   (wpAny_call_entry F.slot_tuple_eq p.tuple F.entry_tuple_eq (uw (by exact hu) p q ⟨_,rfl,(λe=>nomatch e),wpAny_truthy_bool z⟩) (F.args_tuple_eq_2 _ _)) (by lia))
theorem nr (m:Nat) {ks:List K} {a:Addr} {Q:Bool->Shared->Prop} (x:IsTupleKey kd s.heap ks a) (z:Q true s):wpAny (model prog w) A (eqIsQuiet (m+1) (.ref a)) Q E s:=by
 have ty:=x.typeIs;obtain ⟨o,its,n,p1,_,p3,p4⟩:=x;unfold eqIsQuiet;refine wpAny_bind (wpAny_specialOf ty F.slot_tuple_eq.lookup ?_);show wpAny _ _ (isInstance (.ref a) (.type "tuple") >>= _) _ _ s;refine wpAny_bind (wpAny_isInstance ty isSubtype_tuple_tuple ?_);simp only [aA6,aAF,if_false];refine wpAny_bind (wpAny_seqItems p1 p3 ?_);refine wpAny_bind ?_;show wpAny _ _ (forIn its _ _) _ _ s;rw [<- aAX];refine wpAny_forIn_list _ (λrest r s'=>r.1=none/\s'=s/\∀ v∈rest,carriedByValue v=true) _ ?_ ?_ _ _ ⟨rfl,rfl,p4.byValue⟩
 ·rintro v rest r s' ⟨hr,rfl,al⟩;rw [eqIsQuiet_byValue _ (al v aAr)];refine wpAny_bind (wpAny_pure ?_);simp only [aA6,aAF,if_false];exact wpAny_pure ⟨rfl,rfl,λu hu'=>al u (aAp _ hu')⟩
 ·rintro ⟨r1,r2⟩ s' ⟨hr,rfl,_⟩;simp only at hr;subst hr;exact wpAny_pure z
theorem sh {k:K} {a:Addr} {Q:Bool->Shared->Prop} (x:IsBoxKey kd k0 s.heap k a) (z:Q true s):wpAny (model prog w) A (eqIsQuiet 8 (.ref a)) Q E s:=by
 have ty:=x.tuple;obtain ⟨o,u,b,n,p1,_,p3,p4,p5⟩:=x;unfold eqIsQuiet;refine wpAny_bind (wpAny_specialOf ty F.slot_tuple_eq.lookup ?_);show wpAny _ _ (isInstance (.ref a) (.type "tuple") >>= _) _ _ s;refine wpAny_bind (wpAny_isInstance ty isSubtype_tuple_tuple ?_);simp only [aA6,aAF,if_false];refine wpAny_bind (wpAny_seqItems p1 p3 ?_);refine wpAny_bind ?_;show wpAny _ _ (forIn #[u,Value.ref b] _ _) _ _ s;rw [<- aAX];show wpAny _ _ (forIn [u,Value.ref b] _ _) _ _ s;rw [aAz,eqIsQuiet_byValue _ (kd.byValue _ _ p4)];refine wpAny_bind (wpAny_bind (wpAny_pure ?_));simp only [aA6,aAF,if_false];refine wpAny_pure ?_;show wpAny _ _ (forIn [Value.ref b] _ _) _ _ s;rw [aAz];refine wpAny_bind (wpAny_bind (nr _ p5 ?_));simp only [aA6,aAF,if_false];refine wpAny_pure ?_;show wpAny _ _ (forIn ([]:List Value) _ _) _ _ s;rw [aAU];exact wpAny_pure (wpAny_pure z)
end
def wc {prog:Program} {w:World} {K:Type} [DecidableEq K] (kd:KeyKind prog w K) (k0:K):HeapKind prog w K where
 is:=IsBoxKey kd k0
 hash:=lK kd k0
 draws:=λ_=>4
 room:=λA=>A.units+2 < cLine
 inj:=λp q=>p.one q
 keeps:=λx q qd sb=>x.stay q qd sb
 pyHash:=λhu x z=>uv (aBf (aA2 _) hu) x z
 eqBool:=λhu p q z=>Bh hu p q z
 quiet:=λx z=>sh x z
section
variable {prog:Program} {w:World} {K:Type} [DecidableEq K] {knd:HeapKind prog w K} {A:Around} {E:Value->Shared->Prop} {s:Shared}
end
end PySem
namespace L2
open PySem PySem.Spec PyProof.Rows
theorem kL {α β:Type} {F:α->β->Prop}:∀ {l:List α} {m:List β},Paired F l m->∀ {i:Nat} {p:α} {q:β},l[i]?=some p->m[i]?=some q->F p q
 | _,_,.nil,i,p,q,h,_=>by simp at h
 | _,_,.cons r t,0,p,q,h,g=>by
  obtain rfl:_=p:=by simpa using h
  obtain rfl:_=q:=by simpa using g
  exact r
 | _,_,.cons r t,i+1,p,q,h,g=>kL t (by simpa using h) (by simpa using g)
theorem ux {H:Hp} {a p:Addr} {o:Obj} {u:HO} (mu:Mut (H p)) (e:H a=some (.frz o u)):a≠p:=by
 intro c;subst c;rw [e] at mu;exact mu
mutual
theorem wf {K:W.Frag} {H H':Hp} {p:Addr} (mu:Mut (H p)) (g:But p H H'):∀ {d:Dt} {v:V},IsP K H d v->IsP K H' d v
 | _,_,.non=>.non
 | _,_,.bl=>.bl
 | _,_,.int=>.int
 | _,_,.str=>.str
 | _,_,.tup h pl q=>.tup (g.tup (by obtain ⟨o,u,e,dn⟩:=pl;exact ux mu e) h) (by
   obtain ⟨o,u,e,dn⟩:=pl;exact ⟨o,u,g _ _ (ux mu e) e,dn⟩) (nu mu g q)
theorem nu {K:W.Frag} {H H':Hp} {p:Addr} (mu:Mut (H p)) (g:But p H H'):∀ {l:List Dt} {xs:List V},IsPs K H l xs->IsPs K H' l xs
 | _,_,.nil=>.nil
 | _,_,.cons h q=>.cons (wf mu g h) (nu mu g q)
end
def Bi (k:Key):Dt:=.tup [.str "list",.tup [kDt k]]
abbrev qy (P:Program) (w:World):HeapKind P w Key:=wc (ar P w) (Sum.inr ("list" : Str))
def lL (P:Program) (w:World) (p:Addr) (ob:Obj) (xs:List (Key×Addr×Value)) (h:Heap):Prop :=
 h.get? p=some ob/\ob.ExactDict/\∃ es ep,ob.data=.dict es ep/\es.toList=xs.map (entryOfKey (qy P w))/\(xs.map (·.1)).Nodup
def DicO (P:Program) (w:World) (K:W.Frag) (H:Hp) (a:Addr) (ob:Obj) (kvs:List (Key×V)):Prop:=(a == sysModules)=false/\kvs.length<=sizeLine/\∃ xs,H a=some (.ext (lL P w a ob xs)) /\
 Paired (λ(p:Key×V) (q:Key×Addr×Value)=>p.1=q.1/\IsP K H (Bi p.1) (.ref q.2.1)/\RelV p.2 q.2.2) kvs xs
def DicE (P:Program) (w:World) (m:Bool) (K:W.Frag) (H:Hp) (a:Addr) (kvs:List (Key×V)):Prop:=match m with
 | false=>H a=some (.dK kvs)
 | true=>(∃ ob,DicO P w K H a ob kvs)\/(kvs=[]/\H a=some (.dK []))
section
variable {P:Program} {w:World} {K:W.Frag} {m:Bool} {H H':Hp} {a:Addr} {ob:Obj} {kvs:List (Key×V)}
theorem DicE.ne {r:Addr} {ys:List V} (h:DicE P w m K H a kvs) (hr:H r=some (.lst ys)):r≠a:=by
 intro c;subst c
 cases m with
 | false=>rw [show H r=some (.dK kvs) from h] at hr;cases hr
 | true =>
  rcases h with ⟨ob,_,_,_,e,_⟩ | ⟨_,e⟩
  ·rw [e] at hr;cases hr
  ·rw [e] at hr;cases hr
end
section
variable {X:Cx} {pins:List (Addr×Obj)} {σ:St} {H:Hp} {s:Shared}
theorem Bj (I:Inv X pins σ H s) {k:Key} {a:Addr} (h:IsP X.K H (Bi k) (.ref a)):IsBoxKey (ar X.prog X.w) (Sum.inr ("list" : Str)) s.heap k a:=by
 obtain ⟨b,ys,e,ha,_,ra⟩:=IsP.unref h
 cases e
 obtain ⟨its,r,⟨o,h1,h2,n,h3⟩,_⟩:=I.tuple ha
 cases ra with
 | cons d1 ra =>
  cases ra with
  | cons d2 ra =>
   cases ra
   cases d1
   obtain ⟨c,zs,rfl,hc,pc,rc⟩:=IsP.unref d2
   cases r with
   | cons q1 r =>
    cases r with
    | cons q2 r =>
     cases r
     cases q2
     exact ⟨o,_,c,n,h1,h2,h3,kE (k:=Sum.inr ("list" : Str)) q1,qx I (ks:=[k]) (show IsP X.K H (.tup ([k].map kDt)) (.ref c) from d2)⟩
theorem DicO.dict {a:Addr} {ob:Obj} {kvs:List (Key×V)} (I:Inv X pins σ H s) (h:DicO X.prog X.w X.K H a ob kvs):(a == sysModules)=false/\kvs.length<=sizeLine/\∃ xs,s.heap.DictOfH (qy X.prog X.w) a xs/\lL X.prog X.w a ob xs s.heap/\H a=some (.ext (lL X.prog X.w a ob xs)) /\
  Paired (λ(p:Key×V) (q:Key×Addr×Value)=>p.1=q.1/\IsP X.K H (Bi p.1) (.ref q.2.1)/\RelV p.2 q.2.2) kvs xs:=by
 obtain ⟨e0,e1,xs,e,r⟩:=h;obtain ⟨oo,_⟩:=(show ObjOk X.prog X.w H s.heap a (.ext (lL X.prog X.w a ob xs)) from I.hok a _ e);obtain ⟨h1,h2,es,ep,h3,h4,h5⟩:=id oo;refine ⟨e0,e1,xs,⟨ob,es,ep,h1,h2,h3,h4,λy hy=>?_,h5⟩,oo,e,r⟩;obtain ⟨i,hi⟩:=List.getElem?_of_mem hy;have hl:i < kvs.length:=by rw [Paired.length r];exact (aAc.mp hi).1
 have q:=kL r (aAi hl) hi;rw [<- q.1];exact Bj I q.2.1
end
section
variable {X:Cx} {P:Program} {w:World} {K:W.Frag} {o e f:Expr} {apos cpos pos:Pos} {td ty tx:TE}
end
section
variable {X:Cx} {tg:Expr} {P:Program} {w:World} {K:W.Frag}
end
section
variable {prog:Program} {w:World} {A:Around} {E:Value->Shared->Prop} {s:Shared}
end
section
variable {X:Cx} {K:W.Frag}
end
end L2
namespace PySem
open PyProof.Rows PySem.Spec
section
variable {prog:Program} {w:World} {h₀:Heap} {k:Str} {tk:Tok} {a:Addr} {α:Type} {R:α->Value->Prop} {D:List (Str×α)}
theorem nv:MeetsIn prog w (Builtin.«dict.get» ⟨[.ref a,.str k tk],[]⟩) (λ_ Rr s=>KTD.TabOf R h₀ a D/\(∀ b o,h₀.get? b=some o->s.heap.get? b=some o)/\(∀ d v,KTD.datumAt k D=some d->R d v->Rr (.ok (.ret v)) { s with toks:=s.toks+1 }) /\
  (KTD.datumAt k D=none->Rr (.ok (.ret .none)) { s with toks:=s.toks+1 })) :=
 .of_wp λA Rr s ⟨T,kp,h1,h2⟩=>by
  show wpAny _ _ (dictGet a (.str k tk) >>= _) _ _ s;refine wpAny_bind (ig T kp (λd v ha hv=>wpAny_pure ⟨v,rfl,h1 d v ha hv⟩) λhn=>wpAny_bind (m:=Builtin.Dict.missed a (.str k tk)) (wpAny_missed_other T.1 (wpAny_pure ⟨.none,rfl,h2 hn⟩)))
end
end PySem
namespace L2
open PySem PySem.Spec PyProof.Rows
section
variable {X:Cx}
end
def px (K:W.Frag) (a:Addr) (D:List (Str×Str)):Prop:=∀ h,K.In h->KTD.TabOf (λz v=>∃ t,v=Value.str z t) h a D
theorem BO {K:W.Frag} {a:Addr} {D:List (Str×Str)} (e:KTD.tabLook (λz v=>v.isStr z) (λb=>K.lookup b) a D=true):px K a D :=
 λ_ X=>KTD.tab_of_look (L:=λz v=>v.isStr z) (R:=λz v=>∃ t,v=Value.str z t) (λz v h=>by
  cases v with
  | str y t=>exact ⟨t,by have:(y == z)=true:=h;rw [eq_of_beq this]⟩
  | _=>cases h) (λb o q=>X b o q) e
def bE (k:Str):List (Str×Str)->Option Str
 | []=>none
 | (x,b) :: D=>if k=x then some b else bE k D
theorem gN {k:Str}:∀ D:List (Str×Str),KTD.datumAt k D=bE k D
 | []=>rfl
 | (x,b) :: D=>by
  show (if decide (k=x)=true then some b else KTD.datumAt k D)=_
  by_cases h:k=x
  ·simp [bE,h]
  ·simp [bE,h,gN D]
section
variable {X:Cx} {K:W.Frag}
end
end L2
namespace PySem
namespace StrLaws
open Builtin Builtin.Str
theorem ny (s sub:Str) (hi:Nat):∀ (l:List Nat) (a:Array Nat) (fr:Nat),1<=a.size->(forIn l (a,fr) (occBody s sub hi 1)).run.fst=a
 | [],a,fr,h=>rfl
 | j :: l,a,fr,h=>by
  rw [aAz];unfold occBody;rw [if_neg (λz=>by have:a.size < 1:=z.1.1.1;lia)];exact ny s sub hi l a fr h
theorem nA (s sub:Str) (hi:Nat):∀ (l:List Nat) (fr:Nat),(∀ i∈l,fr<=i) ->
  (forIn l ((#[]:Array Nat),fr) (occBody s sub hi 1)).run.fst=match l.find? (λi=>decide (i+sub.length<=hi/\subAt s sub i=true)) with | some i=>#[i] | none=>#[]
 | [],fr,_=>rfl
 | a :: l,fr,hf=>by
  rw [aAz];unfold occBody;have ha:fr<=a:=hf a (aAr ..)
  by_cases hc:a+sub.length<=hi/\subAt s sub a=true
  ·rw [if_pos ⟨⟨⟨by show 0 < 1;decide,ha⟩,hc.1⟩,hc.2⟩,aAZ,decide_eq_true hc];exact ny s sub hi l _ _ (by simp)
  ·rw [if_neg (λh=>hc ⟨h.1.2,h.2⟩),aAZ,decide_eq_false hc];exact nA s sub hi l fr λi hi'=>hf i (aAp _ hi')
theorem occ_one (x:Str) (c lo:Nat):occurrences x ⟨#[c]⟩ lo x.length 1=match (x.cps.toList.drop lo).findIdx? (· == c) with | some i=>[lo+i] | none=>[]:=by
 rw [occ_eq,nA x ⟨#[c]⟩ x.length _ lo (λi hi=>by rw [List.mem_range'_1] at hi;exact hi.1)];have key:∀ (n lo:Nat),lo+n=x.length+1->(List.range' lo n).find? (λi=>decide (i+(⟨#[c]⟩:Str).length<=x.length/\subAt x ⟨#[c]⟩ i=true))=((x.cps.toList.drop lo).findIdx? (· == c)).map (lo + ·):=by
  intro n
  induction n with
  | zero =>
   intro lo h;rw [aAJ (by rw [aA1];have:x.length=x.cps.size:=rfl;lia)]
   rfl
  | succ n ih =>
   intro lo h;rw [List.range'_succ];have dk:decide (lo+(⟨#[c]⟩:Str).length<=x.length/\subAt x ⟨#[c]⟩ lo=true)=decide (x.cps.toList[lo]?=some c):=by
    rw [decide_eq_decide];exact subAt_one x c lo
   by_cases hlt:lo < x.cps.toList.length
   ·rw [aAY hlt]
    by_cases e:x.cps.toList[lo]=c
    ·rw [List.find?_cons_of_pos (by rw [dk,aAi hlt,e];simp),List.findIdx?_cons];simp [e]
    ·rw [aBK (by rw [dk,aAi hlt];simpa using e),ih (lo+1) (by lia),List.findIdx?_cons];have:(x.cps.toList[lo] == c)=false:=by simpa using e
     rw [this]
     cases (x.cps.toList.drop (lo+1)).findIdx? (· == c) with
     | none=>rfl
     | some i=>simp;lia
   ·rw [aBK (by rw [dk,List.getElem?_eq_none (by lia)];simp),ih (lo+1) (by lia),aAJ (by lia),aAJ (by lia)]
    rfl
 by_cases hlo:lo<=x.length+1
 ·rw [key (x.length+1 - lo) lo (by lia)]
  cases (x.cps.toList.drop lo).findIdx? (· == c) <;> rfl
 ·rw [show x.length+1 - lo=0 by lia,aAJ (by rw [aA1];have:x.length=x.cps.size:=rfl;lia)]
  rfl
end StrLaws
end PySem
namespace L2
open PySem PySem.Spec PyProof.Rows
section
variable {X:Cx}
end
section
variable {X:Cx}
end
section
variable {X:Cx}
theorem PS.nox {st:Stmt} {t:TS} (h:PS X.nox st t):PS X st t:=λp0 s0 v0 h0 d0 i0 w0=>wpAny_mono (h p0 s0 v0 h0 d0 (i0.wish _) w0) (λ_ _ q=>q.unwish) λ_ _ q=>q.elim
end
section
variable {X:Cx}
abbrev TBx:=St->Hp->(Hp->Prop)->XK->Prop
def bW (x y:Str):Str×Str:=match Builtin.Str.occurrences x y 0 x.length 1 with
 | i :: _=>(Builtin.Str.strSub x 0 i,Builtin.Str.strSub x (i+y.length) x.length)
 | []=>(x,Str.empty)
theorem wg {K:W.Frag} (hK:X.K=K):MtM X "str.partition" (λx vs H Q=>∃ y z,x=.str y/\vs=[.str z]/\z.length=1/\y.length<=sizeLine/\∀ m v H',Same H H'->IsP K H' (.tup [.str (bW y z).1,.str m,.str (bW y z).2]) v->Q v H'):=by
 subst hK;intro pins s σ H x vs v us Q I rx rv h;obtain ⟨y,z,rfl,rfl,hz,hy,q⟩:=h;obtain ⟨t,rfl⟩:=rx;obtain ⟨u,rfl,t1,rfl⟩:=rv.one;refine call_meets PySem.F.slot_str_partition (typeIs_str _ _ _) PySem.F.entry_str_partition (PySem.F.args_str_partition_2 _ _) (PySem.meets_str_partition y z t t1 (by rw [hz];rfl) hy) ?_;have key:∀ (a m b:Str) (ta tm tb:Tok) (tk:Nat),((a,b):Str×Str)=bW y z->(wants (EP X pins σ Q) X.xe) (.ok (.ret (.ref s.heap.objs.size))) { s with toks:=tk,heap:=s.heap.push { cls:=.type "tuple",data:=.seq [.str a ta,.str m tm,.str b tb].toArray } }:=λa m b ta tm tb tk e=>by
  obtain ⟨I2,hf⟩:=I.plain (t':=tk) (xs:=[V.str a,.str m,.str b]) (us:=[.str a ta,.str m tm,.str b tb]) (.cons ⟨_,rfl⟩ (.cons ⟨_,rfl⟩ (.cons ⟨_,rfl⟩ .nil))) (by show 3<=sizeLine;decide);obtain ⟨g,dp⟩:=c9 (X:=X) (us:=[.str a ta,.str m tm,.str b tb]) hf (.cons .str (.cons .str (.cons .str .nil)));refine ⟨.ref s.heap.objs.size,_,I2,rfl,q m _ _ g ?_⟩;rw [<- e];exact dp
 unfold bW at key
 revert key
 cases Builtin.Str.occurrences y z 0 y.length 1 with
 | nil=>exact λkey=>key y Str.empty Str.empty _ _ _ _ rfl
 | cons i l=>exact λkey=>key _ z _ _ _ _ _ rfl
end
section
variable {X:Cx}
def Bk (D:List (Str×Str)) (t:TA):TE:=λσ H Q=>t σ H λvs H1=>∃ k,vs=[.str k]/\Q (match bE k D with | some b=>.str b | none=>.non) H1
theorem pe_kgetS {x:Str} {ad:Addr} {D:List (Str×Str)} {e:Expr} {t:TA} {p apos cpos:Pos} (hD:px X.K ad D) (hg:Gl X x) (hm:X.mg x=some (.ref ad)) (ha:PA X [e] t) (hdb:(x == ("__debug__" : Str))=false:=by decide)
  (hbase:attributeBase (.Name x p) "get" X.env (eval (.Name x p) X.env)=eval (.Name x p) X.env:=by rfl)
  (hfew:((backTo cpos (starEach [e] X.env)).all (λx=>!x.1) && (backToKw cpos (keywordEach [] X.env)).all (λx=>x.1.isSome)
   && decide (([e]:List Expr).length+([]:List Keyword).length+(if ([]:List Keyword).isEmpty then 0 else 1) < 30))=true:=by rfl)
  (hline:(apos.endLine == cpos.line)=true:=by rfl) (hs:starEach [e] X.env=(false,eval e X.env) :: starEach [] X.env:=by rfl) :
  PE X (.Call (.Attribute (.Name x p) "get" apos) [e] [] cpos) (Bk D t):=by
 intro pins s σ H Q I h;have T:∀ {s':Shared} {σ':St} {H':Hp} {pins':List (Addr×Obj)},Inv X pins' σ' H' s'->KTD.TabOf (λz v=>∃ t,v=Value.str z t) X.base ad D:=λJ=>hD _ J.ok.mod.kin;have ty0:∀ {s':Shared} {σ':St} {H':Hp} {pins':List (Addr×Obj)},Inv X pins' σ' H' s'->s'.TypeIs (.ref ad) "dict" /\(∀ b,Value.ref ad=.ref b->∃ ob,s'.heap.get? b=some ob/\ob.dict=none):=λ{s' σ' H' pins'} J=>by
  obtain ⟨_,o,_,_,ho,hc,_⟩:=T J;refine ⟨⟨o,J.bk _ _ ho,hc.1⟩,λb q=>?_⟩;injection q with q
  subst q;exact ⟨o,J.bk _ _ ho,hc.2.1⟩
 refine wpAny_Call_method_late hbase hfew hline rfl (aY I hg hm ?_ hdb);refine ⟨"dict","dict.get",PySem.F.plainAttrs_dict,PySem.F.slot_dict_get,PySem.F.type_dict_get,(ty0 I).1,(ty0 I).2,?_⟩;have hA:=ha cpos pins s σ H _ I h;rw [hs] at hA ⊢;refine Calls.callWith_builtin (0) (Calls.evalArgs_plain ?_);refine thn hA λus s2 ⟨vs,H2,I2,r2,k,e2,q2⟩=>?_;subst e2;obtain ⟨u,rfl,ru⟩:=cq r2;obtain ⟨tk,rfl⟩:=ru;refine call_meetsIn PySem.F.slot_dict_get (ty0 I2).1 PySem.F.entry_dict_get (PySem.F.args_dict_get_2 _ _) (nv (h₀:=X.base) (D:=D) (R:=λz v=>∃ t,v=Value.str z t)) ⟨T I2,λb o z=>I2.bk b o z,λb v hb hv=>?_,λhn=>?_⟩
 ·obtain ⟨t0,rfl⟩:=hv;rw [<- gN,hb] at q2;exact ⟨.str b,H2,I2.tok _,⟨_,rfl⟩,q2⟩
 ·rw [<- gN,hn] at q2;exact ⟨.non,H2,I2.tok _,rfl,q2⟩
end
theorem uy {P:Program} {w:World} {X:Cx}:fB (lJ P w) X (λ_ _ _=>False):=by
 intro pins σ H s e s' I h;obtain ⟨_,_,_,_,_,_,_,_,_,_,_,_,_,_,_,_,q⟩:=h;exact q.elim
section
variable {X:Cx} {K:W.Frag}
theorem uz (hK:X.K=K):OpR X (binaryOp .Mult) (λx y H Q=>∃ d e,IsP K H (.tup [d,e]) x/\y=.int 4/\∀ v H',Same H H'->IsP K H' (.tup [d,e,d,e,d,e,d,e]) v->Q v H'):=by
 subst hK;intro pins s σ H x y v u Q I rx ry h;obtain ⟨d,e,dx,rfl,q⟩:=h;obtain ⟨a,xs,rfl,ha,_,ra⟩:=dx.unref
 cases rx
 obtain ⟨t,rfl⟩:=ry;obtain ⟨its,r,p,_⟩:=I.tuple ha
 cases ra with
 | cons d1 ra =>
  cases ra with
  | cons d2 ra =>
   cases ra
   cases r with
   | @cons _ u _ _ r1 r =>
    cases r with
    | @cons _ u2 _ _ r2 r =>
     cases r
     refine vQ (show s.heap.IsTuple a #[u,u2] from p) rfl (1) (1) (by simp) ?_;rw [show (List.replicate (4:Int).toNat #[u,u2]).foldl (·++·) #[]=[u,u2,u,u2,u,u2,u,u2].toArray by rfl];obtain ⟨I2,hf⟩:=I.plain (t':=s.toks) (.cons r1 (.cons r2 (.cons r1 (.cons r2 (.cons r1 (.cons r2 (.cons r1 (.cons r2 .nil)))))))) (by show 8<=sizeLine;decide);obtain ⟨g,dp⟩:=c9 (X:=X) (us:=[u,u2,u,u2,u,u2,u,u2]) hf (.cons d1 (.cons d2 (.cons d1 (.cons d2 (.cons d1 (.cons d2 (.cons d1 (.cons d2 .nil))))))));exact ⟨.ref s.heap.objs.size,_,I2,rfl,q _ _ g dp⟩
end
end L2
namespace PySem
open Sem (wp)
def Heap.Chn (h:Heap) (ea:Addr):Prop:=∃ oa wa,h.get? ea=some oa/\oa.data=.fields wa/\(wa[2]?=some .none\/∃ b ob wb,wa[2]?=some (.ref b)/\h.get? b=some ob/\ob.data=.fields wb/\wb[2]?=some .none)
section
variable {prog:Program} {w:World} {A:Around} {E:Value->Shared->Prop} {s:Shared}
theorem lM {old:Heap} {ea e:Addr} {R:Result->Shared->Prop} (hc:old.Chn ea) (kp:∀ b o,old.get? b=some o->s.heap.get? b=some o) (hn:old.get? e=none) (q:R (.ok (.ret .none)) s):codeAny (model prog w) A (.builtin "proto.unchain" ⟨[.ref e,.ref ea,.ref ea,.bool false],[]⟩) R s:=by
 obtain ⟨oa,wa,ha,hda,h2⟩:=hc;refine codeAny_builtin cU ?_;unfold Builtin.«proto.unchain»;rcases h2 with h2 | ⟨b,ob,wb,h2,hb,hdb,hb2⟩
 ·refine wpAny_bind (wpAny_field (kp _ _ ha) hda h2 ?_)
  repeat (first | exact q | wp_step)
 ·refine wpAny_bind (wpAny_field (kp _ _ ha) hda h2 ?_);have nb:b≠ea:=λc=>by
   subst c;rw [ha] at hb
   cases hb
   rw [hda] at hdb
   cases hdb
   rw [h2] at hb2
   cases hb2
  have ne:b≠e:=λc=>by rw [c,hn] at hb;cases hb
  rw [if_neg (show ¬ ((Value.ref b == Value.none)=true) from by simp),if_neg (show ¬ ((Value.ref b == Value.ref e)=true) from by simp [ne]),if_neg (show ¬ ((Value.ref b == Value.ref ea)=true) from by simp [nb])];show wpAny _ _ (pure (Value.ref ea) >>= λslow=>again (.builtin "proto.unchain" ⟨[.ref e,.ref b,slow,.bool !false],[]⟩)) _ _ s;refine wpAny_bind (wpAny_pure (wpAny_pure ⟨by kernel_rfl,?_⟩));refine codeAny_builtin cU ?_;unfold Builtin.«proto.unchain»;refine wpAny_bind (wpAny_field (kp _ _ hb) hdb hb2 ?_)
  repeat (first | exact q | wp_step)
theorem pz {it ea:Addr} {x left step:Int} {Q:Option Value->Shared->Prop} (hh:A.handled=some (.ref ea)) (hc:Heap.Chn s.heap ea) (hit:IsRangeIter s.heap it x left step) (hleft:left<=0)
  (hQ:∀ h',Heap.ExtBut it s.heap h'->Q none { s with heap:=h' }):wpAny (model prog w) A (pyNext (.ref it)) Q E s:=by
 have hT:s.TypeIs (.ref it) "range_iterator" :=⟨_,hit,rfl⟩;unfold pyNext;refine wpAny_bind (wpAny_attempt (wpAny_callSpecial?_slot (name:=Str.ofString "__next__") hT F.slot_range_iterator_next
  (wpAny_call_entry F.slot_range_iterator_next hT F.entry_range_iterator_next ?_ (F.args_range_iterator_next_1 _))))
 show wpAny _ _ (field (.ref it) 0 >>= _) _ _ s;refine wpAny_bind (wpAny_field hit rfl (x:=rawInt x) rfl ?_);show wpAny _ _ (field (.ref it) 1 >>= _) _ _ s;refine wpAny_bind (wpAny_field hit rfl (x:=rawInt left) rfl ?_);show wpAny _ _ (field (.ref it) 2 >>= _) _ _ s;refine wpAny_bind (wpAny_field hit rfl (x:=rawInt step) rfl ?_);show wpAny _ _ (if left<=0 then _ else _) _ _ s;rw [if_pos hleft];refine wpAny_bind (wpAny_rule ?_);refine wpAny_bind ?_;show wpAny _ _ (newExc (.type "StopIteration") [] >>= _) _ _ _;refine wpAny_bind ?_;simp only [newExc,newTuple];refine wpAny_bind (wpAny_newObj_type ?_ (by size_fits));refine wpAny_bind (m:=firstArgMember _ _) (wpAny_of_eq (a:=Value.none) (by first | rfl | (simp only [firstArgMember];rfl)) ?_);refine wpAny_newObj_type ?_ (by size_fits);simp only [raiseNew];refine wpAny_bind (wpAny_handled ?_)
 first | rw [show A.in1.handled=some (.ref ea) from hh] | rw [hh]
 have hc':=hc;obtain ⟨oa,wa,ha,hda,h2⟩:=hc';have lt:=aAb ha;have sz:(s.heap.push { cls:=.type "tuple",data:=.seq #[] }).objs.size=s.heap.objs.size+1:=aAL ..
 generalize hP:s.heap.push { cls:=.type "tuple",data:=.seq #[] }=h1 at sz ⊢
 have kp1:∀ b o,s.heap.get? b=some o->h1.get? b=some o:=λb o e=>hP ▸ aAa _ e;have old:∀ b o,s.heap.get? b=some o->b≠h1.objs.size:=λb o e=>aAk (aAd (aAb e) (by rw [sz];exact aBo _));have bne:(Value.ref ea != Value.ref h1.objs.size)=true:=bne_iff_ne.mpr λc=>old ea oa ha (Value.ref.inj c);dsimp only;rw [if_pos bne];have he:(h1.push { cls:=.type "StopIteration",data:=.fields (#[.ref s.heap.objs.size,.none,.none,.none,.bool false,.none]++ownMembersOf (.type "StopIteration") []) }).get? h1.objs.size=some { cls:=.type "StopIteration",data:=.fields (#[.ref s.heap.objs.size,.none,.none,.none,.bool false,.none]++ownMembersOf (.type "StopIteration") []) }:=aAg _ rfl;refine wpAny_bind (wpAny_holding (wpAny_runValue (lM (old:=s.heap) hc (λb o e=>aAa _ (kp1 b o e)) ?_ ?_)))
 ·cases z:s.heap.get? h1.objs.size with
  | none=>rfl
  | some o=>exact absurd rfl (old _ o z)
 refine wpAny_bind ?_;show wpAny _ _ (setField (.ref h1.objs.size) 2 (Value.ref ea)) _ _ _;refine wpAny_setField he rfl (by rw [Array.size_append];exact aAd (show 2 < 6 by decide) (Nat.le_add_right 6 _)) (wpAny_throw ?_);refine wpAny_bind (wpAny_isInstance (T:= "StopIteration") (b:=true) ⟨_,aAN _ he rfl,rfl⟩ isSubtype_stop ?_);refine wpAny_pure (hQ _ ?_);exact λb o _ e=>(aAD _ _ (Ne.symm (old b o e))).trans (aAa _ (kp1 b o e))
end
end PySem
namespace L2
open PySem PySem.Spec PyProof.Rows
def yO (b:Addr):HO:=.ext λh=>∃ o ws,h.get? b=some o/\o.data=.fields ws/\ws[2]?=some .none
def xC (a C:Addr) (c:Value):HO:=.ext λh=>∃ o ws,h.get? a=some o/\o.cls=.ref C/\o.data=.fields ws/\ws[2]?=some c
theorem Jg {P:Program} {w:World} {H:Hp} {h:Heap} {a:Addr} (e:∃ o ws,h.get? a=some o/\o.data=.fields ws/\ws[2]?=some .none):ObjOk P w H h a (yO a) :=
 ⟨e,e.imp λ_ ⟨_,q⟩=>q.1,λ_ _ ⟨o,ws,q,c⟩ k=>⟨o,ws,k o q,c⟩⟩
theorem Jh {P:Program} {w:World} {H:Hp} {h:Heap} {a C:Addr} {c:Value} (e:∃ o ws,h.get? a=some o/\o.cls=.ref C/\o.data=.fields ws/\ws[2]?=some c):ObjOk P w H h a (xC a C c) :=
 ⟨e,e.imp λ_ ⟨_,q⟩=>q.1,λ_ _ ⟨o,ws,q,c⟩ k=>⟨o,ws,k o q,c⟩⟩
def HChn (H:Hp) (ea C:Addr):Prop:=H ea=some (xC ea C .none)\/∃ b,H ea=some (xC ea C (.ref b))/\H b=some (yO b)
theorem HChn.same {H H':Hp} {ea C:Addr} (h:HChn H ea C) (g:Same H H'):HChn H' ea C:=by
 rcases h with h | ⟨b,h,hb⟩
 ·exact .inl (g _ _ h)
 ·exact .inr ⟨b,g _ _ h,g _ _ hb⟩
section
variable {X:Cx} {pins:List (Addr×Obj)} {σ:St} {H:Hp} {s:Shared} {ea C:Addr} {K:W.Frag}
theorem Inv.chn (I:Inv X pins σ H s) (h:HChn H ea C):s.heap.Chn ea:=by
 rcases h with h | ⟨b,h,hb⟩
 ·obtain ⟨o,ws,e,_,d,q⟩:=(show ObjOk X.prog X.w H s.heap ea (xC ea C .none) from I.hok ea _ h).1;exact ⟨o,ws,e,d,.inl q⟩
 ·obtain ⟨o,ws,e,_,d,q⟩:=(show ObjOk X.prog X.w H s.heap ea (xC ea C (.ref b)) from I.hok ea _ h).1;obtain ⟨ob,wb,e2,d2,q2⟩:=(show ObjOk X.prog X.w H s.heap b (yO b) from I.hok b _ hb).1;exact ⟨o,ws,e,d,.inr ⟨b,ob,wb,q,e2,d2,q2⟩⟩
theorem HChn.exc (I:Inv X pins σ H s) (h:HChn H ea C):∃ o,s.heap.get? ea=some o/\o.cls=.ref C:=by
 rcases h with h | ⟨b,h,_⟩
 ·obtain ⟨o,ws,e,c,_⟩:=(show ObjOk X.prog X.w H s.heap ea (xC ea C .none) from I.hok ea _ h).1;exact ⟨o,e,c⟩
 ·obtain ⟨o,ws,e,c,_⟩:=(show ObjOk X.prog X.w H s.heap ea (xC ea C (.ref b)) from I.hok ea _ h).1;exact ⟨o,e,c⟩
theorem aI (hK:X.K=K):aS X (.builtin "isinstance") (λxs H Q=>∃ a C D b,xs=[.ref a,.ref D]/\HChn H a C/\W.ExcK K C/\W.kitOne K (.ref C) (.ref D)=some b/\Q (.bl b) H):=by
 subst hK;intro pins s σ H xs us Q I r h;obtain ⟨a,C,D,b,rfl,ha,G,hk,q⟩:=h;obtain ⟨u,w',rfl,rx,rD⟩:=mG r
 cases rx
 cases rD
 exact W.kia_one (W.kitx_exc G) I.kIn (ha.exc I) hk (λz=>nomatch z) λtk=>⟨.bl b,H,I.tok tk,rfl,q⟩
theorem pA (hK:X.K=K):aS X (.builtin "isinstance") (λxs H Q=>∃ a C T b,xs=[.ref a,.ty T]/\HChn H a C/\W.ExcK K C/\W.kitOne K (.ref C) (.type T)=some b/\Q (.bl b) H):=by
 subst hK;intro pins s σ H xs us Q I r h;obtain ⟨a,C,T,b,rfl,ha,G,hk,q⟩:=h;obtain ⟨u,w',rfl,rx,rD⟩:=mG r
 cases rx
 cases rD
 exact W.kia_one (W.kitx_exc G) I.kIn (ha.exc I) hk (λz=>nomatch z) λtk=>⟨.bl b,H,I.tok tk,rfl,q⟩
theorem nB {tg:Expr} {it:Addr} {i n:Nat} {E:Value->Shared->Prop} (I:Inv X pins σ H s) (hf:∀ b∈[it],dj X pins H b) (st:IsRangeIter s.heap it (0+(i:Nat)*1) ((n:Int) - (i:Nat)) 1) (hg:(Itr 0 n).go i H) :
  wpAny (model X.prog X.w) X.A (pyNext (.ref it)) (λr s1=>∃ u,r=some u/\wpAny (model X.prog X.w) X.A (letOwnedTupleGo tg (.ref it) u) (λ_ s2=>∃ x H',Inv X pins σ H' s2/\RelV x u/\(Itr 0 n).yld i H x H'/\IsRangeIter s2.heap it (0+((i+1:Nat):Int)*1) ((n:Int) - ((i+1:Nat):Int)) 1/\∀ b∈[it],H' b=none) E s1) E s:=by
 obtain ⟨f0,f1,f2,f3,f4,f5⟩:=hf it (by simp);have hg':i < n:=hg;refine wpAny_pyNext_range_item st (by lia) λh' st' sb=>?_;have I1:Inv X pins σ H { s with heap:=h',toks:=s.toks+1 }:=I.turned (λb o hb e=>(sb.2 b hb).trans e) f0 f1 f3 f4 f5;have st2:IsRangeIter h' it (0+((i+1:Nat):Int)*1) ((n:Int) - ((i+1:Nat):Int)) 1:=by
  have e1:(0:Int)+((i+1:Nat):Int)*1=0+(i:Nat)*1+1:=by lia
  have e2:(n:Int) - ((i+1:Nat):Int)=(n:Int) - (i:Nat) - 1:=by lia
  rw [e1,e2];exact st'
 refine ⟨_,rfl,ko (s:={ s with heap:=h',toks:=s.toks+1 }) (n:= "range_iterator") st' rfl rfl (1) ⟨.int (0+i),H,I1,⟨s.toks,?_⟩,⟨rfl,rfl⟩,st2,λb hb=>(hf b hb).1⟩⟩;rw [Int.mul_one]
theorem nD {it:Addr} {i n:Nat} {E:Value->Shared->Prop} (hh:X.A.handled=some (.ref ea)) (hc:HChn H ea C) (I:Inv X pins σ H s) (hf:dj X pins H it) (st:IsRangeIter s.heap it (0+(i:Nat)*1) ((n:Int) - (i:Nat)) 1) (hg:(Itr 0 n).stop i H) :
  wpAny (model X.prog X.w) X.A (pyNext (.ref it)) (λr s1=>r=none/\Inv X pins σ H s1) E s:=by
 obtain ⟨f0,f1,f2,f3,f4,f5⟩:=hf;have hg':n<=i:=hg;exact pz hh (I.chn hc) st (by lia) λh' eb=>⟨rfl,I.turned (t':=s.toks) (λb o hb e=>eb b o hb e) f0 f1 f3 f4 f5⟩
def PIR (X:Cx) (iter:Expr) (ta:TA):Prop :=
 ∀ (pins:List (Addr×Obj)) (s:Shared) (σ:St) (H:Hp) (R:It->Hp->Prop),Inv X pins σ H s->sS ta σ H R ->
  wpAny (model X.prog X.w) X.A (eval iter X.env) (λv s1=>wpAny (model X.prog X.w) X.A (pyIter v) (λitv s2=>∃ (it:Addr) (n:Nat) (H':Hp),itv=.ref it/\Inv X pins σ H' s2/\IsRangeIter s2.heap it 0 (n:Int) 1/\(∀ b∈[it],dj X pins H' b)/\R (Itr 0 n) H') X.xe s1) X.xe s
theorem sj {a:Expr} {ta:TA} {p pos:Pos} (hg:Gl X "range") (hm:X.mg "range" = none) (ha:PA X [a] ta) (hs:starEach [a] X.env=[(false,eval a X.env)]:=by rfl):PIR X (.Call (.Name "range" p) [a] [] pos) ta:=by
 intro pins s σ H R I h;refine Call_ (di I hg hm boot_range (PyProof.Rows.callWith_type1 (thn (ha pos pins s σ H _ I h) λus s1 ⟨vs,H1,I1,r1,q1⟩=>?_) hs rfl));obtain ⟨j,e,q1,q2,q⟩:=q1;subst e;obtain ⟨u,rfl,t,rfl⟩:=r1.one;refine call_range_1 (wpAny_pyIter_range (IsRange.new ..) (small_one (by lia) (by lia) q1 q2) ?_);have I2:Inv X pins σ H1 { s1 with heap:=s1.heap.push { cls:=.type "range",data:=.fields #[.int 0 s1.toks,.int j t,.int 1 (s1.toks+1)] },toks:=s1.toks+1+1 }:=I1.kept λb o e=>aAa _ e;refine ⟨_,j.toNat,H1,rfl,I2.kept (t':=s1.toks+1+1) λb o e=>aAa _ e,?_,λb hb=>?_,q⟩
 ·have e2:((j.toNat:Nat):Int)=Builtin.Range.rangeSize 0 j 1:=by rw [rangeSize_one];split <;> lia
  rw [e2];exact aAg _ rfl
 ·obtain rfl:=aAA.mp hb;exact I2.fpOk (aAf _) (I2.hok.fresh (aAf _))
def pB (ea C:Addr) (k:Nat) (ρ:List Nat) (ta:TA) (g:TG) (tb:List V->Addr->St->Hp->(List V->St->Hp->Prop)->Prop):TE:=λσ H Q=>kz k ρ (sS ta) g tb σ H λv H'=>HChn H' ea C/\Q v H'
theorem sq {ea C0:Addr} {elt tgt a:Expr} {p pos2:Pos} {ifs:List Expr} {scope:Scope} {pos:Pos} {NL N':List Str} {ρ:List Nat} {ta:TA} {g:TG} {tb:List V->Addr->St->Hp->(List V->St->Hp->Prop)->Prop} {body:Value->Env->Sem Unit}
  (hh:X.A.handled=some (.ref ea)) (S:CScope X scope NL ρ N') (hi:PIR X (.Call (.Name "range" p) [a] [] pos2) ta)
  (hg:∀ C s₀ H₀ fp,PG (ccx X scope C N' s₀ H₀ fp) tgt g) (hb:∀ C s₀ H₀ fp,PB (ccx X scope C N' s₀ H₀ fp) (λacc=>body acc (ccx X scope C N' s₀ H₀ fp).env) tb)
  (he:∀ (it acc:Value) (env:Env),compTurn (.ListComp elt [⟨tgt,.Call (.Name "range" p) [a] [] pos2,ifs,0⟩] scope pos) 0 it acc env=(standAt pos2 >>= λ_=>pyNext it >>= λr=>match r with
   | none=>pure (.done .next)
   | some v=>letOwnedTupleGo tgt it v >>= λ_=>assign tgt env v >>= λ_=>body acc env >>= λ_=>again (.compLoop (.ListComp elt [⟨tgt,.Call (.Name "range" p) [a] [] pos2,ifs,0⟩] scope pos) 0 it acc env)))
  (hs:∀ x,foldedSetIterable (.Call (.Name "range" p) [a] [] pos2) X.env x=pure x:=by intro _;rfl):PE X (.ListComp elt [⟨tgt,.Call (.Name "range" p) [a] [] pos2,ifs,0⟩] scope pos) (pB ea C0 NL.length ρ ta g tb):=by
 intro pins s σ H Q I h;unfold pB kz at h;have free_in:∀ x∈scope.names,x.2=.free->∃ c,X.env.cells.lookup x.1=some c:=λx hx hk=>I.ok.has x.1 (S.frees x hx hk);rw [eval_ListComp];refine wpAny_comprehension_free (use:=none) rfl hs (fC free_in) S.kind S.locs ?_;refine thn (hi pins s σ H _ I h) λv s1 h1=>thn h1 λitv s2 h2=>?_;obtain ⟨it,n,H2,e,I2,st2,f2,w⟩:=h2;subst e;have T:=iZ (P:=X.prog) (w:=X.w) (K:=X.K) (tg:=tgt) it 0 n;refine wpAny_newObj_type (wpAny_newFunctionEnv S.nocell (by intro y hy;simp at hy) (λh₁ hns₁ hsb₁=>?_) S.kind);dsimp only at hns₁ hsb₁ ⊢
 generalize hH2:s2.heap.push { cls:=.type "list",dict:=none,data:=.seq ([]:List Value).toArray }=h2' at hns₁ hsb₁ ⊢
 have hCs:h2'.objs.size=s2.heap.objs.size+1:=by rw [<- hH2,aAL]
 have hDC:s2.heap.objs.size≠h2'.objs.size:=by rw [hCs];exact aAk (aA2 _)
 have hC:s2.heap.objs.size<=h2'.objs.size:=by rw [hCs];exact aBo _
 have old:∀ b o,s2.heap.get? b=some o->h₁.get? b=some o:=λb o e=>hsb₁.extBut b o (aAk (aAd (aAb e) hC)) (aAa _ (hH2 ▸ aAa _ e));have hd:h₁.get? s2.heap.objs.size=some { cls:=.type "list",data:=.seq #[] 0 }:=hsb₁.extBut _ _ hDC (aAa _ (hH2 ▸ aAg _ rfl));have hfo:∀ b∈[it],∃ o,s2.heap.get? b=some o:=λb hb=>let ⟨o,e,_⟩:=T.obj 0 _ st2 b hb;⟨o,e⟩;have I4:Inv (ccx X scope h2'.objs.size N' s2 H2 [it]) (X.pn++pins) (cst NL.length ρ σ) (upd H2 s2.heap.objs.size (.lst [])) { s2 with heap:=h₁,toks:=s2.toks+([]:List (Str×Value)).length } :=
  Inv.comp S I2 f2 hfo hC (aAf _) hDC old hd (by simpa using hns₁)
 have hD0:H2 s2.heap.objs.size=none:=I2.hok.fresh (aAf _);have nfp:s2.heap.objs.size∉[it]:=λz=>by
  obtain ⟨o,e⟩:=hfo _ z;exact absurd (aAb e) (aAx _)
 obtain ⟨W,⟨m0,w0⟩,turn⟩:=w s2.heap.objs.size hD0;have stat:∀ {H':Hp},(∀ b∈[it],H' b=none)->∀ b∈[it],dj (ccx X scope h2'.objs.size N' s2 H2 [it]) (X.pn++pins) H' b:=λ{H'} hn b hb=>by
  obtain ⟨f0,f1,f2',f3,f4,f5⟩:=f2 b hb;have ok:=I4.ok;refine ⟨hn b hb,(ok.exf b hb).1,ok.exfs b hb,.inl hb,(ok.exf b hb).2,λp hp=>f5 p hp⟩
 have loop:∀ s₃:Shared,s₃={ s2 with heap:=h₁,toks:=s2.toks+([]:List (Str×Value)).length } ->
   codeAny (model X.prog X.w) X.A (.compLoop (.ListComp elt [⟨tgt,.Call (.Name "range" p) [a] [] pos2,ifs,0⟩] scope pos) 0 (.ref it) (.ref s2.heap.objs.size) (compEnvC scope (bV X.env scope.names []) h2'.objs.size X.env))
    (compPost (model X.prog X.w) X.A X.xe none (EP X pins σ Q) (.ref s2.heap.objs.size) h2'.objs.size) s₃:=by
  rintro s₃ rfl;refine codeAny_loop rfl (λm3 s'=>∃ i ys σ' H',Inv (ccx X scope h2'.objs.size N' s2 H2 [it]) (X.pn++pins) σ' H' s'/\IsRangeIter s'.heap it (0+(i:Nat)*1) ((n:Int) - (i:Nat)) 1/\(∀ b∈[it],H' b=none)/\W i m3 ys σ' H') (λm3 s3 hI=>?_) m0
   ⟨0,[],_,_,I4,T.keep 0 _ _ st2 (λb _ o e=>old b o e),λb hb=>?_,w0⟩
  ·obtain ⟨i,ys,σ3,H3,I3,st3,fr3,w3⟩:=hI;show wpAny _ _ ((compTurn (.ListComp elt [⟨tgt,.Call (.Name "range" p) [a] [] pos2,ifs,0⟩] scope pos) 0 (.ref it) (.ref s2.heap.objs.size) (compEnvC scope (bV X.env scope.names []) h2'.objs.size X.env)).onRaise (λx=>do noteFrame x _;theTreesLotGoes x)) _ _ s3;refine wpAny_noted ?_;rw [he];refine wpAny_bind (wpAny_standAt (wpAny_bind ?_));rcases turn i m3 ys σ3 H3 w3 with ⟨stop,hcn,qn⟩ | ⟨go,step⟩
   ·refine thn (nD (X:=ccx X scope h2'.objs.size N' s2 H2 [it]) hh hcn I3 (stat fr3 it (by simp)) st3 stop) λr s4 ⟨hr,I5⟩=>?_;subst hr;refine wpAny_pure ?_;obtain ⟨m,hm,_⟩:=id I5.loc;exact ⟨m,hm,λh' hs'=>⟨.ref s2.heap.objs.size,H3,Inv.compEnd I2 f2 hC I5 hs',rfl,qn⟩⟩
   ·refine thn (nB (X:=ccx X scope h2'.objs.size N' s2 H2 [it]) (tg:=tgt) I3 (stat fr3) st3 go) λr s4 ⟨u,hr,h4⟩=>?_;subst hr;refine wpAny_bind (thn h4 λ_ s5 ⟨x,H5,I5,r5,y5,st5,fr5⟩=>?_);have I5':=I5.pinned (stat fr5) (T.obj (i+1) _ st5);refine wpAny_bind (wpAny_mono (hg h2'.objs.size s2 H2 [it] _ s5 σ3 H5 x u _ I5' r5 (step x H5 y5)) (λ_ s6 ⟨σ6,H6,I6,q6⟩=>?_) λ_ _ z=>z.elim);refine wpAny_bind (wpAny_mono (hb h2'.objs.size s2 H2 [it] _ s6 σ6 H6 s2.heap.objs.size ys _ I6 q6) (λ_ s7 ⟨ys7,σ7,H7,I7,m',hm,w7⟩=>?_) λ_ _ z=>z.elim);refine wpAny_pure ⟨rfl,m',hm,i+1,ys7,σ7,H7,I7.unpinned,T.keep (i+1) _ _ st5 λb hb o e=>(I7.pin (b,o) (aAn _ (aAn _ (be hb e)))).1,λb hb=>?_,w7⟩;obtain ⟨o,e,d⟩:=T.obj (i+1) _ st5 b hb;exact (I7.pin (b,o) (aAn _ (aAn _ (be hb e)))).2.1
  ·rw [ag (show b≠s2.heap.objs.size from λz=>nfp (by rw [<- z];exact hb))];exact (f2 b hb).1
 refine codeAny_compStart_list (loop _ rfl) (T.self _ 0 _ _ _ ?_ (loop _ rfl));exact T.keep 0 _ _ st2 λb _ o e=>old b o e
end
section
variable {X:Cx}
theorem pC {ea C0:Addr} {elt tgt a c:Expr} {p pos2:Pos} {scope:Scope} {pos:Pos} {NL N':List Str} {ρ:List Nat} {ta:TA} {g:TG} {tc:TT} {te:TE} (hh:X.A.handled=some (.ref ea)) (S:CScope X scope NL ρ N') (hi:PIR X (.Call (.Name "range" p) [a] [] pos2) ta)
  (hg:∀ C s₀ H₀ fp,PG (ccx X scope C N' s₀ H₀ fp) tgt g) (ht:∀ C s₀ H₀ fp,PT (ccx X scope C N' s₀ H₀ fp) c tc) (he:∀ C s₀ H₀ fp,PE (ccx X scope C N' s₀ H₀ fp) elt te)
  (hs:∀ x,foldedSetIterable (.Call (.Name "range" p) [a] [] pos2) X.env x=pure x:=by intro _;rfl):PE X (.ListComp elt [⟨tgt,.Call (.Name "range" p) [a] [] pos2,[c],0⟩] scope pos) (pB ea C0 NL.length ρ ta g (cIf tc te)) :=
 sq (body:=λacc env=>do
  let b <- PySem.isTrue c env (eval c env)
  if b then (do let x <- eval elt env;let _ <- call (.builtin "list.append") [acc,x];pure ()) else pure ()) hh S hi hg (λC s₀ H₀ fp=>IK (ht C s₀ H₀ fp) (he C s₀ H₀ fp)) (λit acc env=>tG elt tgt (.Call (.Name "range" p) [a] [] pos2) c scope pos it acc env) hs
end
structure FnOkC (P:Program) (w:World) (K:W.Frag) (mg:Str->Option Value) (base:Heap) (k:Nat) (f:Addr) (fd:FuncData) (ps:List Str) (sp:Addr->Sp):Prop where
 len:∀ ea vs H Q E,sp ea vs H Q E->vs.length=ps.length
 run:∀ (A:Around) (ea:Addr) (outer:List Env) (s:Shared) (H:Hp) (args:Args) (us:List Value) (vs:List V) (Q:VK) (E:XK),RoomH k A->A.handled=some (.ref ea)->Env0 P w K mg base A outer s H->BindsTo s fd args (ps.zip us)->Vals vs us->sp ea vs H Q E ->
  codeAny (model P w) A (.call (.ref f) args) (CR CX0 outer P w H s Q E) s
theorem Bl {P:Program} {w:World} {K:W.Frag} {mg:Str->Option Value} {base:Heap} {k:Nat} {f:Addr} {name qual:Str} {params:Arguments} {body:List Stmt} {scope:Scope} {dV kV doc pm cdv ct oc:Value} {an od:Option Addr}
  {osl:Array (Option Value)} {N ps:List Str} {sp:Addr->Sp} (lk:K.lookup f=some ⟨oc,od,.func (W.fnOf name qual params body scope dV kV doc pm an cdv ct),osl⟩) (hcd:W.codeIn K cdv qual=true) (S:FnScope N ps scope)
  (len:∀ ea vs H Q E,sp ea vs H Q E->vs.length=ps.length)
  (hbody:∀ (A:Around) (ea:Addr) (outer:List Env) (s:Shared) (H:Hp) (vs:List V) (Q:VK) (E:XK),RoomH k (A.deeper (envOfC qual scope s.heap.objs.size f cdv))->A.handled=some (.ref ea)->sp ea vs H Q E ->
   ∃ t,PSs (cxH P w K mg base N qual scope f cdv A outer s H E) body t/\t { nx:=λ_ H'=>Q .non H',rt:=Q } (start N vs) H) :
  FnOkC P w K mg base (k+1) f (W.fnOf name qual params body scope dV kV doc pm an cdv ct) ps sp:=by
 refine ⟨len,λA ea outer s H args us vs Q E hr hh e0 hb r hsp=>?_⟩;have hl:=len _ _ _ _ _ hsp;have KX:K.In s.heap:=e0.mod.kin.keeps λb o e=>(e0.bs b o e).1;have lim:s.heap.NoLimit:=e0.mod.nolimit.keeps λb o e=>(e0.bs b o e).1;have hkind:∀ y∈ps.zip us,scope.names.lookup y.1=some .local\/(scope.names.lookup y.1=some .cell/\((cellsFrom (s.heap.objs.size+1) scope.names []).lookup y.1).isSome=true):=λ⟨n,v⟩ hy=>by
  rcases S.par n (aBi hy).1 with q | q
  ·exact .inl q
  ·exact .inr ⟨q,W.cellsFrom_some _ _ _ (.inl q)⟩
 have dep:A.depth < recursionLimit:=by have:=hr.dp;lia
 refine codeAny_call_function dep (KX _ _ lk) rfl S.co S.gen rfl (W.codeRec_of KX hcd) (hb _ _ _ _ ?_);refine wpAny_newFunctionEnv_cells S.kind hkind λenv he s1 x=>?_;subst he;refine ⟨lim.keeps x.toInCall.keep,codeAny_func ?_⟩;obtain ⟨t,ht,hq⟩:=hbody A ea outer s H vs Q E (hr.deeper _) hh hsp;have e1:Env0 P w K mg base ({ A with handled:=none }:Around) outer s H:=⟨e0.frames,e0.mod,e0.bs,e0.bsz,e0.funs,e0.frf,e0.hok,e0.bare⟩;have I0:Inv (eZ CX0 P w K mg base N qual scope f cdv ({ A with handled:=none }:Around) outer s H E) [] (start N vs) H s1:=kx S rfl e1 hl r x;have ok0:=I0.ok;have I:Inv (cxH P w K mg base N qual scope f cdv A outer s H E) [] (start N vs) H s1 :=
  ⟨⟨ok0.mod,ok0.kind,ok0.glob,ok0.blt,ok0.above,ok0.inj,ok0.has,ok0.cab,λz=>absurd z (by show ¬ (false=true);decide),ok0.frames,ok0.stk,ok0.exf,ok0.bs,ok0.bsz,ok0.noex,ok0.exfs,ok0.funs,ok0.frf⟩,I0.os,I0.bare,I0.base,I0.loc,I0.cell,I0.free,I0.freeC,I0.pin,I0.hok,I0.len⟩
 refine wpAny_mono (ht [] s1 (start N vs) H _ I hq) (λfl s' hs=>?_) λe s' hs=>hs.elim;have fin:∀ {σ':St} {H':Hp} {v:V} {u:Value},Inv (cxH P w K mg base N qual scope f cdv A outer s H E) [] σ' H' s'->RelV v u->Q v H'->CE outer P w H s Q u s' :=
  λ{σ' H' v u} J rv q=>⟨v,H',J.os,J.bare,J.base,J.hok,rv,q⟩
 cases fl with
 | ret u =>
  obtain ⟨v,σ',H',J,rv,q⟩:=hs;exact fin J rv q
 | next =>
  obtain ⟨σ',H',J,q⟩:=hs;exact fin (v:=V.non) (u:=Value.none) J rfl q
 | brk =>
  obtain ⟨_,_,_,q⟩:=hs;exact False.elim q
 | cont =>
  obtain ⟨_,_,_,q⟩:=hs;exact False.elim q
theorem Fun.okC {P:Program} {w:World} {K:W.Frag} {mg:Str->Option Value} {base:Heap} {x qual:Str} {st:Stmt} {f:Addr} {fd:FuncData} {N ps:List Str} {k:Nat} {sp:Addr->Sp} (F:Fun K x qual st f fd) (S:FnScope N ps (aa st)) (len:∀ ea vs H Q E,sp ea vs H Q E->vs.length=ps.length)
  (hbody:∀ (cdv:Value) (A:Around) (ea:Addr) (outer:List Env) (s:Shared) (H:Hp) (vs:List V) (Q:VK) (E:XK),RoomH k (A.deeper (envOfC qual (aa st) s.heap.objs.size f cdv))->A.handled=some (.ref ea)->sp ea vs H Q E ->
   ∃ t,PSs (cxH P w K mg base N qual (aa st) f cdv A outer s H E) (aX st) t/\t { nx:=λ_ H'=>Q .non H',rt:=Q } (start N vs) H):FnOkC P w K mg base (k+1) f fd ps sp:=by
 obtain ⟨oc,od,kV,doc,pm,an,cdv,ct,osl,rfl,lk,hcd⟩:=F.ex;exact Bl lk hcd S len λA ea outer s H vs Q E hr hh hsp=>hbody cdv A ea outer s H vs Q E hr hh hsp
section
variable {X:Cx}
theorem uA {ea:Addr} (hh:X.A.handled=some (.ref ea)) {k:Nat} {f:Addr} {fd:FuncData} {ps:List Str} {sp:Addr->Sp} {x:Str} {p pos:Pos} {e:Expr} {es:List Expr} {t:TA} (F:FnOkC X.prog X.w X.K X.mg X.base k f fd ps sp) (hr:RoomH k X.A) (hg:Gl X x) (hm:X.mg x=some (.ref f)) (hk:W.keepIn X.K (.ref f)=true) (hb:Binds X.K fd ps [])
  (ha:PA X (e :: es) t) (hdb:(x == ("__debug__" : Str))=false:=by decide) (he:starEach (e :: es) X.env=(false,eval e X.env) :: starEach es X.env:=by rfl) (hpl:(backTo pos (starEach es X.env)).any (·.1)=false:=by rfl) :
  PE X (.Call (.Name x p) (e :: es) [] pos) (tj (sp ea) [] E0 t):=by
 intro pins s σ H Q I h;refine wpAny_Call_Name_kw (aY I hg hm ?_ hdb);refine W.callWith_K (h₀:=X.base) I.ok.mod.kin hk (thn (ha pos pins s σ H _ I h) λus s1 ⟨vs,H1,I1,r,q⟩=>⟨I1.kIn,?_⟩) he hpl;have q':sp ea vs H1 Q E0:=by
  have z:sp ea (vs++[]) H1 Q E0:=q
  rwa [aAP] at z
 have hl:us.length=ps.length:=by rw [<- r.length];exact F.len _ _ _ _ _ q'
 have hb':BindsTo s1 fd ⟨us,[]⟩ (ps.zip us):=by
  have z:=hb s1 us I1.kIn (by rw [aAP];exact hl)
  rwa [aAP] at z
 refine wpAny_call (codeAny_mono (F.run X.A ea X.stack s1 H1 ⟨us,[]⟩ us vs Q E0 hr hh I1.env0 hb' r q') λrr s' hq=>?_)
 cases rr with
 | error ex=>exact False.elim hq
 | ok fl =>
  cases fl with
  | ret u=>exact I1.after hq
  | next=>exact False.elim hq
  | brk=>exact False.elim hq
  | cont=>exact False.elim hq
end
def wj (H:Hp) (ws:Array Value):Prop:=ws[2]?=some .none\/∃ b,ws[2]?=some (.ref b)/\H b=some (yO b)
def bZ (P:Program) (w:World):CXT:=λouter H s E e s'=>∃ ws a0,ws[0]?=some a0/\Bg P w ws outer H s (λc o H'=>wj H' ws/\E c o H') e s'
theorem uB {P:Program} {w:World} {X:Cx}:fB (bZ P w) X (λ_ _ _=>False):=by
 intro pins σ H s e s' I h;obtain ⟨_,_,_,_,_,_,_,_,_,_,_,_,_,_,_,_,q⟩:=h;exact q.elim
def da (X:Cx) (E:XK):Value->Shared->Prop:=λe s'=>∃ (ea C:Addr) (a0:Value) (ws:Array Value) (B:Heap) (H':Hp),e=.ref ea/\ws[0]?=some a0 /\
 (Heap.Fl B (X.env :: X.outer) ea (.ref C) ws .none s'.heap\/Heap.Fl B (X.env :: X.outer) ea (.ref C) ws (rawInt X.env.locals) s'.heap\/(B.StaysIn s'.heap/\B.get? ea=none/\s'.heap.FunFrames B (X.env :: X.outer)/\ws[1]?=some .none/\∃ oe,s'.heap.get? ea=some oe/\oe.cls=.ref C/\oe.data=.fields ws))/\s'.os=X.s₀.os/\AllBare s'.gens /\
 Un (frs X.outer) [] X.H₀ H' X.s₀.heap s'.heap/\HOk X.prog X.w H' B/\(∀ b o,X.s₀.heap.get? b=some o->X.H₀ b=none->b∉frs X.outer->B.get? b=some o) /\
 (∀ b o,X.s₀.heap.get? b=some o->b∉frs X.outer->∃ o',B.get? b=some o')/\wj H' ws/\E (.ref C) none H'
section
variable {X:Cx} {E:XK}
theorem jc {M:Model} {A:Around} {E':Value->Shared->Prop} {B:Heap} {l:List Env} {env:Env} {L ea:Addr} {cls a0:Value} {ws:Array Value} {s:Shared} {Q:Unit->Shared->Prop} (hfr:env.frame=some L) (h0:ws[0]?=some a0) (fl:Heap.Fl B l ea cls ws (rawInt L) s.heap) (q:Q () s):wpAny M A (noteFrame (.ref ea) env) Q E' s:=by
 obtain ⟨k1,k2,k3,oe,vs,T,oT,ts,he,hc,hd,hk,r⟩:=fl;exact wpAny_noteFrame_againW hfr ⟨oe,vs,T,oT,ts,he,⟨hc,by rw [hk 0 (1)];exact h0⟩,hd,r⟩ q
theorem wk {M:Model} {A:Around} {B:Heap} {l:List Env} {env:Env} {L ea:Addr} {cls:Value} {ws:Array Value} {s:Shared} {E2:Value->Shared->Prop} (hf:env.frame=some L) (fl:Heap.Fl B l ea cls ws (rawInt L) s.heap) (h:∀ h',Heap.Fl B l ea cls ws (rawInt L) h'->s.heap.UpToSlots h'->E2 (.ref ea) { s with heap:=h' }):cameBackBy M A env E2 (.ref ea) s:=by
 have fl':=fl;obtain ⟨k1,k2,k3,oe,vs,T,oT,ts,he,hc,hd,hk,h1,r⟩:=fl';unfold cameBackBy;refine wpAny_bind (wpAny_field he hd h1 ?_);rw [if_neg (show ¬ ((Value.ref T == Value.none)=true) from by simp)];refine bj (fr:=env.frame) fl λh3 x3 u3=>h h3 ?_ u3;rw [hf] at x3;exact x3
theorem jd {M:Model} {A:Around} {E':Value->Shared->Prop} {B:Heap} {env:Env} {outer:List Env} {L ea:Addr} {oe:Obj} {ws:Array Value} {s:Shared} {Q:Unit->Shared->Prop} (hA:A.frames=some (env :: outer)) (hf:env.frame=some L) (hl:s.heap.FunFrames B (env :: outer)) (he:s.heap.get? ea=some oe) (hkb:B.StaysIn s.heap) (hen:B.get? ea=none) (hd:oe.data=.fields ws) (h1:ws[1]?=some .none)
  (h:∀ h',Heap.Fl B (env :: outer) ea oe.cls ws (rawInt L) h'->s.heap.UpToSlots h'->Q () { s with heap:=h' }):wpAny M A (noteFrame (.ref ea) env) Q E' s:=by
 unfold noteFrame;simp only [hf];refine wpAny_bind (wpAny_field he hd h1 ?_);rw [if_neg (1)];exact fY (ws:=ws) hA hl hf he hkb hen hd (aAH.mp h1).1 (λ_ _=>rfl) h
theorem kM {A:Around} (hA:A.frames=some (X.env :: X.outer)) (hfr:X.env.frame=some X.env.locals) (frf:∀ b∈frs X.outer,X.H₀ b=none):PassesOwn (model X.prog X.w) A X.env (da X E):=by
 intro e s' h;obtain ⟨ea,C,a0,ws,B,H',rfl,h0,st,os,bare,un,hok,c1,c2,q⟩:=h;have fin:∀ {s2:Shared},s2.os=X.s₀.os->AllBare s2.gens->Un (frs X.outer) [] X.H₀ H' X.s₀.heap s2.heap->Heap.Fl B (X.env :: X.outer) ea (.ref C) ws (rawInt X.env.locals) s2.heap->cameBackBy (model X.prog X.w) A X.env (da X E) (.ref ea) s2:=λ{s2} o2 b2 u2 hh =>
  wk hfr hh λh' hh' up=>⟨ea,C,a0,ws,B,H',rfl,h0,.inr (.inl hh'),o2,b2,iQ frf u2 hh.2.2.1 up hh'.1 c1 c2,hok,c1,c2,q⟩
 rcases st with fl | hh | ⟨k1,k2,k3,h1,oe,he,hc,hd⟩
 ·exact iS hA hfr fl λh' hh up=>fin (s2:={ s' with heap:=h' }) os bare (iQ frf un fl.2.2.1 up hh.1 c1 c2) hh
 ·exact jc hfr h0 hh (fin os bare un hh)
 ·refine jd hA hfr k3 he k1 k2 hd h1 λh' hh up=>?_;rw [hc] at hh;exact fin (s2:={ s' with heap:=h' }) os bare (iQ frf un k3 up hh.1 c1 c2) hh
theorem lN {A:Around} (hA:A.frames=some (X.env :: X.outer)) (hfr:X.env.frame=some X.env.locals) (frf:∀ b∈frs X.outer,X.H₀ b=none) {e:Value} {s':Shared} (h:da X E e s') :
  wpAny (model X.prog X.w) A (leaving X.env e) (λ_ s''=>bZ X.prog X.w X.outer X.H₀ X.s₀ E e s'') (λe' s''=>bZ X.prog X.w X.outer X.H₀ X.s₀ E e' s'') s':=by
 obtain ⟨ea,C,a0,ws,B,H',rfl,h0,st,os,bare,un,hok,c1,c2,q⟩:=h;have fin:∀ {h':Heap},s'.heap.FunFrames B (X.env :: X.outer)->Heap.Fl B X.outer ea (.ref C) ws .none h'->s'.heap.UpToSlots h'->bZ X.prog X.w X.outer X.H₀ X.s₀ E (.ref ea) { s' with heap:=h' }:=λ{h'} F fl up =>
  ⟨ws,a0,h0,ea,C,B,H',rfl,fl,os,bare,iQ frf un F up fl.1 c1 c2,hok,c1,c2,q⟩
 have F:s'.heap.FunFrames B (X.env :: X.outer):=by
  rcases st with fl | hh | ⟨k1,k2,k3,_⟩
  ·exact fl.2.2.1
  ·exact hh.2.2.1
  ·exact k3
 have last:∀ {h2:Heap},s'.heap.UpToSlots h2->Heap.Fl B (X.env :: X.outer) ea (.ref C) ws (rawInt X.env.locals) h2->wpAny (model X.prog X.w) A (setFlight (.ref ea) none) (λ_ s''=>bZ X.prog X.w X.outer X.H₀ X.s₀ E (.ref ea) s'') (λe' s''=>bZ X.prog X.w X.outer X.H₀ X.s₀ E e' s'') { s' with heap:=h2 }:=λ{h2} up x2 =>
  bj (s:={ s' with heap:=h2 }) (fr:=none) x2 λh3 x3 u3=>by
   obtain ⟨k1,k2,⟨_,_,k3⟩,k4⟩:=x3;exact fin F ⟨k1,k2,k3,k4⟩ (up.trans u3)
 unfold leaving;rcases st with fl | hh | ⟨k1,k2,k3,h1,oe,he,hc,hd⟩
 ·exact wpAny_bind (iS hA hfr fl λh' hh up=>last up hh)
 ·exact wpAny_bind (jc hfr h0 hh (last (λb o hb _=>⟨o.slots,hb⟩) hh))
 ·refine wpAny_bind (jd hA hfr k3 he k1 k2 hd h1 λh' hh up=>?_);rw [hc] at hh;exact last up hh
variable {pins:List (Addr×Obj)} {σ:St} {H:Hp} {s:Shared}
theorem pD {C:Addr} {ea:Addr} {vs:List Value} {h':Heap} {tk:Nat} (hstk:X.stack=X.env :: X.outer) (hfr:X.env.frame=some X.env.locals) (hex:X.ex=[]) (I:Inv X pins σ H s) (hm:Heap.MadeExcOf s.heap h' ea (.ref C) vs)
  (q:E (.ref C) none H):da X E (.ref ea) { s with heap:=h',toks:=tk }:=by
 have F0:s.heap.FunFrames X.base (X.env :: X.outer):=by rw [<- hstk];exact I.stack
 have mem:∀ b∈frs X.outer,b∈frs (X.env :: X.outer):=λb hb=>by
  obtain ⟨env,he,hf⟩:=aAl.mp hb;exact aAl.mpr ⟨env,aAp _ he,hf⟩
 have inv:∀ b,b∈frs (X.env :: X.outer)->b=X.env.locals\/b∈frs X.outer:=λb hb=>by
  obtain ⟨env,he,hf⟩:=aAl.mp hb;rcases aAm.mp he with rfl | he
  ·rw [hfr] at hf;exact .inl (Option.some.inj hf).symm
  ·exact .inr (aAl.mpr ⟨env,he,hf⟩)
 have hin:∀ env∈(X.env :: X.outer),∀ b,env.frame=some b->b∈frs (X.env :: X.outer):=λenv he b hb=>aAl.mpr ⟨env,he,hb⟩;have stayB:∀ b o,s.heap.get? b=some o->b∉frs (X.env :: X.outer)->(W.hideAll s.heap (frs (X.env :: X.outer))).get? b=some o:=λb o e n=>W.hideAll_get _ e n;have old:∀ b o,X.s₀.heap.get? b=some o->b∉frs X.outer->b∉frs (X.env :: X.outer):=λb o e n z=>by
  rcases inv b z with rfl | z
  ·exact absurd (aAd (aAb e) I.ok.above) (aAx _)
  ·exact n z
 have B0:Un X.fs [] X.H₀ H X.s₀.heap s.heap:=by have z:=I.base;rw [hex] at z;exact z
 have c1:∀ b o,X.s₀.heap.get? b=some o->X.H₀ b=none->b∉frs X.outer->(W.hideAll s.heap (frs (X.env :: X.outer))).get? b=some o:=λb o e n hb=>stayB b o (B0.keep b o e n hb (by simp)) (old b o e hb);have c2:∀ b o,X.s₀.heap.get? b=some o->b∉frs X.outer->∃ o',(W.hideAll s.heap (frs (X.env :: X.outer))).get? b=some o':=λb o e hb=>by
  obtain ⟨o',e'⟩:=B0.there b o e (by simp);exact ⟨o',stayB b o' e' (old b o e hb)⟩
 have FB:s.heap.FunFrames (W.hideAll s.heap (frs (X.env :: X.outer))) (X.env :: X.outer):=W.funFrames_hide F0 hin;obtain ⟨t,he,htn,ht⟩:=hm.there;have stays:(W.hideAll s.heap (frs (X.env :: X.outer))).StaysIn h':=λb o e=>hm.keeps b o (W.of_hideAll _ e);have hen:(W.hideAll s.heap (frs (X.env :: X.outer))).get? ea=none:=by
  cases z:(W.hideAll s.heap (frs (X.env :: X.outer))).get? ea with
  | none=>rfl
  | some o =>
   have z2:=W.of_hideAll _ z;rw [hm.new] at z2
   cases z2
 refine ⟨ea,C,.ref t,_,_,H,rfl,rfl,.inr (.inr ⟨stays,hen,FB.of_keeps λb o hb _=>⟨o,hm.keeps b o hb,rfl⟩,rfl,_,he,rfl,rfl⟩),I.os,I.bare,eg B0 c1 c2 stays λb o e hb=>?_,λb u e=>?_,c1,c2,.inl rfl,q⟩
 ·obtain ⟨sl,e1⟩:=B0.slot b o e (I.ok.frf b hb) hb (by simp);exact ⟨sl,hm.keeps b _ e1⟩
 ·refine (I.hok b u e).stay (λc v hc z=>stayB c v z λhf=>?_) (λ_ z=>z) λ_ _ z=>z;have n0:H c=none:=by rw [<- hstk] at hf;exact I.stkFree c hf
  rcases hc with rfl | hc
  ·rw [e] at n0;cases n0
  ·rw [hc] at n0;cases n0
theorem pE {x:Str} {C:Addr} {e:Expr} {es:List Expr} {t:TA} {np cpos pos:Pos} (hstk:X.stack=X.env :: X.outer) (hfr:X.env.frame=some X.env.locals) (hex:X.ex=[]) (hc:X.calm=true) (G:ExC X.K X.mg x C) (hg:Gl X x) (ha:PA (X.wish (da X E)) (e :: es) t)
  (hdb:(x == ("__debug__" : Str))=false:=by decide) (he:starEach (e :: es) X.env=(false,eval e X.env) :: starEach es X.env:=by rfl) (hpl:(backTo cpos (starEach es X.env)).any (·.1)=false:=by rfl) :
  PS (X.wish (da X E)) (.Raise (some (.Call (.Name x np) (e :: es) [] cpos)) none pos) (oZ C E t):=by
 intro pins s σ H D I h;obtain ⟨bm,N,nm,qn,bs,hd,sn,sub,ab,col,dd,k0,k1,k2,k3,k5,mN,hC,hN,hni,T⟩:=iP (show X.K.In X.base from I.ok.mod.kin) G.q;refine wpAny_Raise_call_subT (C:=C) (nm:=nm) (q:=qn) (N:=N) (bs:=bs) (bm:=bm) (hdct:=hd) (sn:=sn) (sub:=sub) (ab:=ab) (col:=col) (dd:=dd) (k0:=k0) (k1:=k1) (k2:=k2) (k3:=k3) (k5:=k5) F.excBase_ValueError (mN:=mN) (T.hasType F.excBase_ValueError.hasBase) (I.ok.hd hc)
  (by show (backTo cpos (starEach (e :: es) X.env)).any (·.1)=false;rw [he];show (false || (backTo cpos (starEach es X.env)).any (·.1))=false;rw [hpl];rfl) hni (aY I hg G.m ⟨rfl,?_⟩ hdb)
 have z:=ha cpos pins s σ H _ I h;have he':starEach (e :: es) (X.wish (da X E)).env=(false,eval e (X.wish (da X E)).env) :: starEach es (X.wish (da X E)).env:=he;rw [he'] at z ⊢;refine Calls.evalArgs_plain (wpAny_mono z (λus s2 ⟨vs,H2,I2,r,hz,q⟩=>?_) λ_ _ y=>y);refine ⟨rfl,by show us.length<=sizeLine;rw [<- r.length];exact hz,I2.bk _ _ hC,hN.keeps I2.bk,T.keeps I2.bk,λh' ea hm=>?_⟩;exact pD (tk:=s2.toks) hstk hfr hex (Inv.unwish I2) hm q
theorem je (hstk:X.stack=X.env :: X.outer) (hfr:X.env.frame=some X.env.locals) (hex:X.ex=[]):fB (bZ X.prog X.w) (X.wish (da X E)) E:=by
 intro pins σ H s e s' I' h;have I:Inv X pins σ H s:=Inv.unwish I';obtain ⟨ws,a0,h0,ea,C,B,H',rfl,fl,os,bare,un,hok,c1,c2,q⟩:=h;have hstk':(X.wish (da X E)).stack=X.env :: X.outer:=hstk;rw [hstk'] at fl un c1 c2;have inv:∀ b,b∈frs (X.env :: X.outer)->b=X.env.locals\/b∈frs X.outer:=λb hb=>by
  obtain ⟨env,he,hf⟩:=aAl.mp hb;rcases aAm.mp he with rfl | he
  ·rw [hfr] at hf;exact .inl (Option.some.inj hf).symm
  ·exact .inr (aAl.mpr ⟨env,he,hf⟩)
 have mem:∀ b∈frs X.outer,b∈frs (X.env :: X.outer):=λb hb=>by
  obtain ⟨env,he,hf⟩:=aAl.mp hb;exact aAl.mpr ⟨env,aAp _ he,hf⟩
 have old:∀ b o,X.s₀.heap.get? b=some o->b∉frs X.outer->b∉frs (X.env :: X.outer):=λb o e n z=>by
  rcases inv b z with rfl | z
  ·exact absurd (aAd (aAb e) I.ok.above) (aAx _)
  ·exact n z
 have B0:Un X.fs [] X.H₀ H X.s₀.heap s.heap:=by have z:=I.base;rw [hex] at z;exact z
 have d1:∀ b o,X.s₀.heap.get? b=some o->X.H₀ b=none->b∉frs X.outer->B.get? b=some o:=λb o e n hb=>c1 b o (B0.keep b o e n hb (by simp)) (B0.free b o e n (by simp)) (old b o e hb);have d2:∀ b o,X.s₀.heap.get? b=some o->b∉frs X.outer->∃ o',B.get? b=some o':=λb o e hb=>by
  obtain ⟨o',e'⟩:=B0.there b o e (by simp);exact c2 b o' e' (old b o e hb)
 refine ⟨ea,C,a0,ws,B,H',rfl,h0,.inl fl,os.trans I.os,bare,?_,hok,d1,d2,q⟩;refine ⟨λb o e n hb _=>?_,λb o e n hb _=>?_,λb o e n _=>?_,λb o e _=>?_,λb xs e=>un.tups b xs (B0.tups b xs e),λb o u e=>un.frzs b o u (B0.frzs b o u e),λb ps e=>?_⟩
 ·exact un.keep b o (B0.keep b o e n hb (by simp)) (B0.free b o e n (by simp)) (old b o e hb) (by simp)
 ·obtain ⟨sl,e1⟩:=B0.slot b o e n hb (by simp);obtain ⟨sl2,e2⟩:=un.slot b _ e1 (B0.free b o e n (by simp)) (mem b hb) (by simp);exact ⟨sl2,e2⟩
 ·obtain ⟨o',e'⟩:=B0.there b o e (by simp);exact un.free b o' e' (B0.free b o e n (by simp)) (by simp)
 ·obtain ⟨o',e'⟩:=B0.there b o e (by simp);exact un.there b o' e' (by simp)
 ·obtain ⟨m1,e1⟩:=B0.tbls b ps e;obtain ⟨m2,e2⟩:=un.tbls b _ e1;exact ⟨m1++m2,by rw [e2,aBC]⟩
end
theorem PSs.wing3 {X:Cx} {E:XK} {st:List Stmt} {t:TS} (hstk:X.stack=X.env :: X.outer) (hfr:X.env.frame=some X.env.locals) (hxe:X.xe=λe s'=>wpAny (model X.prog X.w) X.A (leaving X.env e) (λ_ s''=>bZ X.prog X.w X.outer X.H₀ X.s₀ E e s'') (λe' s''=>bZ X.prog X.w X.outer X.H₀ X.s₀ E e' s'') s')
  (h:PSs (X.wish (da X E)) st t):PSs X st t:=λpins s σ H D I hw =>
 wpAny_mono (h pins s σ H D (I.wish _) hw) (λ_ _ q=>q.unwish) λe s' z=>by
  rw [hxe];exact lN (by rw [I.ok.frames,hstk]) hfr I.ok.frf z
theorem Fun.okW3 {P:Program} {w:World} {K:W.Frag} {mg:Str->Option Value} {base:Heap} {x qual:Str} {st:Stmt} {f:Addr} {fd:FuncData} {N ps:List Str} {k:Nat} {sp:Sp} (F:Fun K x qual st f fd) (S:FnScope N ps (aa st)) (len:∀ vs H Q E,sp vs H Q E->vs.length=ps.length)
  (hbody:∀ (cdv:Value) (A:Around) (outer:List Env) (s:Shared) (H:Hp) (vs:List V) (Q:VK) (E:XK),Room k (A.deeper (envOfC qual (aa st) s.heap.objs.size f cdv))->sp vs H Q E ->
   ∃ t,PSs ((eZ (bZ P w) P w K mg base N qual (aa st) f cdv A outer s H E).wish (da (eZ (bZ P w) P w K mg base N qual (aa st) f cdv A outer s H E) E)) (aX st) t/\t { nx:=λ_ H'=>Q .non H',rt:=Q } (start N vs) H):FnOk P w K mg base (bZ P w) (k+1) f fd ps sp:=by
 obtain ⟨oc,od,kV,doc,pm,an,cdv,ct,osl,rfl,lk,hcd⟩:=F.ex;refine mJ lk hcd S len λA outer s H vs Q E hr hsp=>?_;obtain ⟨t,h,q⟩:=hbody cdv A outer s H vs Q E hr hsp;exact ⟨t,PSs.wing3 rfl rfl rfl h,q⟩
def uC (X:Cx) (E:XK):Prop:=X.xe=λe s'=>wpAny (model X.prog X.w) X.A (leaving X.env e) (λ_ s''=>bZ X.prog X.w X.outer X.H₀ X.s₀ E e s'') (λe' s''=>bZ X.prog X.w X.outer X.H₀ X.s₀ E e' s'') s'
section
variable {X:Cx} {pins:List (Addr×Obj)} {σ:St} {H:Hp} {s:Shared}
theorem sr {E:XK} {C ea:Addr} {h' h2:Heap} {ws:Array Value} {a0:Value} {s':Shared} (hx:uC X E) (hstk:X.stack=X.env :: X.outer) (hfr:X.env.frame=some X.env.locals) (hex:X.ex=[]) (I:Inv X pins σ H s) (kp:∀ b o,s.heap.get? b=some o->h'.get? b=some o)
  (h0:ws[0]?=some a0) (es:s'={ s with heap:=h2 }) (fl:Heap.Fl (W.hideAll s.heap (frs (X.env :: X.outer))) (X.env :: X.outer) ea (.ref C) ws (rawInt X.env.locals) h2) (up:h'.UpToSlots h2) (hcm:wj H ws) (q:E (.ref C) none H):X.xe (.ref ea) s':=by
 rw [hx];subst es;have fl':=fl;obtain ⟨k1,k2,k3,oe,vs,T,oT,ts,he,hc,hd,hk,r⟩:=fl';show wpAny _ _ (leaving X.env (.ref ea)) _ _ _;unfold leaving;refine wpAny_bind (wpAny_noteFrame_againW (s:={ s with heap:=h2 }) hfr ⟨oe,vs,T,oT,ts,he,⟨hc,by rw [hk 0 (1)];exact h0⟩,hd,r⟩ ?_);refine bj (s:={ s with heap:=h2 }) (fr:=none) fl λh3 x3 u3=>?_;obtain ⟨m1,m2,⟨_,_,m3⟩,m4⟩:=x3;exact ⟨ws,a0,h0,nq (E:=λc o H'=>wj H' ws/\E c o H') (s:=s) (tk:=s.toks) hstk hfr hex I kp ⟨m1,m2,m3,m4⟩ (up.trans u3) ⟨hcm,q⟩⟩
def wm (K:W.Frag) (HC C:Addr) (E:XK) (te:TX) (ta:TA):TS:=λD σ H=>te σ H (λv H1=>D.rt v H1) λcls _ H'=>∃ C',cls=.ref C'/\W.exmOne K (.ref C') (.ref HC)=some true/\∀ ea,H' ea=none->ta σ (upd H' ea (yO ea)) λxs H2=>xs.length<=sizeLine/\H2 ea=some (yO ea)/\E (.ref C) none H2
theorem su {E:XK} {e e2:Expr} {es2:List Expr} {x y:Str} {np p1 hpos pos np2 cpos cp pos2:Pos} {j:Nat} {te:TX} {ta:TA} {HC C:Addr} (hx:uC X E) (hstk:X.stack=X.env :: X.outer) (hfr:X.env.frame=some X.env.locals) (hex:X.ex=[]) (he:PX2 X e te)
  (hm:X.mg x=some (.ref HC)) (hg:Gl X x) (G:ExC X.K X.mg y C) (hgy:Gl X y) (ha:∀ ea,PA (hcx X ea) (e2 :: es2) ta) (hdb:(x == ("__debug__" : Str))=false:=by decide) (hdby:(y == ("__debug__" : Str))=false:=by decide)
  (hse:starEach (e2 :: es2) X.env=(false,eval e2 X.env) :: starEach es2 X.env:=by rfl) (hpl:(backTo cpos (starEach es2 X.env)).any (·.1)=false:=by rfl) :
  PS X (.Try [.Return (some e) p1] [.ExceptHandler (some (.Name x np)) none [.Raise (some (.Call (.Name y np2) (e2 :: es2) [] cpos)) (some (.Constant .none j cp)) pos2] hpos] [] [] pos) (wm X.K HC C E te ta):=by
 intro pins s σ H D I h;have fr0:X.A.frames=some (X.env :: X.outer):=by rw [<- hstk];exact I.ok.frames
 refine wpAny_Try_except (wpAny_execs_cons (wpAny_Return_some (wpAny_mono (he pins s σ H _ _ I h) (λv s1 ⟨y,H1,I1,r1,q1⟩=>?_) (λex s1 ⟨H1,s0,I0,fl0⟩=>?_))))
 ·exact ⟨y,σ,H1,I1,r1,q1⟩
 obtain ⟨ws,a0,h0,h2,ea,C',B,H',rfl,fl,os,bare,un,hok,c1,c2,C'',e',hxm,q⟩:=fl0
 cases e'
 have flS:=fl;rw [hstk] at fl;refine iS fr0 hfr fl λh4 x4 up4=>?_;refine bj (s:={ s1 with heap:=h4 }) (fr:=none) x4 λh5 x5 up5=>?_;have frames:∀ {h2:Heap},s1.heap.UpToSlots h2->∀ b o,s0.heap.get? b=some o->b∈frs X.stack->∃ sl,h2.get? b=some { o with slots:=sl }:=λ{h2} up b o e hb=>by
  obtain ⟨sl,e1⟩:=un.slot b o e (I0.stkFree b hb) hb (by simp);obtain ⟨o2,e2,nf⟩:=cv flS.2.2.1 hb;rw [e1] at e2;obtain rfl:=Option.some.inj e2;obtain ⟨sl2,e3⟩:=up b _ e1 nf;exact ⟨sl2,e3⟩
 have I5:Inv X pins σ H' { s1 with heap:=h5 }:=I0.call' (s':={ s1 with heap:=h5 }) os (eg un c1 c2 x5.1 (frames (up4.trans up5))) (hok.kept x5.1) bare (ch:=[]) (λ_ z=>nomatch z);have ea0:H' ea=none:=mX hok fl.2.1;have x5':=x5;obtain ⟨_,_,_,ob,vb,_,_,_,hob,hobc,_⟩:=x5';have LT:W.Looks (model X.prog X.w) h5 (typeOf (.ref ea)) (.ref C'):=by
  have L:W.Looks (model X.prog X.w) h5 (typeOf (.ref ea)) ob.cls:=(W.Looks.ld hob).andThen .now;rw [hobc] at L;exact L
 refine wpAny_handleBy_cons (codeAny_handlers_test (aY (X:=hcx X ea) (I5.hcx ea) hg hm ?_ hdb)) (by intro z;cases z);refine (W.exm_one (h:=h5) I5.kIn LT hxm).here ?_;refine codeAny_handlers_suite ?_;refine bj (s:={ s1 with heap:=h5 }) (fr:=none) x5 λh6 x6 up6=>?_;have up16:s1.heap.UpToSlots h6:=(up4.trans up5).trans up6;have x6':=x6;obtain ⟨_,_,f6,oe,vs,_,_,_,hoe,hoec,hoed,hkk,_⟩:=x6';have neF:ea∉frs X.stack:=λhb=>by
  rw [<- hstk] at f6;obtain ⟨o2,e2,nf⟩:=cv f6 hb;rw [hoe] at e2;obtain rfl:=Option.some.inj e2;exact nf _ hoed
 have un6:Un (frs X.stack) [] H1 H' s0.heap h6:=eg un c1 c2 x6.1 (frames up16);have un7:Un (frs X.stack) [] H1 (upd H' ea (yO ea)) s0.heap h6:=by
  refine ⟨un6.keep,un6.slot,λb o e n z=>?_,un6.there,λb xs e=>?_,λb o u e=>?_,λb ps e=>?_⟩
  ·have hne:b≠ea:=by
    rintro rfl
    by_cases hb:b∈frs X.stack
    ·exact neF hb
    ·have z:=c1 b o e n hb;rw [fl.2.1] at z
     cases z
   rw [ag hne];exact un6.free b o e n z
  ·rw [ag (ah (un6.tups b xs e) ea0)];exact un6.tups b xs e
  ·rw [ag (ah (un6.frzs b o u e) ea0)];exact un6.frzs b o u e
  ·obtain ⟨m1,e1⟩:=un6.tbls b ps e;exact ⟨m1,by rw [ag (ah e1 ea0)];exact e1⟩
 have hok6:HOk X.prog X.w (upd H' ea (yO ea)) h6:=λb u e=>by
  by_cases hb:b=ea
  ·subst hb;rw [ac] at e
   cases e
   exact Jg ⟨oe,vs,hoe,hoed,by rw [hkk 2 (1)];exact h2⟩
  ·rw [ag hb] at e;exact (hok b u e).stay (λc v _ z=>x6.1 c v z) (λc z=>by rw [ag (ah z ea0)];exact z) λc xs z=>by rw [ag (ah z ea0)];exact z
 have I6:Inv X pins σ (upd H' ea (yO ea)) { s1 with heap:=h6 }:=I0.call' (s':={ s1 with heap:=h6 }) os un7 hok6 bare (ch:=[]) (λ_ z=>nomatch z);refine wpAny_execs_cons ?_;obtain ⟨bm,N,nm,qn,bs,hd,sn,sub,ab,col,dd,k0,k1,k2,k3,k5,mN,hC,hN,hni,T⟩:=iP I.ok.mod.kin G.q;refine ir (C:=C) (nm:=nm) (q:=qn) (N:=N) (bs:=bs) (bm:=bm) (hdct:=hd) (sn:=sn) (sub:=sub) (ab:=ab) (col:=col) (dd:=dd) (k0:=k0) (k1:=k1) (k2:=k2) (k3:=k3) (k5:=k5) F.excBase_ValueError (mN:=mN) (T.hasType F.excBase_ValueError.hasBase) rfl
  (by rw [hse];show (false || (backTo cpos (starEach es2 X.env)).any (·.1))=false;rw [hpl];rfl) hni (aY (X:=hcx X ea) (I6.hcx ea) hgy G.m ⟨rfl,?_⟩ hdby)
 have z:=ha ea cpos pins _ σ _ _ (I6.hcx ea) (q ea ea0);rw [show (hcx X ea).env=X.env from rfl,hse] at z;rw [hse];refine Calls.evalArgs_plain (wpAny_mono z (λus s2 ⟨vs2,H2,I2,r,hz,hy,q2⟩=>?_) λ_ _ y=>y.elim);have J2:Inv X pins σ H2 s2:=I2.unhcx I.ok;refine ⟨rfl,by show us.length<=sizeLine;rw [<- r.length];exact hz,J2.bk _ _ hC,hN.keeps J2.bk,T.keeps J2.bk,(show ObjOk X.prog X.w H2 s2.heap ea (yO ea) from J2.hok ea _ hy).1,λh7 e7 t7 kp hn7 he7=>?_⟩;obtain ⟨b1,b2,b3⟩:=kK hstk J2 kp hn7;refine v9 (A:=X.A) (E:=X.xe) (E2:=X.xe) (s:={ s2 with heap:=h7 }) fr0 fr0 hfr b3 he7 b1 b2 rfl rfl (λ_ z=>z) λh8 x8 up8=>?_;exact sr hx hstk hfr hex J2 kp rfl rfl x8 up8 (.inr ⟨ea,rfl,hy⟩) q2
def PX3 (X:Cx) (e:Expr) (t:TX):Prop :=
 ∀ (pins:List (Addr×Obj)) (s:Shared) (σ:St) (H:Hp) (Q:VK) (E:XK),Inv X pins σ H s->t σ H Q E ->
  wpAny (model X.prog X.w) X.A (eval e X.env) (EP X pins σ Q) (λex s'=>∃ H1 s1,Inv X pins σ H1 s1/\bZ X.prog X.w X.stack H1 s1 E ex s') s
theorem nE {k:Nat} {f:Addr} {fd:FuncData} {ps:List Str} {sp:Sp} {x:Str} {p pos:Pos} {e:Expr} {es:List Expr} {t:TA} (F:FnOk X.prog X.w X.K X.mg X.base (bZ X.prog X.w) k f fd ps sp) (hr:Room k X.A) (hg:Gl X x) (hm:X.mg x=some (.ref f))
  (hk:W.keepIn X.K (.ref f)=true) (hb:Binds X.K fd ps []) (ha:PA X.nox (e :: es) t) (hdb:(x == ("__debug__" : Str))=false:=by decide) (he:starEach (e :: es) X.env=(false,eval e X.env) :: starEach es X.env:=by rfl)
  (hpl:(backTo pos (starEach es X.env)).any (·.1)=false:=by rfl):PX3 X (.Call (.Name x p) (e :: es) [] pos) (λσ H Q E=>t σ H λvs H1=>sp vs H1 Q E):=by
 intro pins s σ H Q E I h;refine wpAny_Call_Name_kw (aY I hg hm ?_ hdb);refine W.callWith_K (h₀:=X.base) I.ok.mod.kin hk (wpAny_mono (ha pos pins s σ H _ (I.wish _) h) (λus s1 ⟨vs,H1,I1',r,q⟩=>?_) λ_ _ z=>z.elim) he hpl;have I1:Inv X pins σ H1 s1:=Inv.unwish I1';refine ⟨I1.kIn,?_⟩;have hl:us.length=ps.length:=by rw [<- r.length];exact F.len _ _ _ _ q
 have hb':BindsTo s1 fd ⟨us,[]⟩ (ps.zip us):=by
  have z:=hb s1 us I1.kIn (by rw [aAP];exact hl)
  rwa [aAP] at z
 refine wpAny_call (codeAny_mono (F.run X.A X.stack s1 H1 ⟨us,[]⟩ us vs Q E hr I1.env0 hb' r q) λrr s' hq=>?_)
 cases rr with
 | error ex=>exact ⟨H1,s1,I1,hq⟩
 | ok fl =>
  cases fl with
  | ret u=>exact I1.after hq
  | next=>exact False.elim hq
  | brk=>exact False.elim hq
  | cont=>exact False.elim hq
def uD (X:Cx) (body:List Stmt) (t:TBx):Prop :=
 ∀ (pins:List (Addr×Obj)) (s:Shared) (σ:St) (H:Hp) (N:Hp->Prop) (E:XK),Inv X pins σ H s->t σ H N E ->
  wpAny (model X.prog X.w) X.A (execs body X.env) (λf s'=>f=.next/\∃ H1,Inv X pins σ H1 s'/\N H1) (λex s'=>∃ H1 s1,Inv X pins σ H1 s1/\bZ X.prog X.w X.stack H1 s1 E ex s') s
theorem nF {e:Expr} {p1:Pos} {te:TX} (he:PX3 X e te) (hs:swapsWith e none p1.line X.env=pure false:=by rfl):uD X [.Expr e p1] (λσ H N E=>te σ H (λ_ H1=>N H1) E):=by
 intro pins s σ H N E I h;exact wpAny_execs_cons (wpAny_Expr_any (wpAny_mono (he pins s σ H _ _ I h) (λv s1 ⟨y,H1,I1,r1,q1⟩=>wpAny_execs_nil ⟨rfl,H1,I1,q1⟩) λ_ _ q=>q) I.quiet hs)
theorem wn {c:Expr} {a b:List Stmt} {pos:Pos} {tc:TT} {ta tb:TBx} (hc:PT X.nox c tc) (ha:uD X a ta) (hb:uD X b tb):uD X [.If c a b pos] (λσ H N E=>tc σ H λd H1=>if d=true then ta σ H1 N E else tb σ H1 N E):=by
 intro pins s σ H N E I h;refine wpAny_execs_cons (wpAny_If (wpAny_mono (hc pins s σ H _ (I.wish _) h) (λd s1 ⟨H1,I1,q1⟩=>?_) λ_ _ z=>z.elim));have end1:∀ {f:Flow} {s':Shared},(f=.next/\∃ H1,Inv X pins σ H1 s'/\N H1)->(match f with | .next=>wpAny (model X.prog X.w) X.A (execs [] X.env) (λf s'=>f=.next/\∃ H1,Inv X pins σ H1 s'/\N H1) (λex s'=>∃ H1 s1,Inv X pins σ H1 s1/\bZ X.prog X.w X.stack H1 s1 E ex s') s' | f=>(f=.next/\∃ H1,Inv X pins σ H1 s'/\N H1)):=by
  rintro f s' ⟨rfl,q⟩;exact wpAny_execs_nil ⟨rfl,q⟩
 cases d with
 | true=>exact wpAny_mono (ha pins s1 σ H1 N E I1.unwish q1) (λf s' q=>by have:=end1 q;revert this;cases f <;> exact id) λ_ _ q=>q
 | false=>exact wpAny_mono (hb pins s1 σ H1 N E I1.unwish q1) (λf s' q=>by have:=end1 q;revert this;cases f <;> exact id) λ_ _ q=>q
def wo (K:W.Frag) (HC:Addr) (i:Nat) (te:TBx) (ts:Addr->TS):TS:=λD σ H=>te σ H (λH1=>D.nx σ H1) λcls _ H'=>∃ C,cls=.ref C/\W.exmOne K (.ref C) (.ref HC)=some true /\
 ∀ ea H2,H' ea=none->Same H' H2->HChn H2 ea C->ts ea { nx:=λσ' H''=>D.nx (σ'.set i none) H'',rt:=D.rt,bk:=λσ' H''=>D.bk (σ'.set i none) H'',ct:=λσ' H''=>D.ct (σ'.set i none) H'' } (σ.set i (some (.ref ea))) H2
theorem sv {body:List Stmt} {x n:Str} {i:Nat} {b₀:Stmt} {suite:List Stmt} {np hpos pos:Pos} {te:TBx} {HC:Addr} {ts:Addr->TS} (hstk:X.stack=X.env :: X.outer) (hfr:X.env.frame=some X.env.locals) (he:uD X body te) (hm:X.mg x=some (.ref HC)) (hg:Gl X x)
  (hN:X.N.Nodup) (hi:X.N[i]?=some n) (hlo:X.env.scope.names.lookup n=some .local) (hb:∀ ea,PSs (hcx X ea) (b₀ :: suite) (ts ea)) (hdb:(x == ("__debug__" : Str))=false:=by decide) :
  PS X (.Try body [.ExceptHandler (some (.Name x np)) (some n) (b₀ :: suite) hpos] [] [] pos) (wo X.K HC i te ts):=by
 intro pins s σ H D I h;have fr0:X.A.frames=some (X.env :: X.outer):=by rw [<- hstk];exact I.ok.frames
 refine wpAny_Try_except (wpAny_mono (he pins s σ H (λH1=>D.nx σ H1) _ I h) (λv s1 hv=>?_) (λex s1 ⟨H1,s0,I0,fl0⟩=>?_))
 ·obtain ⟨rfl,H1,I1,q1⟩:=hv;exact wpAny_execs_nil ⟨σ,H1,I1,q1⟩
 obtain ⟨ws,a0,h0,ea,C,B,H',rfl,fl,os,bare,un,hok,c1,c2,cm,C',e',hx,q⟩:=fl0
 cases e'
 have flS:=fl;rw [hstk] at fl;refine iS fr0 hfr fl λh4 x4 up4=>?_;refine bj (s:={ s1 with heap:=h4 }) (fr:=none) x4 λh5 x5 up5=>?_;have frames:∀ {h2:Heap},s1.heap.UpToSlots h2->∀ b o,s0.heap.get? b=some o->b∈frs X.stack->∃ sl,h2.get? b=some { o with slots:=sl }:=λ{h2} up b o e hb=>by
  obtain ⟨sl,e1⟩:=un.slot b o e (I0.stkFree b hb) hb (by simp);obtain ⟨o2,e2,nf⟩:=cv flS.2.2.1 hb;rw [e1] at e2;obtain rfl:=Option.some.inj e2;obtain ⟨sl2,e3⟩:=up b _ e1 nf;exact ⟨sl2,e3⟩
 have I5:Inv X pins σ H' { s1 with heap:=h5 }:=I0.call' (s':={ s1 with heap:=h5 }) os (eg un c1 c2 x5.1 (frames (up4.trans up5))) (hok.kept x5.1) bare (ch:=[]) (λ_ z=>nomatch z);have ea0:H' ea=none:=mX hok fl.2.1;have x5':=x5;obtain ⟨_,_,_,ob,vb,_,_,_,hob,hobc,_⟩:=x5';have LT:W.Looks (model X.prog X.w) h5 (typeOf (.ref ea)) (.ref C):=by
  have L:W.Looks (model X.prog X.w) h5 (typeOf (.ref ea)) ob.cls:=(W.Looks.ld hob).andThen .now;rw [hobc] at L;exact L
 refine wpAny_handleBy_cons (codeAny_handlers_test (aY (X:=hcx X ea) (I5.hcx ea) hg hm ?_ hdb)) (by intro z;cases z);refine (W.exm_one (h:=h5) I5.kIn LT hx).here ?_;refine codeAny_handlers_suite_as ?_;refine bj (s:={ s1 with heap:=h5 }) (fr:=none) x5 λh6 x6 up6=>?_;have up16:s1.heap.UpToSlots h6:=(up4.trans up5).trans up6;have x6':=x6;obtain ⟨_,_,f6,oe,vs,_,_,_,hoe,hoec,hoed,hkk,_⟩:=x6';have neF:ea∉frs X.stack:=λhb=>by
  rw [<- hstk] at f6;obtain ⟨o2,e2,nf⟩:=cv f6 hb;rw [hoe] at e2;obtain rfl:=Option.some.inj e2;exact nf _ hoed
 obtain ⟨c0,hc0,hch⟩:∃ c0,ws[2]?=some c0/\HChn (upd H' ea (xC ea C c0)) ea C:=by
  rcases cm with cm | ⟨b,cm,hb⟩
  ·exact ⟨_,cm,.inl ac⟩
  ·exact ⟨_,cm,.inr ⟨b,ac,by rw [ag (ah hb ea0)];exact hb⟩⟩
 have un6:Un (frs X.stack) [] H1 H' s0.heap h6:=eg un c1 c2 x6.1 (frames up16);have un7:Un (frs X.stack) [] H1 (upd H' ea (xC ea C c0)) s0.heap h6:=by
  refine ⟨un6.keep,un6.slot,λb o e n z=>?_,un6.there,λb xs e=>?_,λb o u e=>?_,λb ps e=>?_⟩
  ·have hne:b≠ea:=by
    rintro rfl
    by_cases hb:b∈frs X.stack
    ·exact neF hb
    ·have z:=c1 b o e n hb;rw [fl.2.1] at z
     cases z
   rw [ag hne];exact un6.free b o e n z
  ·rw [ag (ah (un6.tups b xs e) ea0)];exact un6.tups b xs e
  ·rw [ag (ah (un6.frzs b o u e) ea0)];exact un6.frzs b o u e
  ·obtain ⟨m1,e1⟩:=un6.tbls b ps e;exact ⟨m1,by rw [ag (ah e1 ea0)];exact e1⟩
 have hok6:HOk X.prog X.w (upd H' ea (xC ea C c0)) h6:=λb u e=>by
  by_cases hb:b=ea
  ·subst hb;rw [ac] at e
   cases e
   exact Jh ⟨oe,vs,hoe,hoec,hoed,by rw [hkk 2 (1)];exact hc0⟩
  ·rw [ag hb] at e;exact (hok b u e).stay (λc v _ z=>x6.1 c v z) (λc z=>by rw [ag (ah z ea0)];exact z) λc xs z=>by rw [ag (ah z ea0)];exact z
 have I6:Inv X pins σ (upd H' ea (xC ea C c0)) { s1 with heap:=h6 }:=I0.call' (s':={ s1 with heap:=h6 }) os un7 hok6 bare (ch:=[]) (λ_ z=>nomatch z);refine iX (X:=hcx X ea) (v:=.ref ea) (I6.hcx ea) hN hi (.inl hlo) rfl (λs7 I7=>?_) (.inr hlo);refine wpAny_mono (hb ea pins s7 _ _ _ I7 (q ea _ ea0 (af ea0 _) hch)) (λf s8 h8=>?_) λ_ _ z=>z.elim
 cases f with
 | next =>
  obtain ⟨σ8,H8,I8,q8⟩:=h8;exact (I8.unhcx I.ok).goes hN hi hlo λs9 I9=>⟨_,H8,I9,q8⟩
 | ret v =>
  obtain ⟨v8,σ8,H8,I8,r8,q8⟩:=h8;exact (I8.unhcx I.ok).goes hN hi hlo λs9 I9=>⟨v8,_,H8,I9,r8,q8⟩
 | brk =>
  obtain ⟨σ8,H8,I8,q8⟩:=h8;exact (I8.unhcx I.ok).goes hN hi hlo λs9 I9=>⟨_,H8,I9,q8⟩
 | cont =>
  obtain ⟨σ8,H8,I8,q8⟩:=h8;exact (I8.unhcx I.ok).goes hN hi hlo λs9 I9=>⟨_,H8,I9,q8⟩
end
theorem Fun.okE3 {P:Program} {w:World} {K:W.Frag} {mg:Str->Option Value} {base:Heap} {x qual:Str} {st:Stmt} {f:Addr} {fd:FuncData} {N ps:List Str} {k:Nat} {sp:Sp} (F:Fun K x qual st f fd) (S:FnScope N ps (aa st)) (len:∀ vs H Q E,sp vs H Q E->vs.length=ps.length)
  (hbody:∀ (cdv:Value) (A:Around) (outer:List Env) (s:Shared) (H:Hp) (vs:List V) (Q:VK) (E:XK),Room k (A.deeper (envOfC qual (aa st) s.heap.objs.size f cdv))->sp vs H Q E ->
   ∃ t,PSs (eZ (bZ P w) P w K mg base N qual (aa st) f cdv A outer s H E) (aX st) t/\t { nx:=λ_ H'=>Q .non H',rt:=Q } (start N vs) H):FnOk P w K mg base (bZ P w) (k+1) f fd ps sp:=by
 obtain ⟨oc,od,kV,doc,pm,an,cdv,ct,osl,rfl,lk,hcd⟩:=F.ex;exact mJ lk hcd S len λA outer s H vs Q E hr hsp=>hbody cdv A outer s H vs Q E hr hsp
theorem Ji {P:Program} {w:World} {K:W.Frag} {mg:Str->Option Value} {base:Heap} {N:List Str} {qual:Str} {scope:Scope} {f:Addr} {cd:Value} {A:Around} {outer:List Env} {s:Shared} {H:Hp} {E:XK} :
  uC (eZ (bZ P w) P w K mg base N qual scope f cd A outer s H E) E:=rfl
end L2
namespace K73
open PySem L2 PyProof.Rows
abbrev gY:Stmt:=top 25
abbrev fJ:Stmt:=top 26
abbrev bG:Stmt:=top 27
abbrev eD:Stmt:=top 28
abbrev bA:Stmt:=top 29
abbrev eE:Stmt:=top 30
abbrev dG:Stmt:=top 31
abbrev eF:Stmt:=top 32
abbrev bn:Stmt:=top 33
abbrev cF:Stmt:=top 34
abbrev cG:Stmt:=top 35
abbrev dH:Stmt:=top 36
abbrev eG:Stmt:=top 37
abbrev cH:Stmt:=top 38
abbrev cP:Stmt:=top 39
abbrev gZ:Stmt:=top 42
abbrev eW:Stmt:=top 43
abbrev dI:Stmt:=top 44
abbrev cV:Stmt:=top 45
abbrev aW:Stmt:=top 46
abbrev bH:Stmt:=top 47
abbrev cc:Stmt:=top 48
abbrev ox:Stmt:=top 49
abbrev bP:Stmt:=top 50
abbrev qg:Stmt:=top 51
abbrev dJ:Stmt:=top 58
abbrev oy:Stmt:=top 59
abbrev hG:Stmt:=top 60
abbrev eH:Stmt:=top 61
abbrev cW:Stmt:=top 62
abbrev ce:Stmt:=top 63
abbrev bN:Stmt:=top 64
abbrev cI:Stmt:=top 65
abbrev aw:Stmt:=top 66
abbrev cJ:Stmt:=top 67
abbrev dM:Stmt:=top 68
abbrev jC:Stmt:=top 69
abbrev bQ:Stmt:=top 70
abbrev kf:Stmt:=top 71
abbrev cK:Stmt:=top 73
abbrev dN:Stmt:=top 74
abbrev jD:Stmt:=top 75
abbrev cX:Stmt:=top 79
abbrev bx:Stmt:=top 80
abbrev cL:Stmt:=top 81
abbrev cM:Stmt:=top 82
abbrev bU:Stmt:=top 83
abbrev jE:Stmt:=top 84
abbrev bp:Stmt:=top 85
abbrev eJ:Stmt:=top 87
abbrev dO:Stmt:=top 88
abbrev eK:Stmt:=top 89
abbrev fK:Stmt:=top 90
abbrev fM:Stmt:=top 91
abbrev dP:Stmt:=top 92
abbrev bR:Stmt:=top 93
abbrev cQ:Stmt:=top 94
abbrev dQ:Stmt:=top 95
abbrev bI:Stmt:=top 96
abbrev fN:Stmt:=top 97
abbrev hJ:Stmt:=top 98
abbrev eL:Stmt:=top 99
abbrev cY:Stmt:=top 100
abbrev hV:Stmt:=top 101
abbrev qX:Stmt:=top 102
theorem qh:FnScope ["text"] ["text"] (aa gY):=by constructor <;> first | rfl | decide +kernel
theorem oA:FnScope ["thing"] ["thing"] (aa fJ):=by constructor <;> first | rfl | decide +kernel
theorem fP:FnScope ["thing","low","high"] ["thing","low","high"] (aa bG):=by constructor <;> first | rfl | decide +kernel
theorem mn:FnScope ["kind"] ["kind"] (aa eD):=by constructor <;> first | rfl | decide +kernel
theorem sc_is_formed:FnScope ["thing","room","word"] ["thing","room"] (aa bA):=by constructor <;> first | rfl | decide +kernel
theorem mo:FnScope ["thing"] ["thing"] (aa eE):=by constructor <;> first | rfl | decide +kernel
theorem kg:FnScope ["low","high"] ["low","high"] (aa dG):=by constructor <;> first | rfl | decide +kernel
theorem mq:FnScope ["words"] ["words"] (aa eF):=by constructor <;> first | rfl | decide +kernel
theorem ft:FnScope ["fields","room","names"] ["fields","room"] (aa bn):=by constructor <;> first | rfl | decide +kernel
theorem oB:FnScope ["field","room"] ["field","room"] (aa cF):=by constructor <;> first | rfl | decide +kernel
theorem sc_are_rows:FnScope ["key","items","room","key_kind"] ["key","items","room"] (aa cG):=by constructor <;> first | rfl | decide +kernel
theorem cZ:FnScope ["kind","name","own","inner"] ["kind","name"] (aa dH):=by constructor <;> first | rfl | decide +kernel
theorem mr:FnScope ["kind"] ["kind"] (aa eG):=by constructor <;> first | rfl | decide +kernel
theorem dW:FnScope ["kind","inner"] ["kind"] (aa cH):=by constructor <;> first | rfl | decide +kernel
theorem ms:FnScope ["kind"] ["kind"] (aa cP):=by constructor <;> first | rfl | decide +kernel
theorem qi:FnScope ["letter"] ["letter"] (aa gZ):=by constructor <;> first | rfl | decide +kernel
theorem oC:FnScope ["value","kind","word"] ["value","kind"] (aa eW):=by constructor <;> first | rfl | decide +kernel
theorem kh:FnScope ["value","most"] ["value","most"] (aa dI):=by constructor <;> first | rfl | decide +kernel
theorem jF:FnScope ["value","word"] ["value","word"] (aa cV):=by constructor <;> first | rfl | decide +kernel
theorem jG:FnScope ["value","word","kind","most"] ["value","word","kind","most"] (aa aW):=by constructor <;> first | rfl | decide +kernel
theorem eM:FnScope ["kind","word"] ["kind"] (aa bP):=by constructor <;> first | rfl | decide +kernel
theorem ki:FnScope ["number"] ["number"] (aa dJ):=by constructor <;> first | rfl | decide +kernel
theorem qj:FnScope ["number","low","high"] ["number","low","high"] (aa hG):=by constructor <;> first | rfl | decide +kernel
theorem mw:FnScope ["thing"] ["thing"] (aa eH):=by constructor <;> first | rfl | decide +kernel
theorem jH:FnScope ["turn","kind"] ["turn","kind"] (aa cW):=by constructor <;> first | rfl | decide +kernel
theorem fw:FnScope ["turn","kind","word"] ["turn","kind"] (aa ce):=by constructor <;> first | rfl | decide +kernel
theorem gB:FnScope ["thing"] ["thing"] (aa bN):=by constructor <;> first | rfl | decide +kernel
theorem iJ:FnScope ["low","high"] ["low","high"] (aa cI):=by constructor <;> first | rfl | decide +kernel
theorem sc_are_led_words:FnScope ["forth","back","elder","behind","there","again"] ["forth","back","elder"] (aa aw):=by constructor <;> first | rfl | decide +kernel
theorem iK:FnScope ["back"] ["back"] (aa cJ):=by constructor <;> first | rfl | decide +kernel
theorem im:FnScope ["turn","kind","word"] ["turn","kind"] (aa dM):=by constructor <;> first | rfl | decide +kernel
theorem sI:FnScope ["turn","kind","value"] ["turn","kind","value"] (aa jC):=by constructor <;> first | rfl | decide +kernel
theorem gC:FnScope ["turn","kind","value","word"] ["turn","kind","value"] (aa bQ):=by constructor <;> first | rfl | decide +kernel
theorem iL:FnScope ["text"] ["text"] (aa cK):=by constructor <;> first | rfl | decide +kernel
theorem kj:FnScope ["low","high","factor"] ["low","high","factor"] (aa dN):=by constructor <;> first | rfl | decide +kernel
theorem kS:FnScope ["text","separator","found"] ["text","separator"] (aa jD):=by constructor <;> first | rfl | decide +kernel
theorem bJ:FnScope ["looks","kind","here","look"] ["looks","kind"] (aa cX):=by constructor <;> first | rfl | decide +kernel
theorem fg:FnScope ["look","kind"] ["look","kind"] (aa bx):=by constructor <;> first | rfl | decide +kernel
theorem iM:FnScope ["look","kind"] ["look","kind"] (aa cL):=by constructor <;> first | rfl | decide +kernel
theorem iN:FnScope ["look","kind"] ["look","kind"] (aa cM):=by constructor <;> first | rfl | decide +kernel
theorem hZ:FnScope ["look","kind","sort"] ["look","kind","sort"] (aa bU):=by constructor <;> first | rfl | decide +kernel
theorem ck:FnScope ["looks","kind","value","here_kind","here","look"] ["looks","kind","value"] (aa jE):=by constructor <;> first | rfl | decide +kernel
theorem bS:FnScope ["look","kind","value","word"] ["look","kind","value"] (aa bp):=by constructor <;> first | rfl | decide +kernel
theorem gG:FnScope ["cell","k","stir"] ["cell","k"] (aa eJ):=by constructor <;> first | rfl | decide +kernel
theorem aO:FnScope ["script","k","cell","j","found"] ["script","k"] (aa dO):=by constructor <;> first | rfl | decide +kernel
theorem gH:FnScope ["row","many","digit"] ["row","many"] (aa eK):=by constructor <;> first | rfl | decide +kernel
theorem eO:FnScope ["row","way","low"] ["row"] (aa fK):=by constructor <;> first | rfl | decide +kernel
theorem cR:FnScope ["row","most","text","k"] ["row","most"] (aa fM):=by constructor <;> first | rfl | decide +kernel
theorem fz:FnScope ["row","low","high","way"] ["row","low","high"] (aa dP):=by constructor <;> first | rfl | decide +kernel
theorem mz:FnScope ["row","kind"] ["row","kind"] (aa bR):=by constructor <;> first | rfl | decide +kernel
theorem bK:FnScope ["e","one","two","three","heard"] ["e"] (aa cQ):=by constructor <;> first | rfl | decide +kernel
theorem oD:FnScope ["kind"] ["kind"] (aa dQ):=by constructor <;> first | rfl | decide +kernel
theorem bu:FnScope ["row","kind","way","low","forth"] ["row","kind"] (aa bI):=by constructor <;> first | rfl | decide +kernel
theorem bB:FnScope ["look","kind","value","word","at","k","part"] ["look","kind","value"] (aa fN):=by constructor <;> first | rfl | decide +kernel
theorem bO:FnScope ["row","kind","some"] ["row","kind"] (aa hJ):=by constructor <;> first | rfl | decide +kernel
theorem cf:FnScope ["way","looks","kind","value","heard","e"] ["way","looks","kind","value"] (aa eL):=by constructor <;> first | rfl | decide +kernel
theorem jI:FnScope ["looks","kind","value"] ["looks","kind","value"] (aa cY):=by constructor <;> first | rfl | decide +kernel
theorem bh:FnScope ["row","kind","value","many","looks","first","k","look"] ["row","kind","value","many"] (aa hV):=by constructor <;> first | rfl | decide +kernel
theorem jJ:FnScope ["script","k","row","kind"] ["script"] (aa qX):=by constructor <;> first | rfl | decide +kernel
theorem pi1 {K:W.Frag} {X:Cx} {a:Expr} {ta:TE} {i j pos pos'} (hK:X.K=K) (ha:PE X a ta):PE X (.Subscript a (.Constant (.int i) j pos) pos') (tOp (Bc K) ta (tC (.int i))):=pe_ix (ix_tupPN hK) ha pe_int λ_ _=>rfl
theorem isS {K : W.Frag} {H : Hp} {z : Str} {Q : V -> Prop} (h : Q (.str z)) : ∀ v, IsP K H (.str z) v -> Q v := λv hv => by cases hv; exact h
theorem isI {K : W.Frag} {H : Hp} {z : Int} {Q : V -> Prop} (h : Q (.int z)) : ∀ v, IsP K H (.int z) v -> Q v := λv hv => by cases hv; exact h
theorem sz2 : 2 <= sizeLine := by decide
theorem sz3 : 3 <= sizeLine := by decide
theorem pcl {X:Cx} {x:Str} {st:Stmt} {ps:List Str} {f:Addr} {fd:FuncData} {k:Nat} {sp:Sp} {e:Expr} {es:List Expr} {t:TA} {p pos:Pos} (D:Gn X.K X.mg x st ps f fd) (F:FnOk X.prog X.w X.K X.mg X.base CX0 k f fd ps sp) (hr:Room k X.A) (hg:Gl X x) (ha:PA X (e :: es) t) (hdb:(x == ("__debug__" : Str))=false:=by decide) (he:starEach (e :: es) X.env=(false,eval e X.env) :: starEach es X.env:=by rfl) (hpl:(backTo pos (starEach es X.env)).any (·.1)=false:=by rfl):PE X (.Call (.Name x p) (e :: es) [] pos) (tj sp [] E0 t):=pe_call F hr hg D.m D.F.kp D.b .nil IJ ha hdb he hpl
theorem pa1 {X:Cx} {e:Expr} {te:TE} (ha:PE X e te) (hs:starEach [e] X.env=(false,eval e X.env) :: starEach [] X.env):PA X [e] (h9 te sZ):=ak ha cr hs
theorem pa2 {X:Cx} {e f:Expr} {te tf:TE} (ha:PE X e te) (hb:PE X f tf) (hs:starEach [e,f] X.env=(false,eval e X.env) :: starEach [f] X.env) (ht:starEach [f] X.env=(false,eval f X.env) :: starEach [] X.env):PA X [e,f] (h9 te (h9 tf sZ)):=ak ha (ak hb cr ht) hs
theorem pa3 {X:Cx} {e f g:Expr} {te tf tg:TE} (ha:PE X e te) (hb:PE X f tf) (hc:PE X g tg) (hs:starEach [e,f,g] X.env=(false,eval e X.env) :: starEach [f,g] X.env) (ht:starEach [f,g] X.env=(false,eval f X.env) :: starEach [g] X.env) (hu:starEach [g] X.env=(false,eval g X.env) :: starEach [] X.env):PA X [e,f,g] (h9 te (h9 tf (h9 tg sZ))):=ak ha (ak hb (ak hc cr hu) ht) hs
theorem sz1:1<=sizeLine:=(1)
structure Ads where
 HandError:Addr
 BadKind:Addr
 BadValue:Addr
 BadPath:Addr
 BadTurn:Addr
 BadPiece:Addr
 BadVersion:Addr
 BadText:Addr
 BadQuestion:Addr
 NoRecord:Addr
 Taken:Addr
 NoDeed:Addr
 Full:Addr
structure Tx (K:W.Frag) (mg:Str->Option Value) (ad:Ads):Prop where
 is_name:∃ f fd,Gn K mg "is_name" gY ["text"] f fd
 is_whole:∃ f fd,Gn K mg "is_whole" fJ ["thing"] f fd
 is_whole_within:∃ f fd,Gn K mg "is_whole_within" bG ["thing","low","high"] f fd
 made_kind:∃ f fd,Gn K mg "made_kind" eD ["kind"] f fd
 is_formed:∃ f fd,Gn K mg "is_formed" bA ["thing","room"] f fd
 has_parts:∃ f fd,Gn K mg "has_parts" eE ["thing"] f fd
 are_bounds:∃ f fd,Gn K mg "are_bounds" dG ["low","high"] f fd
 are_words:∃ f fd,Gn K mg "are_words" eF ["words"] f fd
 are_fields:∃ f fd,Gn K mg "are_fields" bn ["fields","room"] f fd
 is_field:∃ f fd,Gn K mg "is_field" cF ["field","room"] f fd
 are_rows:∃ f fd,Gn K mg "are_rows" cG ["key","items","room"] f fd
 field_kind:∃ f fd,Gn K mg "field_kind" dH ["kind","name"] f fd
 item_kind:∃ f fd,Gn K mg "item_kind" eG ["kind"] f fd
 kinds_within:∃ f fd,Gn K mg "kinds_within" cH ["kind"] f fd
 kind_many:∃ f fd,Gn K mg "kind_many" cP ["kind"] f fd
 is_sign:∃ f fd,Gn K mg "is_sign" gZ ["letter"] f fd
 is_of:∃ f fd,Gn K mg "is_of" eW ["value","kind"] f fd
 is_text_of:∃ f fd,Gn K mg "is_text_of" dI ["value","most"] f fd
 holds_tuple:∃ f fd,Gn K mg "holds_tuple" cV ["value","word"] f fd
 holds_items:∃ f fd,Gn K mg "holds_items" aW ["value","word","kind","most"] f fd
 is_record_of:∃ f fd,Gn K mg "is_record_of" bH ["value","fields"] f fd
 is_pair_of:∃ f fd,Gn K mg "is_pair_of" cc ["pair","field"] f fd
 are_keyed:∃ f fd,Gn K mg "are_keyed" ox ["items","key"] f fd
 least_value:∃ f fd,Gn K mg "least_value" bP ["kind"] f fd
 field_of:∃ f fd,Gn K mg "field_of" qg ["record","name"] f fd
 figures_of:∃ f fd,Gn K mg "figures_of" dJ ["number"] f fd
 number_of:∃ f fd,Gn K mg "number_of" oy ["text"] f fd
 nearest:∃ f fd,Gn K mg "nearest" hG ["number","low","high"] f fd
 is_factor:∃ f fd,Gn K mg "is_factor" eH ["thing"] f fd
 kind_behind:∃ f fd,Gn K mg "kind_behind" cW ["turn","kind"] f fd
 is_turn_of:∃ f fd,Gn K mg "is_turn_of" ce ["turn","kind"] f fd
 has_turn_parts:∃ f fd,Gn K mg "has_turn_parts" bN ["thing"] f fd
 most_figures:∃ f fd,Gn K mg "most_figures" cI ["low","high"] f fd
 are_led_words:∃ f fd,Gn K mg "are_led_words" aw ["forth","back","elder"] f fd
 words_behind:∃ f fd,Gn K mg "words_behind" cJ ["back"] f fd
 led_kind:∃ f fd,Gn K mg "led_kind" dM ["turn","kind"] f fd
 turned:∃ f fd,Gn K mg "turned" jC ["turn","kind","value"] f fd
 led_value:∃ f fd,Gn K mg "led_value" bQ ["turn","kind","value"] f fd
 read_number:∃ f fd,Gn K mg "read_number" kf ["text","kind"] f fd
 is_separator:∃ f fd,Gn K mg "is_separator" cK ["text"] f fd
 part_kinds:∃ f fd,Gn K mg "part_kinds" dN ["low","high","factor"] f fd
 halves:∃ f fd,Gn K mg "halves" jD ["text","separator"] f fd
 kind_looked:∃ f fd,Gn K mg "kind_looked" cX ["looks","kind"] f fd
 kind_behind_look:∃ f fd,Gn K mg "kind_behind_look" bx ["look","kind"] f fd
 is_half_look:∃ f fd,Gn K mg "is_half_look" cL ["look","kind"] f fd
 is_part_look:∃ f fd,Gn K mg "is_part_look" cM ["look","kind"] f fd
 has_look_form:∃ f fd,Gn K mg "has_look_form" bU ["look","kind","sort"] f fd
 looked:∃ f fd,Gn K mg "looked" jE ["looks","kind","value"] f fd
 value_behind_look:∃ f fd,Gn K mg "value_behind_look" bp ["look","kind","value"] f fd
 law_mixed:∃ f fd,Gn K mg "_law_mixed" eJ ["cell","k"] f fd
 law_stream:∃ f fd,Gn K mg "_law_stream" dO ["script","k"] f fd
 law_digit:∃ f fd,Gn K mg "_law_digit" eK ["row","many"] f fd
 law_leaf:∃ f fd,Gn K mg "_law_leaf" fK ["row"] f fd
 law_text:∃ f fd,Gn K mg "_law_text" fM ["row","most"] f fd
 law_number:∃ f fd,Gn K mg "_law_number" dP ["row","low","high"] f fd
 law_value:∃ f fd,Gn K mg "_law_value" bR ["row","kind"] f fd
 law_kinds:∃ f fd,Gn K mg "_law_kinds" cQ ["e"] f fd
 law_deep:∃ f fd,Gn K mg "_law_deep" dQ ["kind"] f fd
 law_look_for:∃ f fd,Gn K mg "_law_look_for" bI ["row","kind"] f fd
 law_next:∃ f fd,Gn K mg "_law_next" fN ["look","kind","value"] f fd
 law_odd:∃ f fd,Gn K mg "_law_odd" hJ ["row","kind"] f fd
 law_heard:∃ f fd,Gn K mg "_law_heard" eL ["way","looks","kind","value"] f fd
 law_refused:∃ f fd,Gn K mg "_law_refused" cY ["looks","kind","value"] f fd
 law_one:∃ f fd,Gn K mg "_law_one" hV ["row","kind","value","many"] f fd
 law:∃ f fd,Gn K mg "law" qX ["script"] f fd
 x_HandError:ExC K mg "HandError" ad.HandError
 x_BadKind:ExC K mg "BadKind" ad.BadKind
 x_BadValue:ExC K mg "BadValue" ad.BadValue
 x_BadPath:ExC K mg "BadPath" ad.BadPath
 x_BadTurn:ExC K mg "BadTurn" ad.BadTurn
 x_BadPiece:ExC K mg "BadPiece" ad.BadPiece
 x_BadVersion:ExC K mg "BadVersion" ad.BadVersion
 x_BadText:ExC K mg "BadText" ad.BadText
 x_BadQuestion:ExC K mg "BadQuestion" ad.BadQuestion
 x_NoRecord:ExC K mg "NoRecord" ad.NoRecord
 x_Taken:ExC K mg "Taken" ad.Taken
 x_NoDeed:ExC K mg "NoDeed" ad.NoDeed
 x_Full:ExC K mg "Full" ad.Full
 LETTERS:∃ t,mg "LETTERS" = some (.str "abcdefghijklmnopqrstuvwxyz" t)
 LONGEST_NAME:∃ t,mg "LONGEST_NAME" = some (.int 8 t)
 EACH:∃ t,mg "EACH" = some (.str "each" t)
 MOST_SIGNS:∃ t,mg "MOST_SIGNS" = some (.int 60 t)
 MOST_WORDS:∃ t,mg "MOST_WORDS" = some (.int 8 t)
 MOST_FIELDS:∃ t,mg "MOST_FIELDS" = some (.int 8 t)
 MOST_ITEMS:∃ t,mg "MOST_ITEMS" = some (.int 8 t)
 MOST_KINDS:∃ t,mg "MOST_KINDS" = some (.int 40 t)
 DEEPEST:∃ t,mg "DEEPEST" = some (.int 5 t)
 PART_COUNTS:∃ a,mg "PART_COUNTS" = some (.ref a)/\mY K a [("number",3),("text",2),("choice",2),("list",3),("record",2),("rows",4)]
 PERCENT:∃ t,mg "PERCENT" = some (.int 37 t)
 FIGURES:∃ t,mg "FIGURES" = some (.str "0123456789" t)
 LEAST_FACTOR:∃ t,mg "LEAST_FACTOR" = some (.int 2 t)
 GREATEST_FACTOR:∃ t,mg "GREATEST_FACTOR" = some (.int 1000 t)
 TURN_COUNTS:∃ a,mg "TURN_COUNTS" = some (.ref a)/\mY K a [("bounds",3),("scale",2),("shrink",2),("figures",2),("number",3),("words",3),("cut",2),("first",2),("one",2),("out",1),("items",2)]
 TURN_SORTS:mg "TURN_SORTS" = some (.ref 329)/\pp K 329 [("bounds",330),("scale",331),("shrink",332),("figures",333),("number",334),("words",335),("cut",336),("first",337),("out",338),("items",339)]/\xl K [(330,["number"]),(331,["number"]),(332,["number"]),(333,["number"]),(334,["text"]),(335,["choice"]),(336,["text"]),(337,["list","rows"]),(338,["list"]),(339,["list"])]
 MOST_LOOKS:∃ t,mg "MOST_LOOKS" = some (.int 8 t)
 LOOK_SORTS:∃ a,mg "LOOK_SORTS" = some (.ref a)/\px K a [("ahead","text"),("behind","text"),("parts","number"),("rest","number")]
 z_ValueError:mg "ValueError" = none
 z_abs:mg "abs" = none
 z_all:mg "all" = none
 z_bool:mg "bool" = none
 z_dict:mg "dict" = none
 z_int:mg "int" = none
 z_isinstance:mg "isinstance" = none
 z_len:mg "len" = none
 z_max:mg "max" = none
 z_min:mg "min" = none
 z_ord:mg "ord" = none
 z_range:mg "range" = none
 z_set:mg "set" = none
 z_str:mg "str" = none
 z_sum:mg "sum" = none
 z_tuple:mg "tuple" = none
 z_zip:mg "zip" = none
 exq:W.exmOne K (.ref ad.BadQuestion) (.ref ad.HandError)=some true
 ext:W.exmOne K (.ref ad.BadTurn) (.ref ad.BadTurn)=some true
 kits:(W.kitOne K (.ref ad.BadQuestion) (.ref ad.BadKind) == some false && W.kitOne K (.ref ad.BadQuestion) (.ref ad.BadValue) == some false && W.kitOne K (.ref ad.BadQuestion) (.ref ad.BadPath) == some false && W.kitOne K (.ref ad.BadQuestion) (.ref ad.BadTurn) == some false && W.kitOne K (.ref ad.BadQuestion) (.ref ad.BadPiece) == some false && W.kitOne K (.ref ad.BadQuestion) (.ref ad.BadVersion) == some false && W.kitOne K (.ref ad.BadQuestion) (.ref ad.BadText) == some false && W.kitOne K (.ref ad.BadQuestion) (.ref ad.BadQuestion) == some true && W.kitOne K (.ref ad.BadQuestion) (.ref ad.NoRecord) == some false && W.kitOne K (.ref ad.BadQuestion) (.ref ad.Taken) == some false && W.kitOne K (.ref ad.BadQuestion) (.ref ad.NoDeed) == some false && W.kitOne K (.ref ad.BadQuestion) (.ref ad.Full) == some false && W.kitOne K (.ref ad.BadQuestion) (.type "ValueError") == some true)=true
abbrev depth:Nat:=60
abbrev letters:Str:= "abcdefghijklmnopqrstuvwxyz"
def inB (c:Nat):Bool:=!(Builtin.Str.occurrences letters ⟨#[c]⟩ 0 letters.length 1).isEmpty
def cA (z:Str):Bool:=decide (1<=z.length) && decide (z.length<=8) && !decide (z= "each") && z.cps.toList.all inB
def ltS (a b:Str):Prop:=a.cps.toList < b.cps.toList
instance (a b:Str):Decidable (ltS a b):=inferInstanceAs (Decidable (a.cps.toList < b.cps.toList))
def bo (ws:List Str):Bool:=decide (1<=ws.length) && decide (ws.length<=8) && ws.all cA && decide ws.Nodup
abbrev G4:=Str×Dt×Nat×Nat
def sumN:List Nat->Nat
 | []=>0
 | n :: r=>n+sumN r
def sw:List Nat->Nat
 | []=>0
 | n :: r=>max n (sw r)
inductive FK:Nat->Nat->Dt->Prop
 | text (i:Int):0<=i->i<=60->FK 1 1 (.tup [.str "text",.int i])
 | choice (ws:List Str):bo ws=true->FK 1 1 (.tup [.str "choice",.tup (ws.map Dt.str)])
 | number (i j:Int):-1000000000000000000000000000000<=i->i<=j->j<=1000000000000000000000000000000->FK 1 1 (.tup [.str "number",.int i,.int j])
 | list {a c:Nat} {k:Dt} {i:Int}:FK a c k->0<=i->i<=8->FK (a+1) (c+1) (.tup [.str "list",k,.int i])
theorem FK.pos {a c:Nat} {d:Dt} (h:FK a c d):1<=a:=by cases h <;> lia
theorem uE {n:Nat}:∀ {l:List Nat},n∈l->n<=sw l
 | m :: l,h=>by
  show n<=max m (sw l);rcases aAm.mp h with rfl | h
  ·exact Nat.le_max_left _ _
  ·exact aAw (uE h) (Nat.le_max_right _ _)
theorem max_le {b:Nat}:∀ {l:List Nat},(∀ n∈l,n<=b)->sw l<=b
 | [],_=>aAI _
 | m :: l,h=>by
  show max m (sw l)<=b;exact Nat.max_le.mpr ⟨h m aAr,max_le λn hn=>h n (aAp _ hn)⟩
def Jj (d:Dt):Option Dt:=match d with
 | .tup [.str w,k,_]=>if w= "list" then some k else none
 | .tup [.str w,_,k,_]=>if w= "rows" then some k else none
 | _=>none
def Jk (K:W.Frag) (H:Hp) (r:Option Dt) (Q:VK):Prop:=match r with
 | none=>Q .non H
 | some e=>∀ v,IsP K H e v->Q v H
mutual
def okD:Dt->Bool
 | .int _=>true
 | .str z=>decide (z.length<=1000)
 | .tup l=>eh l
 | _=>false
def eh:List Dt->Bool
 | []=>true
 | d :: l=>okD d && eh l
end
theorem ay:∀ {l:List Dt},eh l=true->∀ d∈l,okD d=true
 | e :: l,h,d,hd=>by
  rw [eh,aAq] at h;rcases aAm.mp hd with rfl | hd
  ·exact h.1
  ·exact ay h.2 d hd
theorem jf:∀ {l:List Dt},(∀ d∈l,okD d=true)->eh l=true
 | [],_=>rfl
 | e :: l,h=>by rw [eh,h e aAr,jf λd hd=>h d (aAp _ hd)];rfl
def bz:Dt->Bool
 | .str z=>cA z
 | _=>false
def Bm:Dt->Bool
 | .int _=>true
 | _=>false
def aZ (d:Dt) (j k:Int):Bool:=match d with
 | .int i=>decide (j<=i) && decide (i<=k)
 | _=>false
def qz (d e:Dt):Bool:=match d,e with
 | .int i,.int j=>decide (-1000000000000000000000000000000<=i) && decide (i<=j) && decide (j<=1000000000000000000000000000000)
 | _,_=>false
abbrev qA:List (Str×Int):=[("number",3),("text",2),("choice",2),("list",3),("record",2),("rows",4)]
def cB:Dt->Bool
 | .tup (.str u :: l)=>decide (bL u qA=.int ((l.length+1:Nat):Int))
 | _=>false
def sx:Dt->Str
 | .str z=>z
 | _=> ""
def nG (ws:List Str):Nat:=(L2.gM (ws.map (Sum.inr:Str->Key)) (ws.map (Sum.inr:Str->Key)).length).length
def pF:Dt->Bool
 | .tup ws=>decide (1<=ws.length) && decide (ws.length<=8) && ws.all bz && decide (nG (ws.map sx)=ws.length)
 | _=>false
def aT (f:Dt->Bool):Dt->Bool
 | .tup [a,b]=>bz a && f b
 | _=>false
def nmD:Dt->Str
 | .tup [.str z,_]=>z
 | _=> ""
def Bn (ns:List Str):Bool:=(ns.zip (ns.drop 1)).all λp=>decide (ltS p.1 p.2)
def lO (f:Dt->Bool):Dt->Bool
 | .tup fs=>decide (fs.length<=8) && fs.all (aT f) && Bn (fs.map nmD)
 | _=>false
def nI (key:Dt):Dt->Bool
 | .tup [o,_]=>eqD o key
 | _=>false
def fh (fs:List Dt) (key:Dt):Option Dt:=match fs.find? (nI key) with
 | some (.tup [_,k])=>some k
 | _=>none
def xm:Option Dt->Bool
 | some (.tup (.str u :: _))=>decide (u= "number") || decide (u= "text")
 | _=>false
def fj (f:Dt->Bool) (key items:Dt):Bool:=f items && (match items with
 | .tup [.str u,.tup fs]=>decide (u= "record") && xm (fh fs key)
 | _=>false)
def ax:Nat->Dt->Bool
 | 0,_=>false
 | n+1,.tup [.str u,a]=>if u= "text" then aZ a 0 60 else if u= "choice" then pF a else if u= "record" then lO (ax n) a else false
 | n+1,.tup [.str u,a,b]=>if u= "number" then qz a b else if u= "list" then ax n a && aZ b 0 8 else false
 | n+1,.tup [.str u,a,b,c]=>if u= "rows" then fj (ax n) a b && aZ c 0 8 else false
 | _,_=>false
def pG (K:W.Frag) (_:Ads):Sp:=λvs H Q _=>∃ (d:Dt) (x:V),vs=[x]/\IsP K H d x/\okD d=true/\∀ H',Same H H'->Q (.bl (bz d)) H'
def nJ (K:W.Frag) (_:Ads):Sp:=λvs H Q _=>∃ (d:Dt) (x:V),vs=[x]/\IsP K H d x/\okD d=true/\Q (.bl (Bm d)) H
def fF (K:W.Frag) (_:Ads):Sp:=λvs H Q _=>∃ (d:Dt) (x:V) (j k:Int),vs=[x,.int j,.int k]/\IsP K H d x/\okD d=true/\Q (.bl (aZ d j k)) H
def jQ (K:W.Frag) (_:Ads):Sp:=λvs H Q _=>∃ (d e:Dt) (x y:V),vs=[x,y]/\IsP K H d x/\IsP K H e y/\okD d=true/\okD e=true/\Q (.bl (qz d e)) H
def lP (K:W.Frag) (_:Ads):Sp:=λvs H Q _=>∃ (d:Dt) (x:V),vs=[x]/\IsP K H d x/\okD d=true/\Q (.bl (cB d)) H
def lQ (K:W.Frag) (_:Ads):Sp:=λvs H Q _=>∃ (d:Dt) (x:V),vs=[x]/\IsP K H d x/\okD d=true/\∀ H',Same H H'->Q (.bl (pF d)) H'
def lR (K:W.Frag) (_:Ads):Sp:=λvs H Q _=>∃ (a c:Nat) (d:Dt) (x:V),vs=[x]/\IsP K H d x/\FK a c d/\Jk K H (Jj d) Q
def lS (_:W.Frag) (_:Ads):Sp:=λvs H Q _=>∃ i k:Int,vs=[.int i,.int k]/\∀ c,Q (.int c) H
def fZ (_:W.Frag) (_:Ads):Sp:=λvs H Q _=>∃ (r:Addr) (n m:Int),vs=[.ref r,.int m]/\H r=some (.lst [.int n])/\0 < m/\m < 10000000000000000000000000000000000000000000000000000000000000/\Q (.int (n % m)) (upd H r (.lst [.int (n / m)]))
def Jl (K:W.Frag):Sp:=λvs H Q _=>∃ (a:Addr) (ns:List Int),vs=[.ref a]/\SqL K H a (ns.map V.int)/\ns.length<=63/\∀ H',Q (.bl true) H'
abbrev Bo (K:W.Frag) (_:Ads):Sp:=Jl K
theorem small {n:Nat} (h:n<=1000):n<=sizeLine:=aAM (am h)
theorem ci {α β:Type} {xs:List α} {i:Nat} {x:α} (f:α->β) (h:xs[i]?=some x):(xs.take i).map f++[f x]=(xs.take (i+1)).map f:=by
 rw [aBm,h,aA4];rfl
section
variable {P:Program} {w:World} {K:W.Frag} {mg:Str->Option Value} {base:Heap} {ad:Ads}
theorem Bp {K:W.Frag} {H:Hp} {l:Addr} {z:Str} {Q:VK} {nm:L2.St} (hl:H l=none) (hz:z.length<=sizeLine) (q:∀ H',Same H H'->Q (.bl (z.cps.toList.all inB)) H')
  (hn:nm=[none]):∃ W:Nat->Nat->List V->L2.St->Hp->Prop,(∃ m,W 0 m [] nm (upd H l (.lst [])))/\∀ i m ys σ' H',W i m ys σ' H'->((Its z).stop i H'/\(λ(v:V) (H':Hp)=>∃ p ys,[v]=[V.ref p]/\true=true/\SqL K H' p (bls ys)/\Q (.bl (ys.all id)) H') (.ref l) H') \/
   ((Its z).go i H'/\∀ x H'',(Its z).yld i H' x H''->dX 0 x σ' H'' λσ2 H2=>cEl (tOp (λx y H Q=>∃ i j,x=.str i/\y=.str j/\Q (.bl (!(Builtin.Str.occurrences j i 0 j.length 1).isEmpty)) H) (mD 0) (tC (.str letters))) ys l σ2 H2 λys' σ3 H3=>∃ m',m' < m/\W (i+1) m' ys' σ3 H3):=by
 subst hn;refine mU (Q:=λ(v:V) (H':Hp)=>∃ p ys,[v]=[V.ref p]/\true=true/\SqL K H' p (bls ys)/\Q (.bl (ys.all id)) H') (λi ys σ H'=>ys=bls ((z.cps.toList.take i).map inB)/\H'=upd H l (.lst ys)/\σ.length=1) ⟨rfl,rfl,rfl⟩ ?_ ?_
 ·rintro i c ys σ H1 N hc ⟨rfl,rfl,hσ⟩ next;have hc':z.cps.toList[i]?=some c:=by rw [Array.getElem?_toList];exact hc
  have hi:i < z.cps.toList.length:=(aAc.mp hc').1;have hlen:(bls ((z.cps.toList.take i).map inB)).length < sizeLine:=by
   have:z.length=z.cps.toList.length:=by simp [Str.length]
   simp only [bls,aAe,aAB];lia
  match σ,hσ with
  | [_],_ =>
   refine ⟨.str ⟨#[c]⟩,rfl,_,_,rfl,rfl,ac,hlen,next _ _ _ ⟨?_,vp,rfl⟩⟩;show bls ((z.cps.toList.take i).map inB)++[V.bl (inB c)]=bls ((z.cps.toList.take (i+1)).map inB);unfold bls;rw [aAu,aAu];exact ci (V.bl ∘ inB) hc'
 ·rintro ys σ H1 ⟨rfl,rfl,hσ⟩;refine ⟨l,(z.cps.toList).map inB,rfl,rfl,SqL.of ?_,?_⟩
  ·rw [ac];have:z.cps.toList.take z.cps.size=z.cps.toList:=aAK (by simp);rw [this]
  ·rw [aBe];exact q _ (af hl _)
theorem jg (T:Tx K mg ad) {f:Addr} {fd:FuncData} (F:Gn K mg "is_name" gY ["text"] f fd):FnOk P w K mg base CX0 1 f fd ["text"] (pG K ad):=by
 obtain ⟨t_LONGEST_NAME,c_LONGEST_NAME⟩:=T.LONGEST_NAME;obtain ⟨t_EACH,c_EACH⟩:=T.EACH;obtain ⟨t_LETTERS,c_LETTERS⟩:=T.LETTERS;refine F.F.ok qh (λvs H Q E h=>?_) (λcdv A outer s H vs Q E hr h=>?_)
 ·obtain ⟨d,x,rfl,_⟩:=h
  rfl
 obtain ⟨d,x,rfl,hd,ok,q⟩:=h;refine ⟨_,(5,(12,PW.pt (@pw_or _ _ _ _ _ _ _ (@pt_not _ _ _ _ (@pt_val _ _ _ (pe_callB (aj (K:=K) rfl) rfl T.z_isinstance boot_isinstance (10,aH rfl T.z_str boot_str)) (by intro _;rfl))) (@pw_or1 _ _ _ _ (@pt_not _ _ _ _ (pt_chain op_le op_le pe_int (pe_callB call_len_str rfl T.z_len PySem.boot_len (@pa1 _ _ _ (pv 0) (0))) (pe_gint rfl c_LONGEST_NAME)))))),(3,(4,pe_and (pe_cmpR op_ne (pv 0) (pe_gstr rfl c_EACH) (nomark _)) (pe_one (pe_callB (call_allN (K:=K) rfl rfl) rfl T.z_all boot_all (@pa1 _ _ _ (aG rfl (cs0 (NL:=["letter"]) rfl (by decide +kernel) (by decide +kernel)) (tJ (pv 0)) (λ_ _ _ _=>(ai (i:=0) (show List.Nodup (α:=Str) ["letter"] by decide +kernel) rfl (Or.inl rfl))) (λ_ _ _ _=>(pe_cmpR rl (pv 0) (pe_gstr rfl c_LETTERS) rfl))) (0))))))),?_⟩
 cases hd with
 | non=>cases ok
 | bl=>cases ok
 | int=>exact ⟨_,rfl,_,_,_,rfl,.int_str,_,rfl,aq (aq (q H (Same.refl H)))⟩
 | tup ht _ _=>exact ⟨_,rfl,_,_,_,rfl,.tup_str ht,_,rfl,aq (aq (q H (Same.refl H)))⟩
 | @str z =>
  have hz:z.length<=sizeLine:=small (of_decide_eq_true ok);replace q:∀ H',Same H H'->Q (.bl (cA z)) H':=q;refine ⟨_,rfl,_,_,_,rfl,.str_str,_,rfl,aA ?_⟩;refine ⟨_,rfl,z,rfl,hz,_,_,rfl,rfl,_,rfl,?_⟩;refine aF (λc1=>?_) (λc1=>?_)
  ·refine ⟨_,_,rfl,rfl,_,rfl,?_⟩;refine aF (λc2=>?_) (λc2=>?_)
   ·have e:cA z=false:=by
     have c2':¬ ((z.length:Int)<=8):=by simpa using c2
     have:¬ z.length<=8:=by lia
     simp [cA,this]
    rw [<- e];exact q H (Same.refl H)
   ·have l1:1<=z.length:=by
     have:(1:Int)<=z.length:=of_decide_eq_true c1;lia
    have l2:z.length<=8:=by
     have:((z.length:Int)<=8):=by simpa using c2
     lia
    refine ⟨_,rfl,rfl,_,rfl,?_⟩;refine aF (λc3=>?_) (λc3=>?_)
    ·refine ⟨_,rfl,z,rfl,λl hl=>Bp (K:=K) hl hz (λH' g=>?_) rfl⟩;have n3:¬ (z= "each"):=by simpa using c3
     have e:cA z=z.cps.toList.all inB:=by simp [cA,l1,l2,n3]
     rw [<- e];exact q H' g
    ·have n3:z= "each" :=by simpa using c3
     have e:cA z=false:=by simp [cA,n3]
     rw [<- e];exact q H (Same.refl H)
  ·refine ⟨_,rfl,aq ?_⟩;have e:cA z=false:=by
    have:¬ (1:Int)<=z.length:=by simpa using c1
    have:¬ 1<=z.length:=by lia
    simp [cA,this]
   rw [<- e];exact q H (Same.refl H)
theorem ao {K:W.Frag} {H:Hp} {w:Str} {v:V} (h:IsP K H (.str w) v):v=.str w:=by cases h;rfl
theorem aC {A B:Prop} {x:V} (h:A):if decide (x=x)=true then A else B:=by rw [if_pos (decide_eq_true rfl)];exact h
theorem iteN {A B:Prop} {x y:V} (n:x≠y) (h:B):if decide (x=y)=true then A else B:=by rw [if_neg (λc=>n (of_decide_eq_true c))];exact h
theorem ii {A B:Prop} {x y:V} (n:x≠y) (h:A):if (!decide (x=y))=true then A else B:=by rw [if_pos (by rw [decide_eq_false n];rfl)];exact h
theorem kN {A B:Prop} {x:V} (h:B):if (!decide (x=x))=true then A else B:=by rw [if_neg (by rw [decide_eq_true rfl];decide)];exact h
theorem ae {a b:Str} (h:a≠b):V.str a≠V.str b:=λe=>h (V.str.inj e)
theorem lT (T:Tx K mg ad) {f:Addr} {fd:FuncData} (F:Gn K mg "item_kind" eG ["kind"] f fd):FnOk P w K mg base CX0 1 f fd ["kind"] (lR K ad):=by
 refine F.F.ok mr (λvs H Q E h=>?_) (λcdv A outer s H vs Q E hr h=>?_)
 ·obtain ⟨a,c,d,x,rfl,_⟩:=h
  rfl
 obtain ⟨a,c,d,x,rfl,hd,gk,q⟩:=h;refine ⟨_,(5,@ps_if _ _ _ _ _ _ _ _ (pt_cmpR op_eq (6) pe_str (nomark _)) (3,(4,(6))) pss_nil,(5,@ps_if _ _ _ _ _ _ _ _ (pt_cmpR op_eq (6) pe_str (nomark _)) (3,(4,(6))) pss_nil,(3,(4,pe_non)))),?_⟩
 cases gk with
 | list g =>
  refine ⟨_,rfl,_,_,_,hd,rfl,rfl,isS ?_⟩;refine ⟨rfl,_,rfl,aC ⟨_,rfl,_,_,_,hd,rfl,rfl,λv hv=>?_⟩⟩;exact q v hv
 | _ =>
  refine ⟨_,rfl,_,_,_,hd,rfl,rfl,isS ?_⟩;refine ⟨rfl,_,rfl,iteN (ae (1)) ⟨_,rfl,_,_,_,hd,rfl,rfl,λv hv=>?_⟩⟩;obtain rfl:=ao hv;exact ⟨rfl,_,rfl,iteN (ae (1)) q⟩
theorem er (T:Tx K mg ad) {f:Addr} {fd:FuncData} (F:Gn K mg "is_whole" fJ ["thing"] f fd):FnOk P w K mg base CX0 1 f fd ["thing"] (nJ K ad):=by
 refine F.F.ok oA (λvs H Q E h=>?_) (λcdv A outer s H vs Q E hr h=>?_)
 ·obtain ⟨d,x,rfl,_⟩:=h
  rfl
 obtain ⟨d,x,rfl,hd,ok,q⟩:=h;refine ⟨_,(3,(4,pe_and (pe_callB (aj (K:=K) rfl) rfl T.z_isinstance boot_isinstance (10,aH rfl T.z_int boot_int)) (pe_one (AN (pe_callB (aj (K:=K) rfl) rfl T.z_isinstance boot_isinstance (10,aH rfl T.z_bool boot_bool)))))),?_⟩
 cases hd with
 | non=>cases ok
 | bl=>cases ok
 | int=>exact ⟨_,rfl,_,_,_,rfl,.int_int,_,rfl,aq ⟨_,rfl,_,_,_,rfl,.int_bool,_,rfl,q⟩⟩
 | str=>exact ⟨_,rfl,_,_,_,rfl,.str_int,_,rfl,aA q⟩
 | tup ht _ _=>exact ⟨_,rfl,_,_,_,rfl,.tup_int ht,_,rfl,aA q⟩
theorem bw (T:Tx K mg ad) {f:Addr} {fd:FuncData} (F:Gn K mg "is_whole_within" bG ["thing","low","high"] f fd):FnOk P w K mg base CX0 2 f fd ["thing","low","high"] (fF K ad):=by
 obtain ⟨_,_,Ke⟩:=T.is_whole;have Kl:=er (P:=P) (w:=w) (base:=base) T Ke;refine F.F.ok fP (λvs H Q E h=>?_) (λcdv A outer s H vs Q E hr h=>?_)
 ·obtain ⟨d,x,j,k,rfl,_⟩:=h
  rfl
 obtain ⟨d,x,j,k,rfl,hd,ok,q⟩:=h;refine ⟨_,(3,(4,pe_and (7,Ke,Kl,@pa1 _ _ _ (pv 0) (0)) (pe_one (mF op_le op_le (pv 1) (pv 0) (pv 2))))),?_⟩;refine ⟨_,rfl,d,x,rfl,hd,ok,?_⟩
 cases hd with
 | non=>cases ok
 | bl=>cases ok
 | str=>exact ⟨_,rfl,aA q⟩
 | tup ht _ _=>exact ⟨_,rfl,aA q⟩
 | @int i =>
  replace q:Q (.bl (decide (j<=i) && decide (i<=k))) H:=q;refine ⟨_,rfl,aq ?_⟩;refine ⟨_,rfl,_,rfl,_,_,rfl,rfl,_,rfl,?_⟩;refine aF (λc=>⟨_,rfl,_,_,rfl,rfl,?_⟩) (λc=>?_)
  ·show Q (.bl (decide (i<=k))) H;rw [c,aAT] at q;exact q
  ·rw [aBd.mpr c,aAv] at q;exact q
theorem at0 {α:Type} (c:α) (r:List α):atI (c :: r) 0=some c:=by
 have e:atI (c :: r) ((0:Nat):Int)=some c:=eS (0);exact e
theorem xn:(10:Int) ^ (30:Int).toNat=1000000000000000000000000000000:=by decide +kernel
theorem fm (T:Tx K mg ad) {f:Addr} {fd:FuncData} (F:Gn K mg "are_bounds" dG ["low","high"] f fd):FnOk P w K mg base CX0 2 f fd ["low","high"] (jQ K ad):=by
 obtain ⟨_,_,Ke⟩:=T.is_whole;have Kl:=er (P:=P) (w:=w) (base:=base) T Ke;refine F.F.ok kg (λvs H Q E h=>?_) (λcdv A outer s H vs Q E hr h=>?_)
 ·obtain ⟨d,e,x,y,rfl,_⟩:=h
  rfl
 obtain ⟨d,e,x,y,rfl,hd,he,ok,ok',q⟩:=h;refine ⟨_,(5,(12,PW.pt (@pw_or _ _ _ _ _ _ _ (@pt_not _ _ _ _ (@pt_val _ _ _ (7,Ke,Kl,@pa1 _ _ _ (pv 0) (0)) (by intro _;rfl))) (@pw_or1 _ _ _ _ (@pt_not _ _ _ _ (@pt_val _ _ _ (7,Ke,Kl,@pa1 _ _ _ (pv 1) (0)) (by intro _;rfl)))))),(3,(4,pe_chain3 op_le op_le op_le (@pe_un _ _ _ _ _ _ un_neg (@pe_op _ _ _ _ _ _ _ _ op_pow pe_int pe_int)) (pv 0) (pv 1) (@pe_op _ _ _ _ _ _ _ _ op_pow pe_int pe_int)))),?_⟩;refine ⟨_,rfl,d,x,rfl,hd,ok,_,rfl,?_⟩
 cases hd with
 | non=>cases ok
 | bl=>cases ok
 | str=>exact aq (aq q)
 | tup ht _ _=>exact aq (aq q)
 | @int i =>
  refine aA ⟨_,rfl,e,y,rfl,he,ok',_,rfl,?_⟩
  cases he with
  | non=>cases ok'
  | bl=>cases ok'
  | str=>exact aq q
  | tup ht _ _=>exact aq q
  | @int j =>
   replace q:Q (.bl (decide (-1000000000000000000000000000000<=i) && decide (i<=j) && decide (j<=1000000000000000000000000000000))) H:=q;refine aA ?_;refine ⟨_,_,rfl,rfl,⟨by decide,(1),(1)⟩,_,rfl,_,rfl,_,_,rfl,rfl,_,rfl,?_⟩;rw [xn];refine aF (λc=>⟨_,rfl,_,_,rfl,rfl,_,rfl,?_⟩) (λc=>?_)
   ·replace c:decide (-1000000000000000000000000000000<=i)=true:=c;rw [c,aAT] at q;refine aF (λc=>?_) (λc=>?_)
    ·refine ⟨_,_,rfl,rfl,⟨by decide,(1),(1)⟩,_,_,rfl,rfl,?_⟩;rw [xn];replace c:decide (i<=j)=true:=c;rw [c,aAT] at q;exact q
    ·replace c:¬ decide (i<=j)=true:=c;rw [aBd.mpr c,aAv] at q;exact q
   ·replace c:¬ decide (-1000000000000000000000000000000<=i)=true:=c;rw [aBd.mpr c,aAv,aAv] at q;exact q
theorem gO (u:Str) (n:Int):∀ l:List (Str×Int),AU (bL u l) (.int n)=true
 | []=>rfl
 | (x,i) :: D=>by
  unfold bL
  split
  ·rfl
  ·exact gO u n D
theorem lU (T:Tx K mg ad) {f:Addr} {fd:FuncData} (F:Gn K mg "has_parts" eE ["thing"] f fd):FnOk P w K mg base CX0 1 f fd ["thing"] (lP K ad):=by
 obtain ⟨t_PART_COUNTS,c_PART_COUNTS,d_PART_COUNTS⟩:=T.PART_COUNTS;refine F.F.ok mo (λvs H Q E h=>?_) (λcdv A outer s H vs Q E hr h=>?_)
 ·obtain ⟨d,x,rfl,_⟩:=h
  rfl
 obtain ⟨d,x,rfl,hd,ok,q⟩:=h;refine ⟨_,(5,(12,PW.pt (@pw_or _ _ _ _ _ _ _ (@pt_not _ _ _ _ (@pt_val _ _ _ (pe_callB (aj (K:=K) rfl) rfl T.z_isinstance boot_isinstance (10,aH rfl T.z_tuple boot_tuple)) (by intro _;rfl))) (@pw_or _ _ _ _ _ _ _ (pt_cmpR op_eq (pe_callB (call_lenDN (K:=K) rfl) rfl T.z_len PySem.boot_len (@pa1 _ _ _ (pv 0) (0))) pe_int (nomark _)) (@pw_or1 _ _ _ _ (@pt_not _ _ _ _ (@pt_val _ _ _ (pe_callB (aj (K:=K) rfl) rfl T.z_isinstance boot_isinstance (9,(6),aH rfl T.z_str boot_str)) (by intro _;rfl))))))),(3,(4,pe_cmpR op_eq (pe_kget d_PART_COUNTS rfl c_PART_COUNTS (@pa1 _ _ _ (6) (0))) (pe_callB (call_lenDN (K:=K) rfl) rfl T.z_len PySem.boot_len (@pa1 _ _ _ (pv 0) (0))) (nomark _)))),?_⟩
 cases d with
 | non=>cases ok
 | bl=>cases ok
 | int i =>
  cases hd
  exact ⟨_,rfl,_,_,_,rfl,.int_tuple,_,rfl,aq (aq q)⟩
 | str z =>
  cases hd
  exact ⟨_,rfl,_,_,_,rfl,.str_tuple,_,rfl,aq (aq q)⟩
 | tup l =>
  obtain ⟨a,xs,rfl,ha,pa,ra⟩:=id hd.unref;refine ⟨_,rfl,_,_,_,rfl,.tup_tuple ha,_,rfl,aA ?_⟩;refine ⟨_,rfl,_,_,rfl,hd.d,rfl,_,rfl,?_⟩
  cases l with
  | nil=>exact aC (aq q)
  | cons e l =>
   refine iteN (λz=>?_) ?_
   ·injection z with z
    rw [aAo] at z;lia
   have oke:=ay ok e aAr;refine ⟨_,rfl,_,_,_,hd,rfl,at0 _ _,λv hv=>?_⟩
   cases e with
   | non=>cases oke
   | bl=>cases oke
   | int i =>
    cases hv
    exact ⟨_,_,_,rfl,.int_str,_,rfl,aq q⟩
   | tup l =>
    obtain ⟨a1,xs1,rfl,ha1,_,_⟩:=id hv.unref;exact ⟨_,_,_,rfl,.tup_str ha1,_,rfl,aq q⟩
   | str u =>
    obtain rfl:=ao hv;refine ⟨_,_,_,rfl,.str_str,_,rfl,aA ?_⟩;refine ⟨_,rfl,_,_,_,hd,rfl,at0 _ _,isS ?_⟩;refine ⟨_,rfl,_,rfl,_,_,rfl,hd.d,gO u _ _,q⟩
theorem jh:∀ {l:List Dt},l.all bz=true->l=(l.map sx).map Dt.str
 | [],_=>rfl
 | d :: l,h=>by
  rw [aBD,aAq] at h;rw [aAS,aAS,<- jh h.2]
  cases d with
  | str z=>rfl
  | _=>exact absurd h.1 aAj
theorem aN {K:W.Frag} {H:Hp}:∀ {ws:List Str} {xs:List V},IsPs K H (ws.map Dt.str) xs->xs=ws.map V.str
 | [],xs,h=>by cases h;rfl
 | w :: ws,xs,h=>by
  cases h with
  | cons h1 h2=>rw [ao h1,aN h2];rfl
theorem wq (m n:Nat):decide (V.int (m:Int)=V.int (n:Int))=decide (m=n):=by
 rw [aAV];simp;lia
theorem gc (T:Tx K mg ad) {f:Addr} {fd:FuncData} (F:Gn K mg "are_words" eF ["words"] f fd):FnOk P w K mg base CX0 2 f fd ["words"] (lQ K ad):=by
 obtain ⟨_,_,KJ⟩:=T.is_name;have Lc:=jg (P:=P) (w:=w) (base:=base) T KJ;obtain ⟨t_MOST_WORDS,c_MOST_WORDS⟩:=T.MOST_WORDS;refine F.F.ok mq (λvs H Q E h=>?_) (λcdv A outer s H vs Q E hr h=>?_)
 ·obtain ⟨d,x,rfl,_⟩:=h
  rfl
 obtain ⟨d,x,rfl,hd,ok,q⟩:=h;refine ⟨_,(5,(12,PW.pt (@pw_or _ _ _ _ _ _ _ (@pt_not _ _ _ _ (@pt_val _ _ _ (pe_callB (aj (K:=K) rfl) rfl T.z_isinstance boot_isinstance (10,aH rfl T.z_tuple boot_tuple)) (by intro _;rfl))) (@pw_or1 _ _ _ _ (@pt_not _ _ _ _ (pt_chain op_le op_le pe_int (pe_callB (call_lenDN (K:=K) rfl) rfl T.z_len PySem.boot_len (@pa1 _ _ _ (pv 0) (0))) (pe_gint rfl c_MOST_WORDS)))))),(3,(4,pe_and (pe_callB (call_allN (K:=K) rfl rfl) rfl T.z_all boot_all (@pa1 _ _ _ (aG rfl (cs0 (NL:=["word"]) rfl (by decide +kernel) (by decide +kernel)) (aM (K:=K) rfl (pv 0)) (λ_ _ _ _=>(ai (i:=0) (show List.Nodup (α:=Str) ["word"] by decide +kernel) rfl (Or.inl rfl))) (λ_ _ _ _=>(7,KJ,Lc,@pa1 _ _ _ (pv 0) (0)))) (0))) (pe_one (pe_cmpR op_eq (pe_callB rO rfl T.z_len PySem.boot_len (@pa1 _ _ _ (pe_callTy (rN rfl) rfl T.z_set boot_set (@pa1 _ _ _ (pv 0) (0))) (0))) (pe_callB (call_lenDN (K:=K) rfl) rfl T.z_len PySem.boot_len (@pa1 _ _ _ (pv 0) (0))) (nomark _)))))),?_⟩
 cases d with
 | non=>cases ok
 | bl=>cases ok
 | int i =>
  cases hd
  exact ⟨_,rfl,_,_,_,rfl,.int_tuple,_,rfl,aq (aq (q H (Same.refl H)))⟩
 | str z =>
  cases hd
  exact ⟨_,rfl,_,_,_,rfl,.str_tuple,_,rfl,aq (aq (q H (Same.refl H)))⟩
 | tup ds =>
  obtain ⟨a,xs,rfl,hT,pa,ra⟩:=id hd.unref;have el:=ra.length;replace q:∀ H',Same H H'->Q (.bl (decide (1<=ds.length) && decide (ds.length<=8) && ds.all bz && decide (nG (ds.map sx)=ds.length))) H':=q;refine ⟨_,rfl,_,_,_,rfl,.tup_tuple hT,_,rfl,aA ?_⟩;refine ⟨_,rfl,_,_,rfl,hd.d,_,_,rfl,rfl,_,rfl,aF (λc1=>?_) (λc1=>?_)⟩
  ·have l1:1<=ds.length:=by
    have:(1:Int)<=ds.length:=of_decide_eq_true c1;lia
   refine ⟨_,_,rfl,rfl,_,rfl,aF (λc2=>?_) (λc2=>?_)⟩
   ·have l2:¬ ds.length<=8:=by
     have c2':¬ ((ds.length:Int)<=8):=by simpa using c2
     lia
    rw [decide_eq_false l2,aBB,aAv,aAv] at q;exact q H (Same.refl H)
   ·have l2:ds.length<=8:=by
     have:((ds.length:Int)<=8):=by simpa using c2
     lia
    rw [decide_eq_true l1,decide_eq_true l2,aAT,aAT] at q;refine ⟨_,rfl,a,rfl,⟨_,hT⟩,λl hln=>?_⟩;refine aR (K:=K) (xs:=xs) (λi ys σ H'=>ys=bls ((ds.take i).map bz)/\Same H H'/\H' l=some (.lst ys)/\σ.length=1) ⟨rfl,af hln _,ac,rfl⟩ (λi ys σ H' _ r=>r.2.1.tup hT) ?_ ?_
    ·rintro i y ys σ H1 N hy ⟨rfl,g,e1,hσ⟩ next;obtain ⟨d,hdi,hp⟩:=ra.get' hy;have nx:bls ((ds.take i).map bz)++[V.bl (bz d)]=bls ((ds.take (i+1)).map bz):=by
      show List.map V.bl _++[V.bl (bz d)]=List.map V.bl _;rw [aAu,aAu];exact ci (V.bl ∘ bz) hdi
     have hlen:(bls ((ds.take i).map bz)).length < sizeLine:=by
      simp only [bls,aAe,aAB];exact am (by lia)
     match σ,hσ with
     | [_],_=>exact ⟨_,rfl,d,y,rfl,hp.same g,ay ok d (aAs hdi),λH2 g2=>⟨g2 _ _ e1,hlen,next _ _ _ ⟨nx,aK hln (g.trans g2),ac,rfl⟩⟩⟩
    ·rintro ys σ H1 ⟨rfl,g,e1,_⟩;rw [<- el,aAR] at e1;refine ⟨l,ds.map bz,rfl,rfl,SqL.of e1,_,rfl,?_⟩;have ea:(ds.map bz).all id=ds.all bz:=by rw [aBe];rfl
     rw [ea]
     cases hb:ds.all bz with
     | false =>
      rw [hb,aAv] at q;exact aA (q H1 g)
     | true =>
      rw [hb,aAT] at q;have es:=jh hb;rw [es] at ra;have ex:=aN ra;subst ex;refine aq ?_;refine ⟨_,rfl,a,(ds.map sx).map Sum.inr,rfl,by rw [aAu];exact g.tup hT,by rw [aAe,aAe];lia,λp hp=>?_⟩;refine ⟨p,_,rfl,ac,?_⟩;refine ⟨_,rfl,_,_,rfl,((hd.same g).same (af hp _)).d,rfl,?_⟩;rw [wq];exact q _ (g.trans (af hp _))
  ·have l1:¬ 1<=ds.length:=by
    have:¬ (1:Int)<=ds.length:=by simpa using c1
    lia
   refine ⟨_,rfl,aq ?_⟩;rw [decide_eq_false l1,aAv,aAv,aAv] at q;exact q H (Same.refl H)
def nK (K:W.Frag) (n:Nat):Sp:=λvs H Q _=>∃ (r:Nat) (d:Dt) (x:V),r < n/\vs=[x,.int r]/\IsP K H d x/\okD d=true/\∀ H',Same H H'->Q (.bl (ax r d)) H'
def uF (K:W.Frag) (n:Nat):Sp:=λvs H Q _=>∃ (r:Nat) (d:Dt) (x:V),r < n/\vs=[x,.int r]/\IsP K H d x/\okD d=true/\∀ H',Same H H'->Q (.bl (aT (ax r) d)) H'
def qB (K:W.Frag) (n:Nat):Sp:=λvs H Q _=>∃ (r:Nat) (d:Dt) (x:V),r < n/\vs=[x,.int r]/\IsP K H d x/\okD d=true/\∀ H',Same H H'->Q (.bl (lO (ax r) d)) H'
def uG (K:W.Frag) (n:Nat):Sp:=λvs H Q _=>∃ (r:Nat) (d e:Dt) (x y:V),r < n/\vs=[x,y,.int r]/\IsP K H d x/\IsP K H e y/\okD d=true/\okD e=true/\∀ H',Same H H'->Q (.bl (fj (ax r) d e)) H'
theorem nL (T:Tx K mg ad) {f ff:Addr} {fd fdf:FuncData} (n:Nat) (F:Gn K mg "is_field" cF ["field","room"] f fd) (Kf:Gn K mg "is_formed" bA ["thing","room"] ff fdf)
  (Ki:FnOk P w K mg base CX0 (3*n+3) ff fdf ["thing","room"] (nK K n)):FnOk P w K mg base CX0 (3*n+3+1) f fd ["field","room"] (uF K n):=by
 obtain ⟨_,_,KJ⟩:=T.is_name;have Lc:=jg (P:=P) (w:=w) (base:=base) T KJ;refine F.F.ok oB (λvs H Q E h=>?_) (λcdv A outer s H vs Q E hr h=>?_)
 ·obtain ⟨r,d,x,_,rfl,_⟩:=h
  rfl
 obtain ⟨r,d,x,hrn,rfl,hd,ok,q⟩:=h;refine ⟨_,(5,(12,PW.pt (@pw_or _ _ _ _ _ _ _ (@pt_not _ _ _ _ (@pt_val _ _ _ (pe_callB (aj (K:=K) rfl) rfl T.z_isinstance boot_isinstance (10,aH rfl T.z_tuple boot_tuple)) (by intro _;rfl))) (@pw_or1 _ _ _ _ (pt_cmpR op_ne (pe_callB (call_lenDN (K:=K) rfl) rfl T.z_len PySem.boot_len (@pa1 _ _ _ (pv 0) (0))) pe_int (nomark _))))),(3,(4,pe_and (7,KJ,Lc,@pa1 _ _ _ (6) (0)) (pe_one (7,Kf,Ki,(9,(6),pv 1)))))),?_⟩
 cases d with
 | non=>cases ok
 | bl=>cases ok
 | int i =>
  cases hd
  exact ⟨_,rfl,_,_,_,rfl,.int_tuple,_,rfl,aq (aq (q H (Same.refl H)))⟩
 | str z =>
  cases hd
  exact ⟨_,rfl,_,_,_,rfl,.str_tuple,_,rfl,aq (aq (q H (Same.refl H)))⟩
 | tup l =>
  obtain ⟨a,xs,rfl,ha,pa,ra⟩:=id hd.unref;refine ⟨_,rfl,_,_,_,rfl,.tup_tuple ha,_,rfl,aA ?_⟩;refine ⟨_,rfl,_,_,rfl,hd.d,rfl,_,rfl,?_⟩
  by_cases h2:l.length=2
  ·match l,h2 with
   | [e,e'],_ =>
    refine kN ?_;refine ⟨_,rfl,_,_,_,hd,rfl,rfl,λv hv=>?_⟩;refine ⟨e,v,rfl,hv,ay ok e aAr,λH1 g1=>?_⟩;replace q:∀ H',Same H H'->Q (.bl (bz e && ax r e')) H':=q;refine ⟨_,rfl,?_⟩
    cases hb:bz e with
    | false =>
     rw [hb,aAv] at q;exact aA (q H1 g1)
    | true =>
     rw [hb,aAT] at q;refine aq ?_;refine ⟨_,rfl,_,_,_,hd.same g1,rfl,rfl,λv hv=>?_⟩;exact ⟨_,rfl,r,e',v,hrn,rfl,hv,ay ok e' (aAp _ aAr),λH2 g2=>q H2 (g1.trans g2)⟩
  ·have e0:aT (ax r) (.tup l)=false:=by
    unfold aT
    split
    ·rename_i h;injection h with h;subst h;exact absurd rfl h2
    ·rfl
   rw [e0] at q;refine ii (λz=>?_) (q H (Same.refl H));injection z with z
   lia
theorem kO {K:W.Frag} {H:Hp} {a b:Dt} {v:V} (h:IsP K H (.tup [a,b]) v):∃ c x y,v=.ref c/\SqT K H c [x,y]/\IsP K H a x/\IsP K H b y:=by
 obtain ⟨c,xs,rfl,hc,pc,rc⟩:=h.unref
 cases rc with
 | cons r1 rc =>
  cases rc with
  | cons r2 rc =>
   cases rc
   exact ⟨c,_,_,rfl,hc,r1,r2⟩
theorem fG {f:Dt->Bool} {d:Dt} (h:aT f d=true):∃ z k,d=.tup [.str z,k]/\cA z=true/\f k=true:=by
 unfold aT at h
 split at h
 ·rw [aAq] at h
  rename_i a b
  cases a with
  | str z=>exact ⟨z,b,rfl,h.1,h.2⟩
  | _=>exact absurd h.1 aAj
 ·cases h
theorem sy (xs:List V):kZ xs (some 1) none=xs.drop 1:=by
 unfold kZ
 cases xs with
 | nil=>rfl
 | cons x r =>
  have e1:HT.sIx (x :: r).length 0 (some 1)=1:=by
   have:=HT.sIx_nat (x :: r).length 0 1;rw [aAo] at this ⊢;rw [show (1:Int)=((1:Nat):Int) from rfl,this];lia
  have e2:HT.sIx (x :: r).length (x :: r).length none=(x :: r).length:=rfl;rw [e1,e2];apply aAK;rw [aA7];exact aAf _
theorem jR (T:Tx K mg ad) {f ff:Addr} {fd fdf:FuncData} (n:Nat) (F:Gn K mg "are_fields" bn ["fields","room"] f fd) (L4:Gn K mg "is_field" cF ["field","room"] ff fdf)
  (L5:FnOk P w K mg base CX0 (3*n+4) ff fdf ["field","room"] (uF K n)):FnOk P w K mg base CX0 (3*n+4+1) f fd ["fields","room"] (qB K n):=by
 obtain ⟨t_MOST_FIELDS,c_MOST_FIELDS⟩:=T.MOST_FIELDS;refine F.F.ok ft (λvs H Q E h=>?_) (λcdv A outer s H vs Q E hr h=>?_)
 ·obtain ⟨r,d,x,_,rfl,_⟩:=h
  rfl
 obtain ⟨r,d,x,hrn,rfl,hd,ok,q⟩:=h;refine ⟨_,(5,(12,PW.pt (@pw_or _ _ _ _ _ _ _ (@pt_not _ _ _ _ (@pt_val _ _ _ (pe_callB (aj (K:=K) rfl) rfl T.z_isinstance boot_isinstance (10,aH rfl T.z_tuple boot_tuple)) (by intro _;rfl))) (@pw_or1 _ _ _ _ (pt_cmpR op_gt (pe_callB (call_lenDN (K:=K) rfl) rfl T.z_len PySem.boot_len (@pa1 _ _ _ (pv 0) (0))) (pe_gint rfl c_MOST_FIELDS) (nomark _))))),(5,(12,@pt_not _ _ _ _ (@pt_val _ _ _ (pe_callB (call_allN (K:=K) rfl rfl) rfl T.z_all boot_all (@pa1 _ _ _ (aG rfl (csR (sc:=aa bn) (NL:=["field"]) (N:=["fields","room","names"]) (ρ:=[1]) (N':=["field","room"]) rfl rfl rfl (by decide +kernel) (by decide +kernel) (by decide +kernel) rfl (by decide +kernel)) (aM (K:=K) rfl (pv 0)) (λ_ _ _ _=>(ai (i:=0) (show List.Nodup (α:=Str) ["field","room"] by decide +kernel) rfl (Or.inl rfl))) (λ_ _ _ _=>(7,L4,L5,(10,pv 1)))) (0))) (by intro _;rfl))),(5,ps_setC (j:=2) ft.nd rfl (Or.inl rfl) rfl (cs0 (NL:=["name","kind"]) rfl (by decide +kernel) (by decide +kernel)) (aM (K:=K) rfl (pv 0)) (λ_ _ _ _=>(dE (K:=K) (n:=2) rfl rfl (az (ai (i:=0) (show List.Nodup (α:=Str) ["name","kind"] by decide +kernel) rfl (Or.inl rfl)) (az (ai (i:=1) (show List.Nodup (α:=Str) ["name","kind"] by decide +kernel) rfl (Or.inl rfl)) bY)))) (λ_ _ _ _=>(pv 0)),(3,(4,pe_callB (call_allN (K:=K) rfl rfl) rfl T.z_all boot_all (@pa1 _ _ _ (aG rfl (cs0 (NL:=["ahead","behind"]) rfl (by decide +kernel) (by decide +kernel)) (Ba rfl T.z_zip (9,pv 2,cu (uk (K:=K) rfl) (pv 2) (du pe_int) dr)) (λ_ _ _ _=>(dE (K:=K) (n:=2) rfl rfl (az (ai (i:=0) (show List.Nodup (α:=Str) ["ahead","behind"] by decide +kernel) rfl (Or.inl rfl)) (az (ai (i:=1) (show List.Nodup (α:=Str) ["ahead","behind"] by decide +kernel) rfl (Or.inl rfl)) bY)))) (λ_ _ _ _=>(pe_cmpR rj (pv 0) (pv 1) (nomark _)))) (0))))))),?_⟩
 cases d with
 | non=>cases ok
 | bl=>cases ok
 | int i =>
  cases hd
  exact ⟨_,rfl,_,_,_,rfl,.int_tuple,_,rfl,aq (aq (q H (Same.refl H)))⟩
 | str z =>
  cases hd
  exact ⟨_,rfl,_,_,_,rfl,.str_tuple,_,rfl,aq (aq (q H (Same.refl H)))⟩
 | tup ds =>
  obtain ⟨a,xs,rfl,ha,pa,ra⟩:=id hd.unref;have el:=ra.length;replace q:∀ H',Same H H'->Q (.bl (decide (ds.length<=8) && ds.all (aT (ax r)) && Bn (ds.map nmD))) H':=q;refine ⟨_,rfl,_,_,_,rfl,.tup_tuple ha,_,rfl,aA ?_⟩;refine ⟨_,rfl,_,_,rfl,hd.d,_,_,rfl,rfl,_,rfl,aF (λc1=>?_) (λc1=>?_)⟩
  ·have l2:¬ ds.length<=8:=by
    have:(8:Int) < ds.length:=of_decide_eq_true c1;lia
   rw [decide_eq_false l2,aAv,aAv] at q;exact q H (Same.refl H)
  have l2:ds.length<=8:=by
   have:¬ ((8:Int) < ds.length):=by simpa using c1
   lia
  rw [decide_eq_true l2,aAT] at q;refine ⟨_,rfl,a,rfl,⟨_,ha⟩,λl hln=>?_⟩;refine aR (K:=K) (xs:=xs) (λi ys σ H'=>ys=bls ((ds.take i).map (aT (ax r)))/\Same H H'/\H' l=some (.lst ys)/\∃ v,σ=[v,some (.int r)]) ⟨rfl,af hln _,ac,none,rfl⟩ (λi ys σ H' _ r=>r.2.1.tup ha) ?_ ?_
  ·rintro i y ys σ H1 N hy ⟨rfl,g,e1,v,rfl⟩ next;obtain ⟨d,hdi,hp⟩:=ra.get' hy;have nx:bls ((ds.take i).map (aT (ax r)))++[V.bl (aT (ax r) d)]=bls ((ds.take (i+1)).map (aT (ax r))):=by
    show List.map V.bl _++[V.bl _]=List.map V.bl _;rw [aAu,aAu];exact ci (V.bl ∘ aT (ax r)) hdi
   have hlen:(bls ((ds.take i).map (aT (ax r)))).length < sizeLine:=by
    simp only [bls,aAe,aAB];exact am (by lia)
   exact ⟨_,rfl,_,rfl,r,d,y,hrn,rfl,hp.same g,ay ok d (aAs hdi),λH2 g2=>⟨g2 _ _ e1,hlen,next _ _ _ ⟨nx,aK hln (g.trans g2),ac,_,rfl⟩⟩⟩
  ·rintro ys σ H1 ⟨rfl,g,e1,v,rfl⟩;rw [<- el,aAR] at e1;refine ⟨l,ds.map (aT (ax r)),rfl,rfl,SqL.of e1,_,rfl,?_⟩;have ea:(ds.map (aT (ax r))).all id=ds.all (aT (ax r)):=by rw [aBe];rfl
   rw [ea]
   cases hb:ds.all (aT (ax r)) with
   | false =>
    rw [hb,aAv] at q;exact aq (q H1 g)
   | true =>
    rw [hb,aAT] at q;refine aA ?_;refine ⟨_,rfl,a,rfl,⟨_,g.tup ha⟩,λl2 hl2=>?_⟩;refine aR (K:=K) (xs:=xs) (λi ys σ H'=>ys=(ds.take i).map (λd=>V.str (nmD d))/\Same H1 H'/\H' l2=some (.lst ys)/\σ.length=2) ⟨rfl,af hl2 _,ac,rfl⟩ (λi ys σ H' _ r=>(g.trans r.2.1).tup ha) ?_ ?_
    ·rintro i y ys σ H2 N hy ⟨rfl,g2,e2,hσ⟩ next;obtain ⟨d,hdi,hp⟩:=ra.get' hy;obtain ⟨z,k,rfl,_,_⟩:=fG (aAG.mp hb d (aAs hdi));obtain ⟨b,x1,y2,rfl,hb',hp1,hp2⟩:=kO ((hp.same g).same g2);obtain rfl:=ao hp1
     match σ,hσ with
     | [_,_],_ =>
      refine ⟨b,_,rfl,hb',rfl,_,_,rfl,_,_,rfl,rfl,?_⟩;refine ⟨_,rfl,e2,?_,next _ _ _ ⟨ci (λd=>V.str (nmD d)) hdi,aK hl2 g2,ac,rfl⟩⟩;rw [aAe,aAB];exact am (by lia)
    ·rintro ys σ H2 ⟨rfl,g2,e2,hσ⟩;rw [<- el,aAR] at e2;have en:ds.map (λd=>V.str (nmD d))=(ds.map nmD).map V.str:=by rw [aAu];rfl
     rw [en] at e2;have lns:(ds.map nmD).length=ds.length:=aAe ..
     generalize ds.map nmD=ns at *
     refine ⟨_,rfl,_,rfl,_,rfl,l2,_,rfl,SqL.of e2,λl3 hl3=>?_⟩;have n23:l2≠l3:=ah e2 hl3;have ec:kZ (ns.map V.str) (some 1) none=(ns.drop 1).map V.str:=by rw [sy,List.map_drop]
     rw [ec];have e2':(upd H2 l3 (.lst ((ns.drop 1).map V.str))) l2=some (.lst (ns.map V.str)):=by rw [ag n23];exact e2
     refine ⟨l2,l3,rfl,⟨_,SqL.of e2'⟩,⟨_,SqL.of ac⟩,λl4 hl4=>?_⟩;have g4:=(af hl3 (.lst ((ns.drop 1).map V.str)));refine rP (K:=K) (xs:=ns.map V.str) (ys:=(ns.drop 1).map V.str) (λi ys σ H'=>ys=bls (((ns.zip (ns.drop 1)).take i).map λp=>decide (ltS p.1 p.2))/\Same (upd H2 l3 (.lst ((ns.drop 1).map V.str))) H'/\H' l4=some (.lst ys)/\σ.length=2) ⟨rfl,af hl4 _,ac,rfl⟩ (λi us σ H' r=>⟨SqL.of (r.2.1 _ _ e2'),SqL.of (r.2.1 _ _ ac)⟩) ?_ ?_
     ·rintro i x y T us σ H5 N hx hy hT ⟨rfl,g5,e5,hσ⟩ next;rw [aAC] at hx hy;obtain ⟨a1,ha1,rfl⟩:=aAE.mp hx;obtain ⟨b1,hb1,rfl⟩:=aAE.mp hy;have n4:l4≠T:=ah e5 hT;have hz:(ns.zip (ns.drop 1))[i]?=some (a1,b1):=aBj.mpr ⟨ha1,hb1⟩;have li:=(aAc.mp hz).1;rw [List.length_zip] at li
      match σ,hσ with
      | [_,_],_ =>
       refine ⟨T,_,rfl,.inl (.inl ac),rfl,_,_,rfl,_,_,rfl,rfl,?_⟩;refine ⟨_,rfl,_,rfl,_,_,rfl,rfl,by rw [ag n4];exact e5,?_,next _ _ _ ⟨?_,?_,ac,rfl⟩⟩
       ·simp only [bls,aAe,aAB];exact am (by lia)
       ·show List.map V.bl _++[V.bl (decide (ltS a1 b1))]=List.map V.bl _;rw [aAu,aAu];exact ci (V.bl ∘ λp:Str×Str=>decide (ltS p.1 p.2)) hz
       ·exact aK hl4 (g5.trans (af hT _))
     ·rintro us σ H5 ⟨rfl,g5,e5,hσ⟩;rw [aAe,aAe,<- List.length_zip,aAR] at e5;refine ⟨l4,_,rfl,rfl,SqL.of e5,?_⟩;rw [aBe];exact q H5 (((g.trans g2).trans g4).trans g5)
def jS (K:W.Frag) (_:Ads):Sp:=λvs H Q _=>∃ (fs:List Dt) (key:Dt) (x y:V),vs=[x,y]/\IsP K H (.tup [.str "record",.tup fs]) x/\IsP K H key y/\(∀ d∈fs,∃ z k,d=.tup [.str z,k])/\Jk K H (fh fs key) Q
theorem pH {fs:List Dt} {key:Dt} (h:∀ d∈fs,nI key d=false):fh fs key=none:=by
 unfold fh;rw [List.find?_eq_none.mpr (λd hd=>by rw [h d hd];exact aAj)]
theorem uH {fs:List Dt} {key o k:Dt} {i:Nat} (h:fs[i]?=some (.tup [o,k])) (hk:eqD o key=true) (pre:∀ j d,j < i->fs[j]?=some d->nI key d=false):fh fs key=some k:=by
 have e:fs.find? (nI key)=some (.tup [o,k]):=by
  obtain ⟨li,ei⟩:=aAc.mp h;rw [List.find?_eq_some_iff_getElem];refine ⟨hk,i,li,ei,λj hj=>?_⟩;have:=pre j _ hj (aAi (aBf hj li));rw [this]
  rfl
 unfold fh;rw [e]
theorem jT (T:Tx K mg ad) {f:Addr} {fd:FuncData} (F:Gn K mg "field_kind" dH ["kind","name"] f fd):FnOk P w K mg base CX0 1 f fd ["kind","name"] (jS K ad):=by
 refine F.F.ok cZ (λvs H Q E h=>?_) (λcdv A outer s H vs Q E hr h=>?_)
 ·obtain ⟨fs,key,x,y,rfl,_⟩:=h
  rfl
 obtain ⟨fs,key,x,y,rfl,hd,hk,prs,q'⟩:=h;refine ⟨_,(@pss_cons _ _ _ _ _ (@ps_if _ _ _ _ _ _ _ _ (pt_cmpR op_ne (6) pe_str (nomark _)) (3,(4,pe_non)) pss_nil) (@pss_cons _ _ _ _ _ (dm PassesOwn.never rfl (aM (K:=K) rfl (6)) (oE rfl (az (ai (i:=2) cZ.nd rfl (Or.inl rfl)) (az (ai (i:=3) cZ.nd rfl (Or.inl rfl)) bY)))
    (3,@ps_if _ _ _ _ _ _ _ _ (pt_cmpR (vX (K:=K) rfl hr.units) (pv 2) (pv 1) (nomark _)) (3,(4,pv 3)) pss_nil)) (3,(4,pe_non)))),?_⟩
 refine ⟨_,rfl,_,_,_,hd,rfl,rfl,isS ?_⟩;refine ⟨rfl,_,rfl,kN ⟨_,rfl,_,_,_,hd,rfl,rfl,λv hv=>?_⟩⟩;obtain ⟨a,xs,rfl,ha,pa,ra⟩:=hv.unref;have el:=ra.length;refine ⟨a,rfl,⟨xs,ha⟩,kX (xs:=xs) (λi σ H'=>H'=H/\(∀ j d,j < i->fs[j]?=some d->nI key d=false)/\∃ v1 v2,σ=[some x,some y,v1,v2]) ⟨rfl,λj f hj=>absurd hj (aBt _),_,_,rfl⟩ (λi σ H' _ p=>p.1 ▸ ha) ?_ ?_⟩
 ·rintro i u σ H' hu ⟨rfl,pre,v1,v2,rfl⟩;obtain ⟨e,he,hp⟩:=ra.get' hu;obtain ⟨z,k,rfl⟩:=prs e (aAs he);obtain ⟨b,x1,y2,rfl,hb,hp1,hp2⟩:=kO hp;refine ⟨b,_,rfl,hb,rfl,_,_,rfl,_,_,rfl,rfl,?_⟩;refine ⟨_,rfl,_,rfl,.str z,key,hp1.d,hk.d,(by show 0<=60;decide),_,rfl,aF (λc=>?_) (λc=>?_)⟩
  ·rw [uH he c pre] at q';exact ⟨_,rfl,q' _ hp2⟩
  ·refine ⟨rfl,λj f hj hjf=>?_,_,_,rfl⟩;rcases Nat.lt_succ_iff_lt_or_eq.mp hj with h1 | h1
   ·exact pre j f h1 hjf
   ·subst h1;rw [he] at hjf;obtain rfl:=Option.some.inj hjf;exact aBd.mpr c
 ·rintro σ H' ⟨rfl,pre,v1,v2,rfl⟩;rw [pH (λd hd=>by
   obtain ⟨j,hj,e⟩:=List.mem_iff_getElem.mp hd;exact pre j d (by lia) (by rw [aAi hj,e]))] at q'
  exact q'
theorem Bq (w:Str):inV (.str w) [.str "number",.str "text"]=(decide (w= "number") || decide (w= "text")):=by
 have e:∀ a:Str,eqV (.str a) (.str w)=decide (w=a):=λa=>by
  show (a == w)=decide (w=a);rw [aAV,decide_eq_true_iff,beq_iff_eq];exact ⟨Eq.symm,Eq.symm⟩
 show (eqV (.str "number") (.str w) || (eqV (.str "text") (.str w) || false))=_;rw [e,e,Bool.or_false]
theorem cj (d:Dt):ax 0 d=false:=by simp [ax]
theorem ji {r:Nat} {d:Dt} (h:ax r d=true):∃ u l,d=.tup (.str u :: l):=by
 unfold ax at h
 split at h <;> first | exact ⟨_,_,rfl⟩ | cases h
theorem uI {r:Nat} {l:List Dt} (h:ax r (.tup (.str "record" :: l))=true):∃ r' fs,r=r' + 1/\l=[.tup fs]/\fs.all (aT (ax r'))=true:=by
 cases r with
 | zero=>rw [cj] at h;cases h
 | succ r =>
  match l with
  | []=>cases h
  | [a] =>
   have h':lO (ax r) a=true:=h
   cases a with
   | tup fs =>
    have h2:(decide (fs.length<=8) && fs.all (aT (ax r)) && Bn (fs.map nmD))=true:=h';rw [aAq,aAq] at h2;exact ⟨r,fs,rfl,rfl,h2.1.2⟩
   | _=>cases h'
  | [a,b]=>cases h
  | [a,b,c]=>cases h
  | a :: b :: c :: e :: l=>cases h
theorem wt {f:Dt->Bool} {key:Dt} {u:Str} {l:List Dt} (h:u≠ "record"):fj f key (.tup (.str u :: l))=false:=by
 unfold fj
 split
 ·rename_i e
  injection e with e
  injection e with e _
  injection e with e
  subst e;rw [decide_eq_false h,aAv,aBB]
 ·exact aBB _
theorem uJ {fs:List Dt} {key k:Dt} (h:fh fs key=some k):∃ o,.tup [o,k]∈fs:=by
 unfold fh at h
 split at h
 ·rename_i o k' e
  obtain rfl:=Option.some.inj h;exact ⟨o,List.mem_of_find?_eq_some e⟩
 ·cases h
theorem nM (T:Tx K mg ad) {f ff:Addr} {fd fdf:FuncData} (n:Nat) (F:Gn K mg "are_rows" cG ["key","items","room"] f fd) (Kf:Gn K mg "is_formed" bA ["thing","room"] ff fdf)
  (Ki:FnOk P w K mg base CX0 (3*n+3) ff fdf ["thing","room"] (nK K n)):FnOk P w K mg base CX0 (3*n+3+1) f fd ["key","items","room"] (uG K n):=by
 obtain ⟨_,_,Le⟩:=T.field_kind;have LN:=jT (P:=P) (w:=w) (base:=base) T Le;refine F.F.ok sc_are_rows (λvs H Q E h=>?_) (λcdv A outer s H vs Q E hr h=>?_)
 ·obtain ⟨r,key,items,x,y,_,rfl,_⟩:=h
  rfl
 obtain ⟨r,key,items,x,y,hrn,rfl,hx,hy,okk,oki,q⟩:=h;refine ⟨_,(5,(12,PW.pt (@pw_or _ _ _ _ _ _ _ (@pt_not _ _ _ _ (@pt_val _ _ _ (7,Kf,Ki,(9,pv 1,pv 2)) (by intro _;rfl))) (@pw_or1 _ _ _ _ (pt_cmpR op_ne (@pi1 K _ _ _ _ _ _ _ rfl (pv 1)) pe_str (nomark _))))),(5,@ps_set _ _ 3 _ _ _ _ sc_are_rows.nd rfl (Or.inl rfl) (7,Le,LN,(9,pv 1,pv 0)) (0) (.inl rfl),(3,(4,pe_and (pe_cmpR op_notN (pv 3) pe_non (nomark _)) (pe_one (pe_cmpR (op_in_seqK (K:=K) rfl) (@pi1 K _ _ _ _ _ _ _ rfl (pv 3)) (8,@pa2 _ _ _ _ _ pe_str pe_str (0) (0)) rfl)))))),?_⟩;refine ⟨_,rfl,_,rfl,r,items,y,hrn,rfl,hy,oki,λH1 g1=>⟨_,rfl,?_⟩⟩
 cases hb:ax r items with
 | false =>
  have e:fj (ax r) key items=false:=by unfold fj;rw [hb,aAv]
  rw [e] at q;exact aq (aq (q H1 g1))
 | true =>
  obtain ⟨u,l,rfl⟩:=ji hb;refine aA ?_;refine ⟨_,rfl,_,_,_,hy.same g1,rfl,at0 _ _,λv hv=>?_⟩;obtain rfl:=ao hv;refine ⟨rfl,_,rfl,?_⟩
  by_cases hu:u= "record"
  ·subst hu;obtain ⟨r',fs,rfl,rfl,hall⟩:=uI hb;have e:fj (ax (r' + 1)) key (.tup [.str "record",.tup fs])=xm (fh fs key):=by
    unfold fj;rw [hb]
    rfl
   rw [e] at q;refine kN ?_;refine ⟨_,rfl,_,rfl,fs,key,y,x,rfl,hy.same g1,hx.same g1,λd hd=>?_,?_⟩
   ·obtain ⟨z,k,rfl,_⟩:=fG (aAG.mp hall d hd);exact ⟨z,k,rfl⟩
   cases hl:fh fs key with
   | none =>
    rw [hl] at q;exact ⟨_,rfl,rfl,_,rfl,aA (q H1 g1)⟩
   | some k =>
    rw [hl] at q;obtain ⟨o,hm⟩:=uJ hl;obtain ⟨z,k',e2,_,fk⟩:=fG (aAG.mp hall _ hm);injection e2 with e2
    injection e2 with e2 e3
    injection e3 with e3 _
    subst e3;obtain ⟨w1,l1,rfl⟩:=ji fk;intro v hv;obtain ⟨av,xv,rfl,_⟩:=id hv.unref;refine ⟨_,rfl,rfl,_,rfl,?_⟩;rw [decide_eq_false (show ¬ (V.ref av=V.non) by intro z;cases z)];refine aq ?_;refine ⟨_,rfl,_,_,_,hv,rfl,at0 _ _,isS ?_⟩;refine ⟨[.str "number",.str "text"],.cons .str (.cons .str .nil),sz2,λv3 H3 g3 hv3=>?_⟩;obtain ⟨a3,x3,rfl,hT3,_,r3⟩:=id hv3.unref;obtain rfl:=aN (ws:=["number","text"]) r3;refine ⟨a3,_,rfl,.inr hT3,rfl,rfl,?_⟩;show Q (.bl (inV (.str w1) [.str "number",.str "text"])) H3;rw [Bq];exact q H3 (g1.trans g3)
  ·rw [wt hu] at q;exact ii (ae hu) (q H1 g1)
theorem nN {d:Dt} (h:cB d=true):(∃ a b,d=.tup [.str "number",a,b])\/(∃ a,d=.tup [.str "text",a])\/(∃ a,d=.tup [.str "choice",a])\/(∃ a b,d=.tup [.str "list",a,b])\/(∃ a,d=.tup [.str "record",a])\/(∃ a b c,d=.tup [.str "rows",a,b,c]):=by
 unfold cB at h
 split at h
 ·rename_i u l
  have h:=of_decide_eq_true h;have l1:∀ {l:List Dt},(2:Int)=((l.length+1:Nat):Int)->∃ a,l=[a]:=λ{l} e=>by
   match l with
   | []=>exact absurd e (1)
   | [a]=>exact ⟨a,rfl⟩
   | a :: b :: l=>exact absurd e (by simp only [aAo];lia)
  have l2:∀ {l:List Dt},(3:Int)=((l.length+1:Nat):Int)->∃ a b,l=[a,b]:=λ{l} e=>by
   match l with
   | []=>exact absurd e (1)
   | [a]=>exact absurd e (by simp only [aAo,aBu];lia)
   | [a,b]=>exact ⟨a,b,rfl⟩
   | a :: b :: c :: l=>exact absurd e (by simp only [aAo];lia)
  have l3:∀ {l:List Dt},(4:Int)=((l.length+1:Nat):Int)->∃ a b c,l=[a,b,c]:=λ{l} e=>by
   match l with
   | []=>exact absurd e (1)
   | [a]=>exact absurd e (by simp only [aAo,aBu];lia)
   | [a,b]=>exact absurd e (by simp only [aAo,aBu];lia)
   | [a,b,c]=>exact ⟨a,b,c,rfl⟩
   | a :: b :: c :: d :: l=>exact absurd e (by simp only [aAo];lia)
  by_cases e1:u= "number"
  ·subst e1;obtain ⟨a,b,rfl⟩:=l2 (V.int.inj h);exact .inl ⟨a,b,rfl⟩
  by_cases e2:u= "text"
  ·subst e2;obtain ⟨a,rfl⟩:=l1 (V.int.inj h);exact .inr (.inl ⟨a,rfl⟩)
  by_cases e3:u= "choice"
  ·subst e3;obtain ⟨a,rfl⟩:=l1 (V.int.inj h);exact .inr (.inr (.inl ⟨a,rfl⟩))
  by_cases e4:u= "list"
  ·subst e4;obtain ⟨a,b,rfl⟩:=l2 (V.int.inj h);exact .inr (.inr (.inr (.inl ⟨a,b,rfl⟩)))
  by_cases e5:u= "record"
  ·subst e5;obtain ⟨a,rfl⟩:=l1 (V.int.inj h);exact .inr (.inr (.inr (.inr (.inl ⟨a,rfl⟩))))
  by_cases e6:u= "rows"
  ·subst e6;obtain ⟨a,b,c,rfl⟩:=l3 (V.int.inj h);exact .inr (.inr (.inr (.inr (.inr ⟨a,b,c,rfl⟩))))
  exfalso
  simp only [qA,bL,e1,e2,e3,e4,e5,e6,if_false] at h
  cases h
 ·cases h
theorem Br:bL "number" [("number",3),("text",2),("choice",2),("list",3),("record",2),("rows",4)]=.int 3:=by decide +kernel
theorem Bs:bL "text" [("number",3),("text",2),("choice",2),("list",3),("record",2),("rows",4)]=.int 2:=by decide +kernel
theorem Bt:bL "choice" [("number",3),("text",2),("choice",2),("list",3),("record",2),("rows",4)]=.int 2:=by decide +kernel
theorem Bu:bL "list" [("number",3),("text",2),("choice",2),("list",3),("record",2),("rows",4)]=.int 3:=by decide +kernel
theorem Bv:bL "record" [("number",3),("text",2),("choice",2),("list",3),("record",2),("rows",4)]=.int 2:=by decide +kernel
theorem Bw:bL "rows" [("number",3),("text",2),("choice",2),("list",3),("record",2),("rows",4)]=.int 4:=by decide +kernel
theorem pI {r:Nat} {d:Dt} (h:cB d=false):ax r d=false:=by
 cases hb:ax r d with
 | false=>rfl
 | true =>
  exfalso
  unfold ax at hb
  split at hb
  ·cases hb
  ·rename_i u a
   split at hb
   ·subst_vars
    rw [show cB (.tup [.str "text",a])=true from decide_eq_true Bs] at h
    cases h
   ·split at hb
    ·subst_vars
     rw [show cB (.tup [.str "choice",a])=true from decide_eq_true Bt] at h
     cases h
    ·split at hb
     ·subst_vars
      rw [show cB (.tup [.str "record",a])=true from decide_eq_true Bv] at h
      cases h
     ·cases hb
  ·rename_i u a b
   split at hb
   ·subst_vars
    rw [show cB (.tup [.str "number",a,b])=true from decide_eq_true Br] at h
    cases h
   ·split at hb
    ·subst_vars
     rw [show cB (.tup [.str "list",a,b])=true from decide_eq_true Bu] at h
     cases h
    ·cases hb
  ·rename_i u a b c
   split at hb
   ·subst_vars
    rw [show cB (.tup [.str "rows",a,b,c])=true from decide_eq_true Bw] at h
    cases h
   ·cases hb
  ·cases hb
theorem lV (T:Tx K mg ad) {f ff fr:Addr} {fd fdf fdr:FuncData} (n:Nat) (Kf:Gn K mg "is_formed" bA ["thing","room"] f fd) (LO:Gn K mg "are_fields" bn ["fields","room"] ff fdf) (L7:Gn K mg "are_rows" cG ["key","items","room"] fr fdr)
  (Ki:FnOk P w K mg base CX0 (3*n+3) f fd ["thing","room"] (nK K n)) (LL:FnOk P w K mg base CX0 (3*n+5) ff fdf ["fields","room"] (qB K n)) (Ma:FnOk P w K mg base CX0 (3*n+4) fr fdr ["key","items","room"] (uG K n)) :
  FnOk P w K mg base CX0 (3*n+5+1) f fd ["thing","room"] (nK K (n+1)):=by
 obtain ⟨_,_,Ll⟩:=T.has_parts;have LY:=lU (P:=P) (w:=w) (base:=base) T Ll;obtain ⟨_,_,Kt⟩:=T.are_bounds;have KN:=fm (P:=P) (w:=w) (base:=base) T Kt;obtain ⟨_,_,Kb⟩:=T.is_whole_within;have Kd:=bw (P:=P) (w:=w) (base:=base) T Kb;obtain ⟨_,_,Ku⟩:=T.are_words;have KS:=gc (P:=P) (w:=w) (base:=base) T Ku;obtain ⟨t_MOST_SIGNS,c_MOST_SIGNS⟩:=T.MOST_SIGNS;obtain ⟨t_MOST_ITEMS,c_MOST_ITEMS⟩:=T.MOST_ITEMS;refine Kf.F.ok sc_is_formed (λvs H Q E h=>?_) (λcdv A outer s H vs Q E hr h=>?_)
 ·obtain ⟨r,d,x,_,rfl,_⟩:=h
  rfl
 obtain ⟨r,d,x,hrn,rfl,hd,ok,q⟩:=h;refine ⟨_,(5,(12,PW.pt (@pw_or _ _ _ _ _ _ _ (pt_cmpR op_eq (pv 1) pe_int (nomark _)) (@pw_or1 _ _ _ _ (@pt_not _ _ _ _ (@pt_val _ _ _ (7,Ll,LY,@pa1 _ _ _ (pv 0) (0)) (by intro _;rfl)))))),(5,@ps_set _ _ 2 _ _ _ _ sc_is_formed.nd rfl (Or.inl rfl) (6) (0) (.inl rfl),(5,@ps_if _ _ _ _ _ _ _ _ (pt_cmpR op_eq (pv 2) pe_str (nomark _)) (3,(4,(7,Kt,KN,(9,(6),(6))))) pss_nil,(5,@ps_if _ _ _ _ _ _ _ _ (pt_cmpR op_eq (pv 2) pe_str (nomark _)) (3,(4,(7,Kb,Kd,(11,(6),pe_int,pe_gint rfl c_MOST_SIGNS)))) pss_nil,(5,@ps_if _ _ _ _ _ _ _ _ (pt_cmpR op_eq (pv 2) pe_str (nomark _)) (3,(4,(7,Ku,KS,@pa1 _ _ _ (6) (0)))) pss_nil,(5,@ps_if _ _ _ _ _ _ _ _ (pt_cmpR op_eq (pv 2) pe_str (nomark _)) (3,(4,pe_and (7,Kf,Ki,(9,(6),@pe_op _ _ _ _ _ _ _ _ op_sub (pv 1) pe_int)) (pe_one (7,Kb,Kd,(11,(6),pe_int,pe_gint rfl c_MOST_ITEMS))))) pss_nil,(5,@ps_if _ _ _ _ _ _ _ _ (pt_cmpR op_eq (pv 2) pe_str (nomark _)) (3,(4,(7,LO,LL,(9,(6),@pe_op _ _ _ _ _ _ _ _ op_sub (pv 1) pe_int)))) pss_nil,(3,(4,pe_and (7,L7,Ma,(11,(6),(6),@pe_op _ _ _ _ _ _ _ _ op_sub (pv 1) pe_int)) (pe_one (7,Kb,Kd,(11,(6),pe_int,pe_gint rfl c_MOST_ITEMS)))))))))))),?_⟩;refine ⟨_,rfl,rfl,_,rfl,?_⟩
 cases r with
 | zero =>
  rw [cj] at q;exact aC (aq (q H (Same.refl H)))
 | succ r =>
  refine iteN (λz=>by have:=V.int.inj z;lia) ?_;have e1:(((r+1:Nat):Int)) - 1=(r:Int):=by lia
  refine ⟨_,rfl,d,x,rfl,hd,ok,_,rfl,?_⟩
  cases hb:cB d with
  | false =>
   rw [pI hb] at q;exact aq (q H (Same.refl H))
  | true =>
   refine aA ?_;rcases nN hb with ⟨a,b,rfl⟩ | ⟨a,rfl⟩ | ⟨a,rfl⟩ | ⟨a,b,rfl⟩ | ⟨a,rfl⟩ | ⟨a,b,c,rfl⟩
   ·refine ⟨_,rfl,_,_,_,hd,rfl,rfl,isS ?_⟩;refine ⟨_,rfl,rfl,_,rfl,aC ?_⟩;refine ⟨_,rfl,_,_,_,hd,rfl,rfl,λva hva=>?_⟩;refine ⟨_,rfl,_,_,_,hd,rfl,rfl,λvb hvb=>?_⟩;exact ⟨a,b,va,vb,rfl,hva,hvb,ay ok a (by simp),ay ok b (by simp),q H (Same.refl H)⟩
   ·refine ⟨_,rfl,_,_,_,hd,rfl,rfl,isS ?_⟩;refine ⟨_,rfl,rfl,_,rfl,iteN (ae (1)) ?_⟩;refine ⟨_,rfl,rfl,_,rfl,aC ?_⟩;refine ⟨_,rfl,_,_,_,hd,rfl,rfl,λva hva=>?_⟩;exact ⟨a,va,0,60,rfl,hva,ay ok a (by simp),q H (Same.refl H)⟩
   ·refine ⟨_,rfl,_,_,_,hd,rfl,rfl,isS ?_⟩;refine ⟨_,rfl,rfl,_,rfl,iteN (ae (1)) ?_⟩;refine ⟨_,rfl,rfl,_,rfl,iteN (ae (1)) ?_⟩;refine ⟨_,rfl,rfl,_,rfl,aC ?_⟩;refine ⟨_,rfl,_,_,_,hd,rfl,rfl,λva hva=>?_⟩;exact ⟨a,va,rfl,hva,ay ok a (by simp),q⟩
   ·replace q:∀ H',Same H H'->Q (.bl (ax r a && aZ b 0 8)) H':=q;refine ⟨_,rfl,_,_,_,hd,rfl,rfl,isS ?_⟩;refine ⟨_,rfl,rfl,_,rfl,iteN (ae (1)) ?_⟩;refine ⟨_,rfl,rfl,_,rfl,iteN (ae (1)) ?_⟩;refine ⟨_,rfl,rfl,_,rfl,iteN (ae (1)) ?_⟩;refine ⟨_,rfl,rfl,_,rfl,aC ?_⟩;refine ⟨_,rfl,_,_,_,hd,rfl,rfl,λva hva=>?_⟩;refine ⟨_,rfl,_,_,rfl,rfl,r,a,va,by lia,(by show [va,V.int (((r+1:Nat):Int) - 1)]=_;rw [e1]),hva,ay ok a (by simp),λH1 g1=>⟨_,rfl,?_⟩⟩
    cases hf:ax r a with
    | false =>
     rw [hf,aAv] at q;exact aA (q H1 g1)
    | true =>
     rw [hf,aAT] at q;refine aq ?_;refine ⟨_,rfl,_,_,_,hd.same g1,rfl,rfl,λvb hvb=>?_⟩;exact ⟨b,vb,0,8,rfl,hvb,ay ok b (by simp),q H1 g1⟩
   ·refine ⟨_,rfl,_,_,_,hd,rfl,rfl,isS ?_⟩;refine ⟨_,rfl,rfl,_,rfl,iteN (ae (1)) ?_⟩;refine ⟨_,rfl,rfl,_,rfl,iteN (ae (1)) ?_⟩;refine ⟨_,rfl,rfl,_,rfl,iteN (ae (1)) ?_⟩;refine ⟨_,rfl,rfl,_,rfl,iteN (ae (1)) ?_⟩;refine ⟨_,rfl,rfl,_,rfl,aC ?_⟩;refine ⟨_,rfl,_,_,_,hd,rfl,rfl,λva hva=>?_⟩;exact ⟨_,rfl,_,_,rfl,rfl,r,a,va,by lia,(by show [va,V.int (((r+1:Nat):Int) - 1)]=_;rw [e1]),hva,ay ok a (by simp),q⟩
   ·replace q:∀ H',Same H H'->Q (.bl (fj (ax r) a b && aZ c 0 8)) H':=q;refine ⟨_,rfl,_,_,_,hd,rfl,rfl,isS ?_⟩;refine ⟨_,rfl,rfl,_,rfl,iteN (ae (1)) ?_⟩;refine ⟨_,rfl,rfl,_,rfl,iteN (ae (1)) ?_⟩;refine ⟨_,rfl,rfl,_,rfl,iteN (ae (1)) ?_⟩;refine ⟨_,rfl,rfl,_,rfl,iteN (ae (1)) ?_⟩;refine ⟨_,rfl,rfl,_,rfl,iteN (ae (1)) ?_⟩;refine ⟨_,rfl,_,_,_,hd,rfl,rfl,λva hva=>?_⟩;refine ⟨_,rfl,_,_,_,hd,rfl,rfl,λvb hvb=>?_⟩;refine ⟨_,rfl,_,_,rfl,rfl,r,a,b,va,vb,by lia,(by show [va,vb,V.int (((r+1:Nat):Int) - 1)]=_;rw [e1]),hva,hvb,ay ok a (by simp),ay ok b (by simp),λH1 g1=>⟨_,rfl,?_⟩⟩
    cases hf:fj (ax r) a b with
    | false =>
     rw [hf,aAv] at q;exact aA (q H1 g1)
    | true =>
     rw [hf,aAT] at q;refine aq ?_;refine ⟨_,rfl,_,_,_,hd.same g1,rfl,rfl,λvc hvc=>?_⟩;exact ⟨c,vc,0,8,rfl,hvc,ay ok c (by simp),q H1 g1⟩
theorem jj (T:Tx K mg ad) {f ff fr fi:Addr} {fd fdf fdr fdi:FuncData} (A:Gn K mg "is_formed" bA ["thing","room"] f fd) (B:Gn K mg "are_fields" bn ["fields","room"] ff fdf) (C:Gn K mg "are_rows" cG ["key","items","room"] fr fdr) (D:Gn K mg "is_field" cF ["field","room"] fi fdi) :
  ∀ n,FnOk P w K mg base CX0 (3*n+3) f fd ["thing","room"] (nK K n)
 | 0=>bi λvs H Q E z=>by obtain ⟨_,_,_,e,_⟩:=z;lia
 | n+1=>by
  have a:=jj T A B C D n;exact lV T n A B C a (jR T n B D (nL T n D A a)) (nM T n C A a)
theorem wz {a c:Nat} {d:Dt} (h:FK a c d):∃ w l,d=.tup (.str w :: l):=by
 cases h <;> exact ⟨_,_,rfl⟩
theorem qC {z:Str} (h:cA z=true):okD (.str z)=true:=by
 simp only [cA,aAq,decide_eq_true_eq] at h;exact decide_eq_true (by lia)
theorem aD {ws:List Str} (h:bo ws=true):1<=ws.length/\ws.length<=8/\ws.all cA=true/\ws.Nodup:=by
 simp only [bo,aAq,decide_eq_true_eq] at h;exact ⟨h.1.1.1,h.1.1.2,h.1.2,h.2⟩
theorem pJ {ws:List Str} (h:ws.Nodup):nG ws=ws.length:=by
 unfold nG L2.gM;rw [aAR,qu,List.length_reverse,aAe];exact List.pairwise_reverse.mpr (List.Pairwise.map _ (λa b n e=>n (Sum.inr.inj e).symm) h)
theorem Bx {a b:Dt} (ha:okD a=true) (hb:okD b=true):okD (.tup [a,b])=true:=by
 show (okD a && (okD b && true))=true;rw [ha,hb]
 rfl
theorem xp {a c:Nat} {d:Dt} (h:FK a c d):okD d=true:=by
 induction h with
 | text i=>rfl
 | choice ws hw =>
  obtain ⟨_,_,hn,_⟩:=aD hw;refine Bx (by decide +kernel) (jf λd hd=>?_);obtain ⟨z,hz,rfl⟩:=aAO.mp hd;exact qC (aAG.mp hn z hz)
 | number i j=>rfl
 | list g _ _ ih =>
  show (okD (.str "list") && (okD _ && (true && true)))=true;rw [ih]
  decide +kernel
theorem qD {a c:Nat} {d:Dt} (h:FK a c d):∀ n,ax n d=decide (a<=n):=by
 induction h with
 | text i h1 h2 =>
  intro n
  cases n with
  | zero=>rw [cj];rfl
  | succ n =>
   show aZ (.int i) 0 60=_;simp [aZ,h1,h2]
 | choice ws hw =>
  obtain ⟨h1,h2,hn,nd⟩:=aD hw;intro n
  cases n with
  | zero=>rw [cj];rfl
  | succ n =>
   show (decide (1<=(ws.map Dt.str).length) && decide ((ws.map Dt.str).length<=8) && (ws.map Dt.str).all bz && decide (nG ((ws.map Dt.str).map sx)=(ws.map Dt.str).length))=_;have e1:(ws.map Dt.str).map sx=ws:=by rw [aAu];exact List.map_id _
   have e2:(ws.map Dt.str).all bz=true:=by rw [aBe];exact hn
   rw [e1,e2,aAe,pJ nd];simp [h1,h2]
 | number i j h1 h12 h2 =>
  intro n
  cases n with
  | zero=>rw [cj];rfl
  | succ n =>
   show (decide (-1000000000000000000000000000000<=i) && decide (i<=j) && decide (j<=1000000000000000000000000000000))=_;simp [h1,h12,h2]
 | @list a c k i g h1 h2 ih =>
  intro n
  cases n with
  | zero=>rw [cj];simp
  | succ n =>
   show (ax n k && (decide ((0:Int)<=i) && decide (i<=8)))=_;rw [ih n];simp [h1,h2]/-- the kinds straight within -/
structure Wi (a c:Nat) (ks:List (Dt×Nat×Nat)):Prop where
 deep:a=sw (ks.map (·.2.1))+1
 many:c=sumN (ks.map (·.2.2))+1
 each:∀ k∈ks,FK k.2.1 k.2.2 k.1
 few:ks.length<=8
def wA (K:W.Frag):Sp:=λvs H Q _=>∃ (a c:Nat) (d:Dt) (x:V),vs=[x]/\IsP K H d x/\FK a c d/\∀ p ys ks H',Same H H'->H p=none->H' p=some (.lst ys)->IsPs K H' (ks.map (·.1)) ys->Wi a c ks->Q (.ref p) H'
abbrev iu (K:W.Frag) (_:Ads):Sp:=wA K
theorem By {a c:Nat} {k:Dt} (g:FK a c k):Wi (a+1) (c+1) [(k,a,c)]:=⟨by show a+1=max a 0+1;lia,rfl,λk' hk=>by rw [aAA.mp hk];exact g,by show 1<=8;decide⟩
theorem lW:Wi 1 1 []:=⟨rfl,rfl,(λk hk=>by cases hk),(1)⟩
theorem iw (T:Tx K mg ad) {f:Addr} {fd:FuncData} (F:Gn K mg "kinds_within" cH ["kind"] f fd):FnOk P w K mg base CX0 2 f fd ["kind"] (iu K ad):=by
 obtain ⟨_,_,Lk⟩:=T.item_kind;have L1:=lT (P:=P) (w:=w) (base:=base) T Lk;refine F.F.ok dW (λvs H Q E h=>?_) (λcdv A outer s H vs Q E hr h=>?_)
 ·obtain ⟨a0,c0,d,x,rfl,_⟩:=h
  rfl
 obtain ⟨a0,c0,d,x,rfl,hd,pk,q⟩:=h;refine ⟨_,(5,@ps_if _ _ _ _ _ _ _ _ (pt_cmpR op_eq (6) pe_str (nomark _)) (3,(4,aG rfl (cs0 (NL:=["name","inner"]) rfl (by decide +kernel) (by decide +kernel)) (aM (K:=K) rfl (6)) (λ_ _ _ _=>(dE (K:=K) (n:=2) rfl rfl (az (ai (i:=0) (show List.Nodup (α:=Str) ["name","inner"] by decide +kernel) rfl (Or.inl rfl)) (az (ai (i:=1) (show List.Nodup (α:=Str) ["name","inner"] by decide +kernel) rfl (Or.inl rfl)) bY)))) (λ_ _ _ _=>(pv 1)))) pss_nil,(5,@ps_set _ _ 1 _ _ _ _ dW.nd rfl (Or.inl rfl) (7,Lk,L1,@pa1 _ _ _ (pv 0) (0)) (0) (.inl rfl),(3,(4,iY (pt_cmpR AV (pv 1) pe_non (nomark _)) (@aB _ _ _ _ cr) (@aB _ _ _ _ (@pa1 _ _ _ (pv 1) (0))))))),?_⟩
 cases pk
 case list a1 c1 k i g h1 h2 =>
  refine ⟨_,rfl,_,_,_,hd,rfl,rfl,isS ?_⟩;refine ⟨rfl,_,rfl,iteN (ae (1)) ?_⟩;refine ⟨_,rfl,_,_,_,x,rfl,hd,.list g h1 h2,λv hv=>?_⟩;refine ⟨_,rfl,rfl,_,rfl,iteN (by obtain ⟨w0,l,rfl⟩:=wz g;obtain ⟨a,_,rfl,_⟩:=hv.unref;intro e;cases e) ?_⟩;exact ⟨_,rfl,sz1,λp hp=>q p _ [(k,a1,c1)] _ (af hp _) hp ac (.cons (hv.same (af hp _)) .nil) (By g)⟩
 case text i h1 h2 =>
  refine ⟨_,rfl,_,_,_,hd,rfl,rfl,isS ?_⟩;refine ⟨rfl,_,rfl,iteN (ae (1)) ?_⟩;refine ⟨_,rfl,_,_,_,x,rfl,hd,.text i h1 h2,?_⟩;exact ⟨_,rfl,rfl,_,rfl,aC ⟨(by show 0<=sizeLine;decide),λp hp=>q p _ [] _ (af hp _) hp ac .nil lW⟩⟩
 case choice ws h1 =>
  refine ⟨_,rfl,_,_,_,hd,rfl,rfl,isS ?_⟩;refine ⟨rfl,_,rfl,iteN (ae (1)) ?_⟩;refine ⟨_,rfl,_,_,_,x,rfl,hd,.choice ws h1,?_⟩;exact ⟨_,rfl,rfl,_,rfl,aC ⟨(by show 0<=sizeLine;decide),λp hp=>q p _ [] _ (af hp _) hp ac .nil lW⟩⟩
 case number i j h1 h12 h2 =>
  refine ⟨_,rfl,_,_,_,hd,rfl,rfl,isS ?_⟩;refine ⟨rfl,_,rfl,iteN (ae (1)) ?_⟩;refine ⟨_,rfl,_,_,_,x,rfl,hd,.number i j h1 h12 h2,?_⟩;exact ⟨_,rfl,rfl,_,rfl,aC ⟨(by show 0<=sizeLine;decide),λp hp=>q p _ [] _ (af hp _) hp ac .nil lW⟩⟩
def uK (K:W.Frag) (n:Nat):Sp:=λvs H Q _=>∃ (a c:Nat) (d:Dt) (x:V),a<=n/\vs=[x]/\IsP K H d x/\FK a c d/\∀ H',Same H H'->Q (.int c) H'
theorem qE:∀ l:List Nat,(l.map λn:Nat=>(n:Int)).sum=((sumN l:Nat):Int)
 | []=>rfl
 | n :: l=>by
  rw [aAS,List.sum_cons,qE l];show _=((n+sumN l:Nat):Int);lia
theorem lX (T:Tx K mg ad) {f:Addr} {fd:FuncData} (n:Nat) (Kx:Gn K mg "kind_many" cP ["kind"] f fd) (KQ:FnOk P w K mg base CX0 (n+3) f fd ["kind"] (uK K n)):FnOk P w K mg base CX0 (n+3+1) f fd ["kind"] (uK K (n+1)):=by
 obtain ⟨_,_,KZ⟩:=T.kinds_within;have LA:=iw (P:=P) (w:=w) (base:=base) T KZ;refine Kx.F.ok ms (λvs H Q E h=>?_) (λcdv A outer s H vs Q E hr h=>?_)
 ·obtain ⟨a0,c0,d,x,_,rfl,_⟩:=h
  rfl
 obtain ⟨a0,c0,d,x,hle,rfl,hd,pk,q⟩:=h;refine ⟨_,(3,(4,@pe_op _ _ _ _ _ _ _ _ bg pe_int (pe_callB tL rfl T.z_sum boot_sum (@pa1 _ _ _ (aG rfl (cs0 (NL:=["inner"]) rfl (by decide +kernel) (by decide +kernel)) (ug (K:=K) rfl (7,KZ,LA,@pa1 _ _ _ (pv 0) (0))) (λ_ _ _ _=>(ai (i:=0) (show List.Nodup (α:=Str) ["inner"] by decide +kernel) rfl (Or.inl rfl))) (λ_ _ _ _=>(7,Kx,KQ,@pa1 _ _ _ (pv 0) (0)))) (0))))),?_⟩;refine ⟨_,rfl,a0,c0,d,x,rfl,hd,pk,λp ys ks H1 g1 hpn e1 hks wi=>?_⟩;have ly:=hks.length;rw [aAe] at ly;have few:=wi.few;refine ⟨p,rfl,⟨_,SqL.of e1⟩,λl hln=>?_⟩;refine ph (K:=K) (xs:=ys) (λi us σ H'=>us=((ks.take i).map λk=>V.int (k.2.2:Nat))/\Same H1 H'/\H' l=some (.lst us)/\σ.length=1) ⟨rfl,af hln _,ac,rfl⟩ (λi us σ H' _ r=>SqL.of (r.2.1 _ _ e1)) ?_ ?_
 ·rintro i y us σ H2 N hy ⟨rfl,g2,e2,hσ⟩ next;obtain ⟨k0,hk0,hp⟩:=hks.get' hy;rw [aAC] at hk0;obtain ⟨k,hk,rfl⟩:=aAE.mp hk0;have mem:=aAs hk;have dl:=uE (aAO.mpr ⟨k,mem,rfl⟩:k.2.1∈ks.map (·.2.1));have dd:=wi.deep
  match σ,hσ with
  | [_],_ =>
   refine ⟨_,rfl,k.2.1,k.2.2,k.1,y,by lia,rfl,hp.same g2,wi.each k mem,λH3 g3=>⟨g3 _ _ e2,?_,next _ _ _ ⟨ci (λk:Dt×Nat×Nat=>V.int (k.2.2:Nat)) hk,aK hln (g2.trans g3),ac,rfl⟩⟩⟩;rw [aAe,aAB];exact am (by lia)
 ·rintro us σ H2 ⟨rfl,g2,e2,_⟩;rw [<- ly,aAR] at e2;have e2':H2 l=some (.lst (((ks.map (·.2.2)).map λn:Nat=>(n:Int)).map V.int)):=by rw [e2,aAu,aAu];rfl
  refine ⟨l,_,rfl,rfl,SqL.of e2',_,_,rfl,rfl,?_⟩;rw [qE];show Q (.int ((1:Int)+((sumN (ks.map (·.2.2)):Nat):Int))) H2;have e:(1:Int)+((sumN (ks.map (·.2.2)):Nat):Int)=((c0:Nat):Int):=by rw [wi.many];lia
  rw [e];exact q H2 (g1.trans g2)
theorem nO (T:Tx K mg ad) {f:Addr} {fd:FuncData} (A:Gn K mg "kind_many" cP ["kind"] f fd):∀ n,FnOk P w K mg base CX0 (n+3) f fd ["kind"] (uK K n)
 | 0=>bi λvs H Q E z=>by obtain ⟨_,_,_,_,h,_,_,pk,_⟩:=z;have:=pk.pos;lia
 | n+1=>lX T n A (nO T A n)
def lY (K:W.Frag) (ad:Ads):Sp:=λvs H Q E=>∃ (d:Dt) (x:V),vs=[x]/\IsP K H d x/\okD d=true /\
 ((ax 5 d=false/\∀ H',Same H H'->E (.ref ad.BadKind) none H')\/(∃ a c,FK a c d/\a<=5/\(c<=40->∀ H',Same H H'->Q x H')/\(40 < c->∀ H',Same H H'->E (.ref ad.BadKind) none H')))
theorem lZ (T:Tx K mg ad) {f:Addr} {fd:FuncData} (F:Gn K mg "made_kind" eD ["kind"] f fd):FnOk P w K mg base (CXE P w) 22 f fd ["kind"] (lY K ad):=by
 obtain ⟨_,_,Kf⟩:=T.is_formed;obtain ⟨f1,d1,D1⟩:=T.are_fields;obtain ⟨f2,d2,D2⟩:=T.are_rows;obtain ⟨f3,d3,D3⟩:=T.is_field;have Ki:=jj (P:=P) (w:=w) (base:=base) T Kf D1 D2 D3 6;obtain ⟨_,_,Kx⟩:=T.kind_many;have KQ:=nO (P:=P) (w:=w) (base:=base) T Kx 5;obtain ⟨t_DEEPEST,c_DEEPEST⟩:=T.DEEPEST;obtain ⟨t_MOST_KINDS,c_MOST_KINDS⟩:=T.MOST_KINDS;refine F.F.okE mn (λvs H Q E h=>?_) (λcdv A outer s H vs Q E hr h=>?_)
 ·obtain ⟨d,x,rfl,_⟩:=h
  rfl
 obtain ⟨d,x,rfl,hd,ok,q⟩:=h;refine ⟨_,(5,@ps_if _ _ _ _ _ _ _ _ (@pt_not _ _ _ _ (@pt_val _ _ _ (7,Kf,Ki,(10,pe_gint rfl c_DEEPEST)) (by intro _;rfl))) (3,ps_raise xeOf rfl rfl rfl rfl T.x_BadKind rfl (@pa1 _ _ _ pe_str (0))) pss_nil,(5,@ps_if _ _ _ _ _ _ _ _ (pt_cmpR op_gt (7,Kx,KQ,@pa1 _ _ _ (pv 0) (0)) (pe_gint rfl c_MOST_KINDS) (nomark _)) (3,ps_raise xeOf rfl rfl rfl rfl T.x_BadKind rfl (@pa1 _ _ _ pe_str (0))) pss_nil,(3,(4,pv 0)))),?_⟩;refine ⟨_,rfl,5,d,x,(1),rfl,hd,ok,λH1 g1=>⟨_,rfl,?_⟩⟩;rcases q with ⟨bad,q⟩ | ⟨a,c,fk,ha,q1,q2⟩
 ·rw [bad];exact aq ⟨sz1,q H1 g1⟩
 ·rw [qD fk,decide_eq_true ha];refine aA ?_;refine ⟨_,rfl,a,c,d,x,ha,rfl,hd.same g1,fk,λH2 g2=>⟨_,_,rfl,rfl,_,rfl,aF (λc1=>?_) (λc1=>?_)⟩⟩
  ·have c':((c:Nat):Int) > 40:=of_decide_eq_true c1;exact ⟨sz1,q2 (by lia) H2 (g1.trans g2)⟩
  ·have c':¬ ((c:Nat):Int) > 40:=λz=>c1 (decide_eq_true z);exact ⟨_,rfl,q1 (by lia) H2 (g1.trans g2)⟩
def jU (K:W.Frag) (_:Ads):Sp:=λvs H Q _=>∃ (a:Addr) (ns:List Int) (k:Int),vs=[.ref a,.int k]/\SqL K H a (ns.map V.int)/\ns.length<=64/\0<=k/\k < 1000 /\
 ∀ r n H',H r=none->Same H H'->H' r=some (.lst [.int n])->Q (.ref r) H'
theorem l0 (T:Tx K mg ad) {f:Addr} {fd:FuncData} (F:Gn K mg "_law_mixed" eJ ["cell","k"] f fd):FnOk P w K mg base CX0 1 f fd ["cell","k"] (lS K ad):=by
 refine F.F.ok gG (λvs H Q E h=>?_) (λcdv A outer s H vs Q E hr h=>?_)
 ·obtain ⟨i,k,rfl,_⟩:=h
  rfl
 obtain ⟨i,k,rfl,q⟩:=h;refine ⟨_,(5,@ps_set _ _ 2 _ _ _ _ gG.nd rfl (Or.inl rfl) (@pe_op _ _ _ _ _ _ _ _ cn (@pe_op _ _ _ _ _ _ _ _ cS (@pe_op _ _ _ _ _ _ _ _ bg (@pe_op _ _ _ _ _ _ _ _ bg (@pe_op _ _ _ _ _ _ _ _ cn (pv 0) pe_int) (@pe_op _ _ _ _ _ _ _ _ cS pe_int (pv 1))) pe_int) pe_int) pe_int) (0) (.inl rfl),(3,(4,@pe_op _ _ _ _ _ _ _ _ cn (@pe_op _ _ _ _ _ _ _ _ cS (@pe_op _ _ _ _ _ _ _ _ cn (@pe_op _ _ _ _ _ _ _ _ cS (pv 2) (pv 2)) pe_int) pe_int) pe_int))),?_⟩;refine ⟨_,rfl,_,_,rfl,rfl,(by show (0:Int) < 1000000007;decide),_,rfl,_,_,rfl,rfl,.inl ⟨by decide,(1)⟩,_,_,rfl,rfl,_,_,rfl,rfl,_,_,rfl,rfl,.inr ⟨by decide,(1)⟩,_,_,rfl,rfl,(by show (0:Int) < 2147483647;decide),?_⟩;have b0:(0:Int)<=(i % 1000000007+7919*k+1)*48271 % 2147483647:=aBv _ (1);have b1:(i % 1000000007+7919*k+1)*48271 % 2147483647 < 2147483647:=aBk _ (1);exact ⟨_,rfl,_,rfl,_,_,rfl,rfl,.inl ⟨by lia,by lia⟩,_,_,rfl,rfl,(by show (0:Int) < 2147483629;decide),_,_,rfl,rfl,.inr ⟨by decide,(1)⟩,_,_,rfl,rfl,(by show (0:Int) < 2147483647;decide),q _⟩
theorem aU (T:Tx K mg ad) {f:Addr} {fd:FuncData} (F:Gn K mg "_law_digit" eK ["row","many"] f fd):FnOk P w K mg base CX0 1 f fd ["row","many"] (fZ K ad):=by
 refine F.F.ok gH (λvs H Q E h=>?_) (λcdv A outer s H vs Q E hr h=>?_)
 ·obtain ⟨r,n,m,rfl,_⟩:=h
  rfl
 obtain ⟨r,n,m,rfl,hr0,h0,h1,q⟩:=h;refine ⟨_,(5,@ps_set _ _ 2 _ _ _ _ gH.nd rfl (Or.inl rfl) (@pe_op _ _ _ _ _ _ _ _ cn (@pe_ix _ _ _ _ _ _ _ (aL (K:=K) rfl) (pv 0) pe_int (λ_ _=>rfl)) (pv 1)) (0) (.inl rfl),(5,sQ (@pe_op _ _ _ _ _ _ _ _ aQ (@pe_ix _ _ _ _ _ _ _ (aL (K:=K) rfl) (pv 0) pe_int (λ_ _=>rfl)) (pv 1)) (AR (pv 0) pe_int tt),(3,(4,pv 2)))),?_⟩;have e0:atI [V.int n] 0=some (.int n):=rfl;exact ⟨_,rfl,r,_,_,_,rfl,rfl,SqL.of hr0,e0,_,rfl,_,_,rfl,rfl,h0,_,rfl,r,_,_,_,rfl,rfl,SqL.of hr0,e0,_,rfl,_,_,rfl,rfl,⟨h0,h1⟩,_,rfl,r,_,_,_,rfl,rfl,hr0,rfl,_,rfl,q⟩
theorem pK {α:Type} {xs:List α} {d:Int} (h0:0<=d) (h1:d < (xs.length:Int)):∃ v,v∈xs/\atI xs d=some v:=by
 have hk:d.toNat < xs.length:=by lia
 have ek:((d.toNat:Nat):Int)=d:=by lia
 have e:atI xs ((d.toNat:Nat):Int)=some xs[d.toNat]:=eS (by simp [hk]);rw [ek] at e;exact ⟨xs[d.toNat],aBg hk,e⟩
theorem mod_lt (n:Int) {m:Int} (h:0 < m):0<=n % m/\n % m < m:=⟨aBv _ (by lia),aBk _ h⟩
theorem Bz (x:Int):Builtin.Int.intBits (x % 10 ^ (60:Int).toNat)<=200:=by
 have h0:(0:Int) < 10 ^ (60:Int).toNat:=by decide +kernel
 refine vS (aBv _ (Int.ne_of_gt h0)) (Int.lt_trans (aBk _ h0) ?_)
 decide +kernel
theorem qF:Builtin.Int.intBits ((10:Int) ^ (60:Int).toNat)<=200:=by decide +kernel
theorem pL {lo c:Int} {n:Nat} {g:TG} {tb:TS} {D:Ends} {σ:L2.St} {H:Hp} (Pv:Nat->L2.St->Hp->Prop) (h0:Pv 0 σ H)
  (hs:∀ i σ H,i < n->Pv i σ H->g (.int (lo+i*c)) σ H λσ2 H2=>tb { D with nx:=Pv (i+1),ct:=Pv (i+1),bk:=D.nx } σ2 H2) (hd:∀ σ H,Pv n σ H->D.nx σ H) :
  ∃ W:Nat->Nat->L2.St->Hp->Prop,(∃ m,W 0 m σ H)/\∀ i m σ H,W i m σ H ->
   ((tW lo c n).stop i H/\D.nx σ H)\/((tW lo c n).go i H/\∃ N:L2.St->Hp->Prop,(∀ σ' H',N σ' H'->∃ m',m' < m/\W (i+1) m' σ' H')/\∀ x H',(tW lo c n).yld i H x H'->g x σ H' λσ2 H2=>tb { D with nx:=N,ct:=N,bk:=D.nx } σ2 H2):=by
 refine ⟨λi m σ H=>m=n - i/\i<=n/\Pv i σ H,⟨n,by simp,aAI _,h0⟩,?_⟩;rintro i m σ H ⟨rfl,hi,p⟩
 by_cases hlt:i < n
 ·refine .inr ⟨hlt,Pv (i+1),λσ' H' p'=>⟨n - (i+1),by lia,rfl,hlt,p'⟩,λx H' y=>?_⟩;obtain ⟨e,y⟩:=y;subst e y;exact hs i σ _ hlt p
 ·have e:i=n:=by lia
  subst e;exact .inl ⟨aAf _,hd σ H p⟩
theorem jV (T:Tx K mg ad) {f:Addr} {fd:FuncData} (F:Gn K mg "_law_stream" dO ["script","k"] f fd):FnOk P w K mg base CX0 2 f fd ["script","k"] (jU K ad):=by
 obtain ⟨_,_,Lm⟩:=T.law_mixed;have LW:=l0 (P:=P) (w:=w) (base:=base) T Lm;refine F.F.ok aO (λvs H Q E h=>?_) (λcdv A outer s H vs Q E hr h=>?_)
 ·obtain ⟨a,ns,k,rfl,_⟩:=h
  rfl
 obtain ⟨a,ns,k,rfl,hS,h63,h0,h1,q⟩:=h;refine ⟨_,(@pss_cons _ _ _ _ _ (@ps_set _ _ 2 _ _ _ _ aO.nd rfl (Or.inl rfl) pe_int (0) (.inl rfl)) (@pss_cons _ _ _ _ _ (dm PassesOwn.never rfl (rM rfl T.z_range (11,pv 1,pe_callB (cT (K:=K) rfl) rfl T.z_len PySem.boot_len (@pa1 _ _ _ (pv 0) (0)),pe_int)) (ai (i:=3) aO.nd rfl (Or.inl rfl))
    (3,@ps_set _ _ 2 _ _ _ _ aO.nd rfl (Or.inl rfl) (@pe_op _ _ _ _ _ _ _ _ bg (@pe_op _ _ _ _ _ _ _ _ vP (pv 2) (@pe_op _ _ _ _ _ _ _ _ op_pow pe_int pe_int)) (@pe_op _ _ _ _ _ _ _ _ cn (@pe_ix _ _ _ _ _ _ _ (aL (K:=K) rfl) (pv 0) (pv 3) (λ_ _=>rfl)) (@pe_op _ _ _ _ _ _ _ _ op_pow pe_int pe_int))) (0) (.inl rfl))) (@pss_cons _ _ _ _ _ (@ps_if _ _ _ _ _ _ _ _ (pt_cmpR sV (pv 2) (@pe_op _ _ _ _ _ _ _ _ op_pow pe_int pe_int) (nomark _)) (3,(4,@aB _ _ _ _ (@pa1 _ _ _ (pv 2) (0)))) pss_nil) (@pss_cons _ _ _ _ _ (@ps_set _ _ 4 _ _ _ _ aO.nd rfl (Or.inl rfl) pe_int (0) (.inl rfl)) (@pss_cons _ _ _ _ _ (dm PassesOwn.never rfl (cg rfl T.z_range (@pa1 _ _ _ pe_int (0))) (ai (i:=3) aO.nd rfl (Or.inl rfl))
    (3,@ps_set _ _ 4 _ _ _ _ aO.nd rfl (Or.inl rfl) (@pe_op _ _ _ _ _ _ _ _ bg (@pe_op _ _ _ _ _ _ _ _ cS (pv 4) pe_int) (7,Lm,LW,(9,@pe_op _ _ _ _ _ _ _ _ bg (@pe_op _ _ _ _ _ _ _ _ bg (pv 2) (@pe_op _ _ _ _ _ _ _ _ cS pe_int (pv 1))) (pe_callB (cT (K:=K) rfl) rfl T.z_len PySem.boot_len (@pa1 _ _ _ (pv 0) (0))),pv 3))) (0) (.inl rfl))) (3,(4,@aB _ _ _ _ (@pa1 _ _ _ (@pe_op _ _ _ _ _ _ _ _ aQ (pv 4) pe_int) (0))))))))),?_⟩
 have hlen:(ns.map V.int).length=ns.length:=aAe _;have hn:rngN k ns.length 9<=64:=by
  have:=qt (a:=k) (b:=ns.length) (c:=9) (1)
  split at this <;> lia
 refine ⟨_,rfl,_,rfl,a,_,rfl,.inl hS,_,_,_,rfl,⟨h0,by lia,by lia,by rw [hlen];lia,(1),(1)⟩,?_⟩;rw [hlen];refine pL (lo:=k) (c:=9) (n:=rngN k ns.length 9) (λi σ H'=>H'=H/\∃ x v,Builtin.Int.intBits x<=1+402*i/\σ=[some (.ref a),some (.int k),some (.int x),v,none]) ⟨rfl,0,none,(1),rfl⟩ ?_ ?_
 ·rintro i σ H' hi ⟨rfl,x,v,hx,rfl⟩;have hlt:=vR (a:=k) (b:=ns.length) (c:=9) (1) hi;have hk:(k+i*9).toNat < ns.length:=by lia
  have ek:(((k+i*9).toNat:Nat):Int)=k+i*9:=by lia
  have e:atI (ns.map V.int) (((k+i*9).toNat:Nat):Int)=some (.int ns[(k+i*9).toNat]):=eS (by simp [hk]);rw [ek] at e;refine ⟨_,rfl,_,_,rfl,rfl,⟨by decide,(1),(1)⟩,_,_,rfl,rfl,mulOk_of_bits (m:=1+402*i) (n:=200) hx qF (by lia),?_⟩;refine ⟨_,rfl,_,rfl,a,_,_,_,rfl,rfl,hS,e,_,_,rfl,rfl,⟨by decide,(1),(1)⟩,_,_,rfl,rfl,(by show (0:Int) < 10 ^ (60:Int).toNat;decide +kernel),_,_,rfl,rfl,?_⟩;refine ⟨rfl,_,_,?_,rfl⟩;refine aAw (intBits_add_le (intBits_mul_le hx qF) (Bz _)) ?_;lia
 ·rintro σ H' ⟨rfl,x,v,hx,rfl⟩;refine ⟨_,rfl,_,_,rfl,rfl,⟨by decide,(1),(1)⟩,_,_,rfl,rfl,_,rfl,?_⟩;refine aF (λc1=>?_) (λc1=>?_)
  ·exact ⟨_,rfl,sz1,λr hr'=>q r x _ hr' (af hr' _) ac⟩
  refine ⟨9,rfl,(1),(1),c7 (lo:=0) (n:=(9:Int).toNat) (λi σ H1=>H1=H'/\∃ y v,σ=[some (.ref a),some (.int k),some (.int x),v,some (.int y)]) ⟨rfl,0,_,rfl⟩ ?_ ?_⟩
  ·rintro i σ H1 hi ⟨rfl,y,v,rfl⟩;refine ⟨_,rfl,_,_,rfl,rfl,.inr ⟨by decide,(1)⟩,?_⟩;refine ⟨_,rfl,_,rfl,_,_,rfl,rfl,.inl ⟨by decide,(1)⟩,_,_,rfl,rfl,_,rfl,a,_,rfl,.inl hS,_,_,rfl,rfl,_,rfl,_,_,rfl,λm=>?_⟩;exact ⟨_,_,rfl,rfl,rfl,_,_,rfl⟩
  ·rintro σ H1 ⟨rfl,y,v,rfl⟩;exact ⟨_,rfl,_,_,rfl,rfl,⟨by decide,(1)⟩,sz1,λr hr'=>q r _ _ hr' (af hr' _) ac⟩
def cb:Nat->Nat
 | 0=>1
 | n+1=>2*cb n+1
theorem pM:∀ n,1<=cb n
 | 0=>aAf 1
 | n+1=>by show 1<=2*cb n+1;lia
def GK (n:Nat) (d:Dt):Prop:=∃ a c,FK a c d/\a<=n+1/\c<=cb n
theorem GK.text (n:Nat) (i:Int) (h1:0<=i) (h2:i<=60):GK n (.tup [.str "text",.int i]):=⟨1,1,.text i h1 h2,by lia,pM n⟩
theorem GK.choice (n:Nat) (ws:List Str) (h:bo ws=true):GK n (.tup [.str "choice",.tup (ws.map Dt.str)]):=⟨1,1,.choice ws h,by lia,pM n⟩
theorem GK.number (n:Nat) (i j:Int) (h1:-1000000000000000000000000000000<=i) (h2:i<=j) (h3:j<=1000000000000000000000000000000):GK n (.tup [.str "number",.int i,.int j]):=⟨1,1,.number i j h1 h2 h3,by lia,pM n⟩
theorem GK.list {n:Nat} {k:Dt} {i:Int} (g:GK n k) (h1:0<=i) (h2:i<=8):GK (n+1) (.tup [.str "list",k,.int i]):=by
 obtain ⟨a,c,fk,ha,hc⟩:=g;exact ⟨a+1,c+1,.list fk h1 h2,by lia,(by show c+1<=2*cb n+1;lia)⟩
inductive SK:Nat->Dt->Prop
 | text (i:Int):0<=i->i<=60->SK 1 (.tup [.str "text",.int i])
 | choice (ws:List Str):bo ws=true->SK 1 (.tup [.str "choice",.tup (ws.map Dt.str)])
 | number (i j:Int):-1000000000000000000000000000000<=i->i<=j->j<=1000000000000000000000000000000->SK 1 (.tup [.str "number",.int i,.int j])
 | list {a:Nat} {k:Dt} {i:Int}:SK a k->1<=i->i<=8->SK (a+1) (.tup [.str "list",k,.int i])
def nP (K:W.Frag) (_:Ads):Sp:=λvs H Q _=>∃ (r:Addr) (c:Int),vs=[.ref r]/\H r=some (.lst [.int c])/\∀ v d n' H',But r H H'->H' r=some (.lst [.int n'])->IsP K H' d v->SK 1 d->Q v H'
theorem qG {ns:List Int} {d:Int} (h0:0<=d) (h1:d < (ns.length:Int)):∃ i:Int,i∈ns/\atI (ns.map V.int) d=some (.int i):=by
 obtain ⟨v,hv,e⟩:=pK (xs:=ns.map V.int) h0 (by rw [aAe];exact h1);obtain ⟨i,hi,rfl⟩:=aAO.mp hv;exact ⟨i,hi,e⟩
theorem xr:(10:Int) ^ (30:Int).toNat=1000000000000000000000000000000:=by decide +kernel
theorem BA {i j:Int} (h:i<=1000000000000000000000000000000) (hj:0<=j):i<=if i+j < 10 ^ (30:Int).toNat then i+j else 10 ^ (30:Int).toNat:=by
 rw [xr]
 split <;> lia
theorem BB (x:Int):(if x < 10 ^ (30:Int).toNat then x else 10 ^ (30:Int).toNat)<=1000000000000000000000000000000:=by
 rw [xr]
 split <;> lia
theorem qH:∀ i∈([0,1,3,5,60]:List Int),0<=i/\i<=60:=(1)
theorem uL:∀ i∈([0,0,-7,10,3,-(10 ^ (30:Int).toNat)]:List Int),-1000000000000000000000000000000<=i/\i<=1000000000000000000000000000000:=by decide +kernel
theorem sY:∀ i∈([9,0,30,99,20,10 ^ (30:Int).toNat]:List Int),0<=i:=by decide +kernel
theorem BC:∀ k:Fin 3,∃ ws:List Str,bo ws=true/\jM [.str "b",.str "a",.str "no",.str "yes"] (some (k.val:Int)) none=ws.map Dt.str
 | 0=>⟨["b","a","no","yes"],by decide +kernel,(0)⟩
 | 1=>⟨["a","no","yes"],by decide +kernel,(0)⟩
 | 2=>⟨["no","yes"],by decide +kernel,(0)⟩
theorem wB (c:Int):∃ ws:List Str,bo ws=true/\jM [.str "b",.str "a",.str "no",.str "yes"] (some (c % 3)) none=ws.map Dt.str:=by
 obtain ⟨h0,h1⟩:=mod_lt c (m:=3) (1);obtain ⟨ws,a,e⟩:=BC ⟨(c % 3).toNat,by lia⟩;refine ⟨ws,a,?_⟩;rw [<- e];show jM _ (some (c % 3)) none=jM _ (some (((c % 3).toNat:Nat):Int)) none;rw [show (((c % 3).toNat:Nat):Int)=c % 3 by lia]
theorem nQ (T:Tx K mg ad) {f:Addr} {fd:FuncData} (F:Gn K mg "_law_leaf" fK ["row"] f fd):FnOk P w K mg base CX0 2 f fd ["row"] (nP K ad):=by
 obtain ⟨_,_,J7⟩:=T.law_digit;have J8:=aU (P:=P) (w:=w) (base:=base) T J7;refine F.F.ok eO (λvs H Q E h=>?_) (λcdv A outer s H vs Q E hr h=>?_)
 ·obtain ⟨r,c,rfl,_⟩:=h
  rfl
 obtain ⟨r,c,rfl,hr0,q⟩:=h;refine ⟨_,(5,@ps_set _ _ 1 _ _ _ _ eO.nd rfl (Or.inl rfl) (pcl J7 J8 (hr.mono (by lia)) rfl (@pa2 _ _ _ _ _ (pv 0) pe_int (0) (0))) (0) (.inl rfl),(5,@ps_if _ _ _ _ _ _ _ _ (pt_cmpR op_eq (pv 1) pe_int (nomark _)) (3,(4,(8,@pa2 _ _ _ _ _ pe_str (@pe_ix _ _ _ _ _ _ _ (aL (K:=K) rfl) (@aB _ _ _ _ (@ak _ _ _ _ _ pe_int (@ak _ _ _ _ _ pe_int (11,pe_int,pe_int,pe_int) (0)) (0))) (pcl J7 J8 (hr.mono (by lia)) rfl (@pa2 _ _ _ _ _ (pv 0) pe_int (0) (0))) (λ_ _=>rfl)) (0) (0)))) pss_nil,(5,@ps_if _ _ _ _ _ _ _ _ (pt_cmpR op_eq (pv 1) pe_int (nomark _)) (3,(4,(8,@pa2 _ _ _ _ _ pe_str (cu (i7 (K:=K) rfl) (8,@ak _ _ _ _ _ pe_str (@pa3 _ _ _ _ _ _ _ pe_str pe_str pe_str (0) (0) (0)) (0)) (du (pcl J7 J8 (hr.mono (by lia)) rfl (@pa2 _ _ _ _ _ (pv 0) pe_int (0) (0)))) dr) (0) (0)))) pss_nil,(5,@ps_set _ _ 2 _ _ _ _ eO.nd rfl (Or.inl rfl) (@pe_ix _ _ _ _ _ _ _ (aL (K:=K) rfl) (@aB _ _ _ _ (@ak _ _ _ _ _ pe_int (@ak _ _ _ _ _ pe_int (@ak _ _ _ _ _ (@pe_un _ _ _ _ _ _ un_neg pe_int) (11,pe_int,pe_int,@pe_un _ _ _ _ _ _ un_neg (@pe_op _ _ _ _ _ _ _ _ op_pow pe_int pe_int)) (0)) (0)) (0))) (pcl J7 J8 (hr.mono (by lia)) rfl (@pa2 _ _ _ _ _ (pv 0) pe_int (0) (0))) (λ_ _=>rfl)) (0) (.inl rfl),(3,(4,(8,@pa3 _ _ _ _ _ _ _ pe_str (pv 2) (pe_callB (eR rfl) rfl T.z_min boot_min (9,@pe_op _ _ _ _ _ _ _ _ op_pow pe_int pe_int,@pe_op _ _ _ _ _ _ _ _ bg (pv 2) (@pe_ix _ _ _ _ _ _ _ (aL (K:=K) rfl) (@aB _ _ _ _ (@ak _ _ _ _ _ pe_int (@ak _ _ _ _ _ pe_int (@ak _ _ _ _ _ pe_int (11,pe_int,pe_int,@pe_op _ _ _ _ _ _ _ _ op_pow pe_int pe_int) (0)) (0)) (0))) (pcl J7 J8 (hr.mono (by lia)) rfl (@pa2 _ _ _ _ _ (pv 0) pe_int (0) (0))) (λ_ _=>rfl)))) (0) (0) (0)))))))),?_⟩;refine ⟨_,rfl,r,c,4,rfl,hr0,(1),(1),?_⟩;refine ⟨_,rfl,rfl,_,rfl,?_⟩;refine aF (λc1=>?_) (λc1=>?_)
 ·refine ⟨(by show 5<=sizeLine;decide),λp hp=>?_⟩;have nrp:r≠p:=ah ac hp;obtain ⟨d0,d1⟩:=mod_lt (c / 4) (m:=5) (1);obtain ⟨i,mi,ei⟩:=qG (ns:=[0,1,3,5,60]) d0 d1;refine ⟨_,rfl,r,c / 4,5,rfl,(by rw [ag nrp];exact ac),(1),(1),p,_,_,_,rfl,rfl,SqL.of (by rw [ag nrp.symm];exact ac),ei,?_⟩;refine ⟨[.str "text",.int i],.cons .str (.cons .int .nil),sz2,λv H' g hv=>?_⟩;exact q v _ _ H' (((But.put.trans (But.same (af hp _))).trans But.put).trans (But.same g)) (g _ _ ac) hv (.text i (qH i mi).1 (qH i mi).2)
 refine ⟨_,rfl,rfl,_,rfl,?_⟩;refine aF (λc2=>?_) (λc2=>?_)
 ·refine ⟨[.str "b",.str "a",.str "no",.str "yes"],.cons .str (.cons .str (.cons .str (.cons .str .nil))),(by show 4<=sizeLine;decide),λv1 H1 g1 hv1=>?_⟩;have e1:=g1 _ _ (ac (H:=H) (a:=r) (o:=.lst [.int (c / 4)]));refine ⟨_,rfl,r,c / 4,3,rfl,e1,(1),(1),_,rfl,?_⟩;have hv2:=hv1.but e1 (But.put (o:=.lst [.int (c / 4 / 3)]));refine ⟨_,hv2,λv3 H3 g3 hv3=>?_⟩;refine ⟨[.str "choice",_],.cons .str (.cons hv3 .nil),sz2,λv H' g hv=>?_⟩;refine q v _ _ H' ((((But.put.trans (But.same g1)).trans But.put).trans (But.same g3)).trans (But.same g)) (g _ _ (g3 _ _ ac)) hv ?_;obtain ⟨ws,l1,ew⟩:=wB (c / 4);rw [ew];exact .choice ws l1
 refine ⟨_,rfl,_,_,rfl,rfl,⟨by decide,(1),(1)⟩,_,rfl,(by show 6<=sizeLine;decide),λp hp=>?_⟩;have nrp:r≠p:=ah ac hp;obtain ⟨d0,d1⟩:=mod_lt (c / 4) (m:=6) (1);obtain ⟨i,mi,ei⟩:=qG (ns:=[0,0,-7,10,3,-(10 ^ (30:Int).toNat)]) d0 d1;refine ⟨_,rfl,r,c / 4,6,rfl,(by rw [ag nrp];exact ac),(1),(1),p,_,_,_,rfl,rfl,SqL.of (by rw [ag nrp.symm];exact ac),ei,?_⟩;refine ⟨_,rfl,_,_,rfl,rfl,⟨by decide,(1),(1)⟩,_,rfl,_,_,rfl,rfl,⟨by decide,(1),(1)⟩,(by show 6<=sizeLine;decide),λp2 hp2=>?_⟩;have nrp2:r≠p2:=ah ac hp2;obtain ⟨g0,g1⟩:=mod_lt (c / 4 / 6) (m:=6) (1);obtain ⟨j,mj,ej⟩:=qG (ns:=[9,0,30,99,20,10 ^ (30:Int).toNat]) g0 g1;refine ⟨_,rfl,r,c / 4 / 6,6,rfl,(by rw [ag nrp2];exact ac),(1),(1),p2,_,_,_,rfl,rfl,SqL.of (by rw [ag nrp2.symm];exact ac),ej,_,_,rfl,rfl,_,_,rfl,?_⟩;refine ⟨[.str "number",.int _,.int _],.cons .str (.cons .int (.cons .int .nil)),sz3,λv H' g hv=>?_⟩;exact q v _ _ H' (((((But.put.trans (But.same (af hp _))).trans But.put).trans (But.same (af hp2 _))).trans But.put).trans (But.same g)) (g _ _ ac) hv (.number _ _ (uL i mi).1 (BA (uL i mi).2 (sY j mj)) (BB _))
def wC:List (Str×Int):=[("bounds",3),("scale",2),("shrink",2),("figures",2),("number",3),("words",3),("cut",2),("first",2),("one",2),("out",1),("items",2)]
def cO:Dt->Bool
 | .tup (.str u :: l)=>decide (bL u wC=.int ((l.length+1:Nat):Int))
 | _=>false
def figN (n:Int):Nat:=(strI n).length
theorem gd (n:Int):(Str.ofString (toString n)).length=figN n:=by
 unfold figN;rw [<- str_int]
 rfl
def bq (n:Int):Prop:=-1000000000000000000000000000000<=n/\n<=1000000000000000000000000000000
theorem uM {n:Int} (h:bq n):figN n<=32:=by
 obtain ⟨h1,h2⟩:=h;have:(dg n.natAbs).length<=30+1:=lD 30 n.natAbs (by
  have:n.natAbs<=1000000000000000000000000000000:=by lia
  exact aBb this (1))
 unfold figN strI
 split
 ·rw [aAo];lia
 ·lia
theorem BD {n:Int} (h:bq n):n.natAbs.log2 < 1920:=by
 obtain ⟨h1,h2⟩:=h
 by_cases z:n.natAbs=0
 ·rw [z];decide
 ·rw [Nat.log2_lt z];have:n.natAbs<=1000000000000000000000000000000:=by lia
  exact aBb this (by decide +kernel)
def kP (i j:Int):Int:=if ((figN j:Nat):Int) > ((figN i:Nat):Int) then ((figN j:Nat):Int) else ((figN i:Nat):Int)
def prT (p:Dt×Dt):Dt:=.tup [p.1,p.2]
def jW (_:W.Frag) (_:Ads):Sp:=λvs H Q _=>∃ i:Int,vs=[.int i]/\bq i/\Q (.str (Str.ofString (toString i))) H
def ix (_:W.Frag) (_:Ads):Sp:=λvs H Q _=>∃ i j:Int,vs=[.int i,.int j]/\bq i/\bq j/\Q (.int (kP i j)) H
def l5 (K:W.Frag) (_:Ads):Sp:=λvs H Q _=>∃ (d:Dt) (x:V),vs=[x]/\IsP K H d x/\okD d=true/\Q (.bl (aZ d 2 1000)) H
def gf (K:W.Frag) (_:Ads):Sp:=λvs H Q _=>∃ (d:Dt) (x:V),vs=[x]/\IsP K H d x/\okD d=true/\Q (.bl (cO d)) H
def iy (K:W.Frag) (_:Ads):Sp:=λvs H Q _=>∃ (ps:List (Dt×Dt)) (x:V),vs=[x]/\IsP K H (.tup (ps.map prT)) x/\ps.length<=999/\∀ v H',Same H H'->IsP K H' (.tup (ps.map (·.1))) v->Q v H'
theorem sA {H:Hp} {p:Dt×Dt} {v:V} (h:IsP K H (prT p) v):∃ b y z,v=.ref b/\SqT K H b [y,z]/\IsP K H p.1 y/\IsP K H p.2 z:=by
 obtain ⟨b,ys,rfl,hb,pb,rb⟩:=h.unref
 cases rb with
 | cons r1 rb =>
  cases rb with
  | @cons _ _ y2 _ r2 rb =>
   cases rb
   exact ⟨b,_,_,rfl,hb,r1,r2⟩
theorem fo (T:Tx K mg ad) {f:Addr} {fd:FuncData} (F:Gn K mg "figures_of" dJ ["number"] f fd):FnOk P w K mg base CX0 1 f fd ["number"] (jW K ad):=by
 refine F.F.ok ki (λvs H Q E h=>?_) (λcdv A outer s H vs Q E hr h=>?_)
 ·obtain ⟨i,rfl,_⟩:=h
  rfl
 obtain ⟨i,rfl,hi,q⟩:=h;refine ⟨_,(3,(4,pe_callTy kY rfl T.z_str boot_str (@pa1 _ _ _ (pv 0) (0)))),?_⟩;exact ⟨_,rfl,i,rfl,BD hi,q⟩
theorem iz (T:Tx K mg ad) {f:Addr} {fd:FuncData} (F:Gn K mg "most_figures" cI ["low","high"] f fd):FnOk P w K mg base CX0 2 f fd ["low","high"] (ix K ad):=by
 obtain ⟨_,_,Kj⟩:=T.figures_of;have Ky:=fo (P:=P) (w:=w) (base:=base) T Kj;refine F.F.ok iJ (λvs H Q E h=>?_) (λcdv A outer s H vs Q E hr h=>?_)
 ·obtain ⟨i,j,rfl,_⟩:=h
  rfl
 obtain ⟨i,j,rfl,hi,hj,q⟩:=h;refine ⟨_,(3,(4,pe_callB (eQ rfl) rfl T.z_max boot_max (9,pe_callB call_len_str rfl T.z_len PySem.boot_len (@pa1 _ _ _ (7,Kj,Ky,@pa1 _ _ _ (pv 0) (0)) (0)),pe_callB call_len_str rfl T.z_len PySem.boot_len (@pa1 _ _ _ (7,Kj,Ky,@pa1 _ _ _ (pv 1) (0)) (0))))),?_⟩;have li:=uM hi;have lj:=uM hj;refine ⟨_,rfl,i,rfl,hi,_,rfl,(by rw [gd];exact aAM (am (by lia))),?_⟩;refine ⟨_,rfl,j,rfl,hj,_,rfl,(by rw [gd];exact aAM (am (by lia))),?_⟩;refine ⟨_,_,rfl,?_⟩;rw [gd,gd];exact q
theorem gh (T:Tx K mg ad) {f:Addr} {fd:FuncData} (F:Gn K mg "is_factor" eH ["thing"] f fd):FnOk P w K mg base CX0 3 f fd ["thing"] (l5 K ad):=by
 obtain ⟨_,_,Kb⟩:=T.is_whole_within;have Kd:=bw (P:=P) (w:=w) (base:=base) T Kb;obtain ⟨t_LEAST_FACTOR,c_LEAST_FACTOR⟩:=T.LEAST_FACTOR;obtain ⟨t_GREATEST_FACTOR,c_GREATEST_FACTOR⟩:=T.GREATEST_FACTOR;refine F.F.ok mw (λvs H Q E h=>?_) (λcdv A outer s H vs Q E hr h=>?_)
 ·obtain ⟨d,x,rfl,_⟩:=h
  rfl
 obtain ⟨d,x,rfl,hd,ok,q⟩:=h;refine ⟨_,(3,(4,(7,Kb,Kd,(11,pv 0,pe_gint rfl c_LEAST_FACTOR,pe_gint rfl c_GREATEST_FACTOR)))),?_⟩;exact ⟨_,rfl,d,x,2,1000,rfl,hd,ok,q⟩
theorem gj (T:Tx K mg ad) {f:Addr} {fd:FuncData} (F:Gn K mg "has_turn_parts" bN ["thing"] f fd):FnOk P w K mg base CX0 1 f fd ["thing"] (gf K ad):=by
 obtain ⟨t_TURN_COUNTS,c_TURN_COUNTS,d_TURN_COUNTS⟩:=T.TURN_COUNTS;refine F.F.ok gB (λvs H Q E h=>?_) (λcdv A outer s H vs Q E hr h=>?_)
 ·obtain ⟨d,x,rfl,_⟩:=h
  rfl
 obtain ⟨d,x,rfl,hd,ok,q⟩:=h;refine ⟨_,(5,(12,PW.pt (@pw_or _ _ _ _ _ _ _ (@pt_not _ _ _ _ (@pt_val _ _ _ (pe_callB (aj (K:=K) rfl) rfl T.z_isinstance boot_isinstance (10,aH rfl T.z_tuple boot_tuple)) (by intro _;rfl))) (@pw_or _ _ _ _ _ _ _ (pt_cmpR op_eq (pe_callB (call_lenDN (K:=K) rfl) rfl T.z_len PySem.boot_len (@pa1 _ _ _ (pv 0) (0))) pe_int (nomark _)) (@pw_or1 _ _ _ _ (@pt_not _ _ _ _ (@pt_val _ _ _ (pe_callB (aj (K:=K) rfl) rfl T.z_isinstance boot_isinstance (9,(6),aH rfl T.z_str boot_str)) (by intro _;rfl))))))),(3,(4,pe_cmpR op_eq (pe_kget d_TURN_COUNTS rfl c_TURN_COUNTS (@pa1 _ _ _ (6) (0))) (pe_callB (call_lenDN (K:=K) rfl) rfl T.z_len PySem.boot_len (@pa1 _ _ _ (pv 0) (0))) (nomark _)))),?_⟩
 cases d with
 | non=>cases ok
 | bl=>cases ok
 | int i =>
  cases hd
  exact ⟨_,rfl,_,_,_,rfl,.int_tuple,_,rfl,aq (aq q)⟩
 | str z =>
  cases hd
  exact ⟨_,rfl,_,_,_,rfl,.str_tuple,_,rfl,aq (aq q)⟩
 | tup l =>
  obtain ⟨a,xs,rfl,ha,pa,ra⟩:=id hd.unref;refine ⟨_,rfl,_,_,_,rfl,.tup_tuple ha,_,rfl,aA ?_⟩;refine ⟨_,rfl,_,_,rfl,hd.d,rfl,_,rfl,?_⟩
  cases l with
  | nil=>exact aC (aq q)
  | cons e l =>
   refine iteN (λz=>?_) ?_
   ·injection z with z
    rw [aAo] at z;lia
   have oke:=ay ok e aAr;refine ⟨_,rfl,_,_,_,hd,rfl,at0 _ _,λv hv=>?_⟩
   cases e with
   | non=>cases oke
   | bl=>cases oke
   | int i =>
    cases hv
    exact ⟨_,_,_,rfl,.int_str,_,rfl,aq q⟩
   | tup l =>
    obtain ⟨a1,xs1,rfl,ha1,_,_⟩:=id hv.unref;exact ⟨_,_,_,rfl,.tup_str ha1,_,rfl,aq q⟩
   | str u =>
    obtain rfl:=ao hv;refine ⟨_,_,_,rfl,.str_str,_,rfl,aA ?_⟩;refine ⟨_,rfl,_,_,_,hd,rfl,at0 _ _,isS ?_⟩;refine ⟨_,rfl,_,rfl,_,_,rfl,hd.d,gO u _ _,q⟩
theorem dR (T:Tx K mg ad) {f:Addr} {fd:FuncData} (F:Gn K mg "words_behind" cJ ["back"] f fd):FnOk P w K mg base CX0 1 f fd ["back"] (iy K ad):=by
 refine F.F.ok iK (λvs H Q E h=>?_) (λcdv A outer s H vs Q E hr h=>?_)
 ·obtain ⟨ps,x,rfl,_⟩:=h
  rfl
 obtain ⟨ps,x,rfl,hd,hl,q⟩:=h;refine ⟨_,(3,(4,pe_callTy (bD (K:=K) rfl) rfl T.z_tuple boot_tuple (@pa1 _ _ _ (aG rfl (cs0 (NL:=["first","word"]) rfl (by decide +kernel) (by decide +kernel)) (aM (K:=K) rfl (pv 0)) (λ_ _ _ _=>(dE (K:=K) (n:=2) rfl rfl (az (ai (i:=0) (show List.Nodup (α:=Str) ["first","word"] by decide +kernel) rfl (Or.inl rfl)) (az (ai (i:=1) (show List.Nodup (α:=Str) ["first","word"] by decide +kernel) rfl (Or.inl rfl)) bY)))) (λ_ _ _ _=>(pv 0))) (0)))),?_⟩;obtain ⟨a,xs,rfl,ha,pa,ra⟩:=id hd.unref;have el:=ra.length;rw [aAe] at el;refine ⟨_,rfl,a,rfl,⟨_,ha⟩,λl hln=>?_⟩;refine aR (K:=K) (xs:=xs) (λi ys σ H'=>Same H H'/\H' l=some (.lst ys)/\IsPs K H' ((ps.take i).map (·.1)) ys/\σ.length=2) ⟨af hln _,ac,.nil,rfl⟩ (λi ys σ H' _ r=>r.1.tup ha) ?_ ?_
 ·rintro i y ys σ H1 N hy ⟨g1,e1,hp1,hσ⟩ next;obtain ⟨d1,hdi,hp⟩:=ra.get' hy;rw [aAC] at hdi;obtain ⟨p,hfi,rfl⟩:=aAE.mp hdi;obtain ⟨b,y1,y2,rfl,hb,hp1',hp2⟩:=sA (hp.same g1);have ly:=hp1.length;rw [aAe,aAB] at ly
  match σ,hσ with
  | [_,_],_ =>
   refine ⟨b,_,rfl,hb,rfl,_,_,rfl,_,_,rfl,rfl,?_⟩;refine ⟨_,rfl,e1,am (by lia),next _ _ _ ⟨aK hln g1,ac,?_,rfl⟩⟩;have e:(ps.take (i+1)).map (·.1)=(ps.take i).map (·.1)++[p.1]:=by rw [aBm,hfi,aA4];rfl
   rw [e];have bb:But l H1 (upd H1 l (.lst (ys++[y1]))):=But.put;exact (hp1.append (.cons hp1' .nil)).but e1 bb
 ·rintro ys σ H1 ⟨g1,e1,hp1,_⟩;rw [<- el,aAR] at hp1;exact ⟨l,ys,_,rfl,SqL.of e1,hp1,λv H2 g2 hv=>q v H2 (g1.trans g2) hv⟩
theorem bT {K:W.Frag} {H:Hp} {i:Int} {v:V} (h:IsP K H (.int i) v):v=.int i:=by cases h;rfl
def prS (p:Str×Str):Dt:=.tup [.str p.1,.str p.2]
structure LedW (fs:List Str) (bs:List (Str×Str)) (ws:List Str):Prop where
 words:bo (bs.map (·.1))=true
 len:fs.length=ws.length
 fwd:∀ f∈fs,∃ w,(f,w)∈bs/\(w,f)∈ws.zip fs
 bwd:∀ b∈bs,∃ u,(b.2,u)∈ws.zip fs/\(u,b.2)∈bs
abbrev b6 (i j:Int):Dt:=.tup [.str "number",.int i,.int j]
inductive GT:Dt->Dt->Dt->Prop
 | bounds (i j k l:Int):bq k->k<=l->bq l->GT (.tup [.str "bounds",.int k,.int l]) (b6 i j) (b6 k l)
 | scale (i j k:Int):2<=k->k<=1000->bq (i*k)->bq (j*k)->GT (.tup [.str "scale",.int k]) (b6 i j) (b6 (i*k) (j*k))
 | figures (i j m:Int):bq i->bq j->kP i j<=m->0<=m->m<=60->GT (.tup [.str "figures",.int m]) (b6 i j) (.tup [.str "text",.int m])
 | words (fs:List Str) (bs:List (Str×Str)) (ws:List Str):LedW fs bs ws->GT (.tup [.str "words",.tup (fs.map Dt.str),.tup (bs.map prS)]) (.tup [.str "choice",.tup (ws.map Dt.str)]) (.tup [.str "choice",.tup ((bs.map (·.1)).map Dt.str)])
 | cut (m i:Int):0<=i->i<=60->GT (.tup [.str "cut",.int i]) (.tup [.str "text",.int m]) (.tup [.str "text",.int i])
 | firstL (k:Dt) (m i:Int):0<=i->i<=8->GT (.tup [.str "first",.int i]) (.tup [.str "list",k,.int m]) (.tup [.str "list",k,.int i])
 | one (d:Dt) (i:Int):1<=i->i<=8->GT (.tup [.str "one",.int i]) d (.tup [.str "list",d,.int i])
 | out (k:Dt) (m:Int):1<=m->GT (.tup [.str "out"]) (.tup [.str "list",k,.int m]) k
theorem GT.fk {t d e:Dt} (h:GT t d e):∀ {a c:Nat},FK a c d->∃ a' c',FK a' c' e/\a'<=a+1/\c'<=c+1:=by
 induction h with
 | bounds i j k l h1 h2 h3=>exact λ_=>⟨1,1,.number k l h1.1 h2 h3.2,by lia,by lia⟩
 | scale i j k h1 h2 h3 h4 =>
  intro a c f
  cases f with
  | number _ _ f1 f2 f3=>exact ⟨1,1,.number _ _ h3.1 (aA0 f2 (by lia)) h4.2,by lia,by lia⟩
 | figures i j m h1 h2 h3 h4 h5=>exact λ_=>⟨1,1,.text m h4 h5,by lia,by lia⟩
 | words fs bs ws h=>exact λ_=>⟨1,1,.choice _ h.words,by lia,by lia⟩
 | cut m i h1 h2=>exact λ_=>⟨1,1,.text i h1 h2,by lia,by lia⟩
 | firstL k m i h1 h2 =>
  intro a c f
  cases f with
  | list g _ _=>exact ⟨_,_,.list g h1 h2,by lia,by lia⟩
 | one d i h1 h2=>exact λf=>⟨_,_,.list f (by lia) h2,by lia,by lia⟩
 | out k m h1 =>
  intro a c f
  cases f with
  | list g _ _=>exact ⟨_,_,g,by lia,by lia⟩
def l6 (K:W.Frag) (n:Nat):Sp:=λvs H Q _=>∃ (a c:Nat) (t d e:Dt) (x y:V),a<=n/\vs=[x,y]/\IsP K H t x/\IsP K H d y/\FK a c d/\GT t d e/\∀ v H',Same H H'->IsP K H' e v->Q v H'
theorem bc {K:W.Frag} {H:Hp} {a b:Str} {zs:List V} (r:IsPs K H [.str a,.str b] zs):zs=[.str a,.str b]:=by
 cases r with
 | cons r1 r =>
  cases r with
  | cons r2 r =>
   cases r
   rw [ao r1,ao r2]
theorem nR (T:Tx K mg ad) {f:Addr} {fd:FuncData} (n:Nat) (Kz:Gn K mg "led_kind" dM ["turn","kind"] f fd) (K4:FnOk P w K mg base CX0 (n+3) f fd ["turn","kind"] (l6 K n)):FnOk P w K mg base CX0 (n+3+1) f fd ["turn","kind"] (l6 K (n+1)):=by
 obtain ⟨_,_,Kk⟩:=T.words_behind;have KF:=dR (P:=P) (w:=w) (base:=base) T Kk;refine Kz.F.ok im (λvs H Q E h=>?_) (λcdv A outer s H vs Q E hr h=>?_)
 ·obtain ⟨a,c,t,d,e,x,y,_,rfl,_⟩:=h
  rfl
 obtain ⟨a,c,t,d,e,x,y,hle,rfl,ht,hd,fk,g,q⟩:=h;refine ⟨_,(5,@ps_set _ _ 2 _ _ _ _ im.nd rfl (Or.inl rfl) (6) (0) (.inl rfl),(5,@ps_if _ _ _ _ _ _ _ _ (pt_cmpR (op_in_seqK (K:=K) rfl) (pv 2) (8,@pa2 _ _ _ _ _ pe_str pe_str (0) (0)) rfl) (3,(4,(8,@pa3 _ _ _ _ _ _ _ pe_str (6) (6) (0) (0) (0)))) pss_nil,(5,@ps_if _ _ _ _ _ _ _ _ (pt_cmpR op_eq (pv 2) pe_str (nomark _)) (3,(4,(8,@pa3 _ _ _ _ _ _ _ pe_str (@pe_op _ _ _ _ _ _ _ _ cS (@pi1 K _ _ _ _ _ _ _ rfl (pv 1)) (6)) (@pe_op _ _ _ _ _ _ _ _ cS (@pi1 K _ _ _ _ _ _ _ rfl (pv 1)) (6)) (0) (0) (0)))) pss_nil,(5,@ps_if _ _ _ _ _ _ _ _ (pt_cmpR op_eq (pv 2) pe_str (nomark _)) (3,(4,(8,@pa3 _ _ _ _ _ _ _ pe_str (@pe_op _ _ _ _ _ _ _ _ aQ (@pi1 K _ _ _ _ _ _ _ rfl (pv 1)) (6)) (@pe_op _ _ _ _ _ _ _ _ aQ (@pi1 K _ _ _ _ _ _ _ rfl (pv 1)) (6)) (0) (0) (0)))) pss_nil,(5,@ps_if _ _ _ _ _ _ _ _ (pt_cmpR (op_in_seqK (K:=K) rfl) (pv 2) (8,@pa2 _ _ _ _ _ pe_str pe_str (0) (0)) rfl) (3,(4,(8,@pa2 _ _ _ _ _ pe_str (6) (0) (0)))) pss_nil,(5,@ps_if _ _ _ _ _ _ _ _ (pt_cmpR op_eq (pv 2) pe_str (nomark _)) (3,(4,(8,@pa2 _ _ _ _ _ pe_str (7,Kk,KF,@pa1 _ _ _ (6) (0)) (0) (0)))) pss_nil,(5,@ps_if _ _ _ _ _ _ _ _ (pt_cmpR op_eq (pv 2) pe_str (nomark _)) (3,(4,@pe_op _ _ _ _ _ _ _ _ (op_catPN (K:=K) rfl) (cu (i7 (K:=K) rfl) (pv 1) dr (du (@pe_un _ _ _ _ _ _ un_neg pe_int))) (8,@pa1 _ _ _ (6) (0)))) pss_nil,(5,@ps_if _ _ _ _ _ _ _ _ (pt_cmpR op_eq (pv 2) pe_str (nomark _)) (3,(4,(8,@pa3 _ _ _ _ _ _ _ pe_str (pv 1) (6) (0) (0) (0)))) pss_nil,(5,@ps_if _ _ _ _ _ _ _ _ (pt_cmpR op_eq (pv 2) pe_str (nomark _)) (3,(4,@pi1 K _ _ _ _ _ _ _ rfl (pv 1))) pss_nil,(3,(4,(8,@pa3 _ _ _ _ _ _ _ pe_str (7,Kz,K4,(9,(6),@pi1 K _ _ _ _ _ _ _ rfl (pv 1))) (@pi1 K _ _ _ _ _ _ _ rfl (pv 1)) (0) (0) (0))))))))))))),?_⟩
 cases g with
 | bounds i j k l h1 h2 h3 =>
  refine ⟨_,rfl,_,_,_,ht,rfl,rfl,λv hv=>?_⟩;obtain rfl:=ao hv;refine ⟨_,rfl,[.str "bounds",.str "number"],.cons .str (.cons .str .nil),sz2,λu1 H1 j1 hu1=>?_⟩;obtain ⟨p1,zs1,rfl,hz1,_,rz1⟩:=id hu1.unref;obtain rfl:=bc rz1;replace ht:=ht.same j1;replace hd:=hd.same j1;replace q:=λv H' g hv=>q v H' (j1.trans g) hv;refine ⟨p1,_,rfl,.inr hz1,rfl,rfl,_,rfl,aF (λ_=>?_) (λc=>absurd (by decide +kernel) c)⟩;refine ⟨_,rfl,_,_,_,ht,rfl,rfl,isI ?_⟩;refine ⟨_,rfl,_,_,_,ht,rfl,rfl,isI ?_⟩;exact ⟨[.str "number",.int k,.int l],.cons .str (.cons .int (.cons .int .nil)),sz3,λv H' g hv=>q v H' g hv⟩
 | scale i j k h1 h2 h3 h4 =>
  refine ⟨_,rfl,_,_,_,ht,rfl,rfl,λv hv=>?_⟩;obtain rfl:=ao hv;refine ⟨_,rfl,[.str "bounds",.str "number"],.cons .str (.cons .str .nil),sz2,λu3 H3 j3 hu3=>?_⟩;obtain ⟨p3,zs3,rfl,hz3,_,rz3⟩:=id hu3.unref;obtain rfl:=bc rz3;replace ht:=ht.same j3;replace hd:=hd.same j3;replace q:=λv H' g hv=>q v H' (j3.trans g) hv;refine ⟨p3,_,rfl,.inr hz3,rfl,rfl,_,rfl,aF (λc=>absurd c (by decide +kernel)) (λ_=>?_)⟩;refine ⟨_,rfl,rfl,_,rfl,aC ?_⟩;refine ⟨_,rfl,_,_,_,hd,rfl,rfl,isI ?_⟩;refine ⟨_,rfl,_,_,_,ht,rfl,rfl,isI ?_⟩;refine ⟨_,_,rfl,rfl,.inr ⟨by lia,by lia⟩,?_⟩;refine ⟨_,rfl,_,_,_,hd,rfl,rfl,isI ?_⟩;refine ⟨_,rfl,_,_,_,ht,rfl,rfl,isI ?_⟩;refine ⟨_,_,rfl,rfl,.inr ⟨by lia,by lia⟩,?_⟩;exact ⟨[.str "number",.int (i*k),.int (j*k)],.cons .str (.cons .int (.cons .int .nil)),sz3,λv H' g hv=>q v H' g hv⟩
 | cut m i h1 h2 =>
  refine ⟨_,rfl,_,_,_,ht,rfl,rfl,λv hv=>?_⟩;obtain rfl:=ao hv;refine ⟨_,rfl,[.str "bounds",.str "number"],.cons .str (.cons .str .nil),sz2,λu5 H5 j5 hu5=>?_⟩;obtain ⟨p5,zs5,rfl,hz5,_,rz5⟩:=id hu5.unref;obtain rfl:=bc rz5;replace ht:=ht.same j5;replace hd:=hd.same j5;replace q:=λv H' g hv=>q v H' (j5.trans g) hv;refine ⟨p5,_,rfl,.inr hz5,rfl,rfl,_,rfl,aF (λc=>absurd c (by decide +kernel)) (λ_=>?_)⟩;refine ⟨_,rfl,rfl,_,rfl,iteN (ae (1)) ?_⟩;refine ⟨_,rfl,rfl,_,rfl,iteN (ae (1)) ?_⟩;refine ⟨_,rfl,[.str "figures",.str "cut"],.cons .str (.cons .str .nil),sz2,λu6 H6 j6 hu6=>?_⟩;obtain ⟨p6,zs6,rfl,hz6,_,rz6⟩:=id hu6.unref;obtain rfl:=bc rz6;replace ht:=ht.same j6;replace hd:=hd.same j6;replace q:=λv H' g hv=>q v H' (j6.trans g) hv;refine ⟨p6,_,rfl,.inr hz6,rfl,rfl,_,rfl,aF (λ_=>?_) (λc=>absurd (by decide +kernel) c)⟩;refine ⟨_,rfl,_,_,_,ht,rfl,rfl,isI ?_⟩;exact ⟨[.str "text",.int i],.cons .str (.cons .int .nil),sz2,λv H' g hv=>q v H' g hv⟩
 | figures i j m h1 h2 h3 h4 h5 =>
  refine ⟨_,rfl,_,_,_,ht,rfl,rfl,λv hv=>?_⟩;obtain rfl:=ao hv;refine ⟨_,rfl,[.str "bounds",.str "number"],.cons .str (.cons .str .nil),sz2,λu7 H7 j7 hu7=>?_⟩;obtain ⟨p7,zs7,rfl,hz7,_,rz7⟩:=id hu7.unref;obtain rfl:=bc rz7;replace ht:=ht.same j7;replace hd:=hd.same j7;replace q:=λv H' g hv=>q v H' (j7.trans g) hv;refine ⟨p7,_,rfl,.inr hz7,rfl,rfl,_,rfl,aF (λc=>absurd c (by decide +kernel)) (λ_=>?_)⟩;refine ⟨_,rfl,rfl,_,rfl,iteN (ae (1)) ?_⟩;refine ⟨_,rfl,rfl,_,rfl,iteN (ae (1)) ?_⟩;refine ⟨_,rfl,[.str "figures",.str "cut"],.cons .str (.cons .str .nil),sz2,λu8 H8 j8 hu8=>?_⟩;obtain ⟨p8,zs8,rfl,hz8,_,rz8⟩:=id hu8.unref;obtain rfl:=bc rz8;replace ht:=ht.same j8;replace hd:=hd.same j8;replace q:=λv H' g hv=>q v H' (j8.trans g) hv;refine ⟨p8,_,rfl,.inr hz8,rfl,rfl,_,rfl,aF (λ_=>?_) (λc=>absurd (by decide +kernel) c)⟩;refine ⟨_,rfl,_,_,_,ht,rfl,rfl,isI ?_⟩;exact ⟨[.str "text",.int m],.cons .str (.cons .int .nil),sz2,λv H' g hv=>q v H' g hv⟩
 | words fs bs ws h =>
  refine ⟨_,rfl,_,_,_,ht,rfl,rfl,λv hv=>?_⟩;obtain rfl:=ao hv;refine ⟨_,rfl,[.str "bounds",.str "number"],.cons .str (.cons .str .nil),sz2,λu9 H9 j9 hu9=>?_⟩;obtain ⟨p9,zs9,rfl,hz9,_,rz9⟩:=id hu9.unref;obtain rfl:=bc rz9;replace ht:=ht.same j9;replace hd:=hd.same j9;replace q:=λv H' g hv=>q v H' (j9.trans g) hv;refine ⟨p9,_,rfl,.inr hz9,rfl,rfl,_,rfl,aF (λc=>absurd c (by decide +kernel)) (λ_=>?_)⟩;refine ⟨_,rfl,rfl,_,rfl,iteN (ae (1)) ?_⟩;refine ⟨_,rfl,rfl,_,rfl,iteN (ae (1)) ?_⟩;refine ⟨_,rfl,[.str "figures",.str "cut"],.cons .str (.cons .str .nil),sz2,λu10 H10 j10 hu10=>?_⟩;obtain ⟨p10,zs10,rfl,hz10,_,rz10⟩:=id hu10.unref;obtain rfl:=bc rz10;replace ht:=ht.same j10;replace hd:=hd.same j10;replace q:=λv H' g hv=>q v H' (j10.trans g) hv;refine ⟨p10,_,rfl,.inr hz10,rfl,rfl,_,rfl,aF (λc=>absurd c (by decide +kernel)) (λ_=>?_)⟩;refine ⟨_,rfl,rfl,_,rfl,aC ?_⟩;have l8:=(aD h.words).2.1;rw [aAe] at l8;refine ⟨_,rfl,_,_,_,ht,rfl,rfl,λv2 hv2=>?_⟩;have e1:bs.map prS=(bs.map λp:Str×Str=>(Dt.str p.1,Dt.str p.2)).map prT:=by rw [aAu];rfl
  have e2:(bs.map λp:Str×Str=>(Dt.str p.1,Dt.str p.2)).map (·.1)=(bs.map (·.1)).map Dt.str:=by rw [aAu,aAu];rfl
  refine ⟨_,v2,rfl,(by rw [<- e1];exact hv2),(by rw [aAe];lia),λv3 H3 g3 hv3=>?_⟩;rw [e2] at hv3;exact ⟨[.str "choice",_],.cons .str (.cons hv3 .nil),sz2,λv H' g hv=>q v H' (g3.trans g) hv⟩
 | firstL k m i h1 h2 =>
  refine ⟨_,rfl,_,_,_,ht,rfl,rfl,λv hv=>?_⟩;obtain rfl:=ao hv;refine ⟨_,rfl,[.str "bounds",.str "number"],.cons .str (.cons .str .nil),sz2,λu11 H11 j11 hu11=>?_⟩;obtain ⟨p11,zs11,rfl,hz11,_,rz11⟩:=id hu11.unref;obtain rfl:=bc rz11;replace ht:=ht.same j11;replace hd:=hd.same j11;replace q:=λv H' g hv=>q v H' (j11.trans g) hv;refine ⟨p11,_,rfl,.inr hz11,rfl,rfl,_,rfl,aF (λc=>absurd c (by decide +kernel)) (λ_=>?_)⟩;refine ⟨_,rfl,rfl,_,rfl,iteN (ae (1)) ?_⟩;refine ⟨_,rfl,rfl,_,rfl,iteN (ae (1)) ?_⟩;refine ⟨_,rfl,[.str "figures",.str "cut"],.cons .str (.cons .str .nil),sz2,λu12 H12 j12 hu12=>?_⟩;obtain ⟨p12,zs12,rfl,hz12,_,rz12⟩:=id hu12.unref;obtain rfl:=bc rz12;replace ht:=ht.same j12;replace hd:=hd.same j12;replace q:=λv H' g hv=>q v H' (j12.trans g) hv;refine ⟨p12,_,rfl,.inr hz12,rfl,rfl,_,rfl,aF (λc=>absurd c (by decide +kernel)) (λ_=>?_)⟩;refine ⟨_,rfl,rfl,_,rfl,iteN (ae (1)) ?_⟩;refine ⟨_,rfl,rfl,_,rfl,aC ?_⟩;refine ⟨_,rfl,_,rfl,_,rfl,?_⟩;refine ⟨_,hd,λv3 H3 g3 hv3=>?_⟩;refine ⟨_,rfl,_,_,_,ht.same g3,rfl,rfl,isI ?_⟩;refine ⟨[.int i],.cons .int .nil,sz1,λv5 H5 g5 hv5=>?_⟩;refine ⟨_,_,hv3.same g5,hv5,sz3,λv6 H6 g6 hv6=>?_⟩;exact q v6 H6 ((g3.trans g5).trans g6) hv6
 | one _ i h1 h2 =>
  refine ⟨_,rfl,_,_,_,ht,rfl,rfl,λv hv=>?_⟩;obtain rfl:=ao hv;refine ⟨_,rfl,[.str "bounds",.str "number"],.cons .str (.cons .str .nil),sz2,λu15 H15 j15 hu15=>?_⟩;obtain ⟨p15,zs15,rfl,hz15,_,rz15⟩:=id hu15.unref;obtain rfl:=bc rz15;replace ht:=ht.same j15;replace hd:=hd.same j15;replace q:=λv H' g hv=>q v H' (j15.trans g) hv;refine ⟨p15,_,rfl,.inr hz15,rfl,rfl,_,rfl,aF (λc=>absurd c (by decide +kernel)) (λ_=>?_)⟩;refine ⟨_,rfl,rfl,_,rfl,iteN (ae (1)) ?_⟩;refine ⟨_,rfl,rfl,_,rfl,iteN (ae (1)) ?_⟩;refine ⟨_,rfl,[.str "figures",.str "cut"],.cons .str (.cons .str .nil),sz2,λu16 H16 j16 hu16=>?_⟩;obtain ⟨p16,zs16,rfl,hz16,_,rz16⟩:=id hu16.unref;obtain rfl:=bc rz16;replace ht:=ht.same j16;replace hd:=hd.same j16;replace q:=λv H' g hv=>q v H' (j16.trans g) hv;refine ⟨p16,_,rfl,.inr hz16,rfl,rfl,_,rfl,aF (λc=>absurd c (by decide +kernel)) (λ_=>?_)⟩;refine ⟨_,rfl,rfl,_,rfl,iteN (ae (1)) ?_⟩;refine ⟨_,rfl,rfl,_,rfl,iteN (ae (1)) ?_⟩;refine ⟨_,rfl,rfl,_,rfl,aC ?_⟩;refine ⟨_,rfl,_,rfl,_,_,_,ht,rfl,rfl,isI ?_⟩;exact ⟨[.str "list",d,.int i],.cons .str (.cons hd (.cons .int .nil)),sz3,λv H' g hv=>q v H' g hv⟩
 | out _ m h1 =>
  refine ⟨_,rfl,_,_,_,ht,rfl,rfl,λv hv=>?_⟩;obtain rfl:=ao hv;refine ⟨_,rfl,[.str "bounds",.str "number"],.cons .str (.cons .str .nil),sz2,λu17 H17 j17 hu17=>?_⟩;obtain ⟨p17,zs17,rfl,hz17,_,rz17⟩:=id hu17.unref;obtain rfl:=bc rz17;replace ht:=ht.same j17;replace hd:=hd.same j17;replace q:=λv H' g hv=>q v H' (j17.trans g) hv;refine ⟨p17,_,rfl,.inr hz17,rfl,rfl,_,rfl,aF (λc=>absurd c (by decide +kernel)) (λ_=>?_)⟩;refine ⟨_,rfl,rfl,_,rfl,iteN (ae (1)) ?_⟩;refine ⟨_,rfl,rfl,_,rfl,iteN (ae (1)) ?_⟩;refine ⟨_,rfl,[.str "figures",.str "cut"],.cons .str (.cons .str .nil),sz2,λu18 H18 j18 hu18=>?_⟩;obtain ⟨p18,zs18,rfl,hz18,_,rz18⟩:=id hu18.unref;obtain rfl:=bc rz18;replace ht:=ht.same j18;replace hd:=hd.same j18;replace q:=λv H' g hv=>q v H' (j18.trans g) hv;refine ⟨p18,_,rfl,.inr hz18,rfl,rfl,_,rfl,aF (λc=>absurd c (by decide +kernel)) (λ_=>?_)⟩;refine ⟨_,rfl,rfl,_,rfl,iteN (ae (1)) ?_⟩;refine ⟨_,rfl,rfl,_,rfl,iteN (ae (1)) ?_⟩;refine ⟨_,rfl,rfl,_,rfl,iteN (ae (1)) ?_⟩;refine ⟨_,rfl,rfl,_,rfl,aC ?_⟩;exact ⟨_,rfl,_,_,_,hd,rfl,rfl,λv2 hv2=>q v2 _ (λ_ _ h=>h) hv2⟩
theorem qI (T:Tx K mg ad) {f:Addr} {fd:FuncData} (A:Gn K mg "led_kind" dM ["turn","kind"] f fd):∀ n,FnOk P w K mg base CX0 (n+3) f fd ["turn","kind"] (l6 K n)
 | 0=>bi λvs H Q E z=>by obtain ⟨_,_,_,_,_,_,_,h,_,_,_,pk,_⟩:=z;have:=pk.pos;lia
 | n+1=>nR T n A (qI T A n)
theorem uN (u:Str):inV (.str u) [.str u]=true:=by simp [inV,eqV]
theorem wD {K:W.Frag} {H:Hp} {a:Str} {zs:List V} (r:IsPs K H [.str a] zs):zs=[.str a]:=by
 cases r with
 | cons r1 r =>
  cases r
  rw [ao r1]
theorem l7 {a c:Nat} {d:Dt} (h:FK a c d):∃ u l,d=.tup (.str u :: l):=by cases h <;> exact ⟨_,_,rfl⟩
theorem GT.parts {t d e:Dt} (h:GT t d e):cO t=true:=by cases h <;> rfl
theorem nU {a c:Nat} {ws:List Str} (h:FK a c (.tup [.str "choice",.tup (ws.map Dt.str)])):bo ws=true:=by
 generalize e:Dt.tup [.str "choice",.tup (ws.map Dt.str)]=d at h
 cases h with
 | choice ws' hw =>
  injection e with e
  injection e with _ e
  injection e with e _
  injection e with e
  rw [List.map_inj_right (λ_ _ h=>by injection h)] at e;rw [e];exact hw
 | _=>exact absurd e (by simp)
def de (K:W.Frag) (_:Ads):Sp:=λvs H Q _=>∃ (fs:List Str) (bs:List (Str×Str)) (ws:List Str) (x y z:V),vs=[x,y,z]/\IsP K H (.tup (fs.map Dt.str)) x/\IsP K H (.tup (bs.map prS)) y/\IsP K H (.tup (ws.map Dt.str)) z/\bo ws=true/\LedW fs bs ws/\∀ H',Same H H'->Q (.bl true) H'
inductive TF:Dt->Dt->Prop
 | parts (t d:Dt):cO t=false->TF t d
 | bounds (x y:Dt) (u:Str) (l:List Dt):u≠ "number" ->TF (.tup [.str "bounds",x,y]) (.tup (.str u :: l))
 | cut (x:Dt) (u:Str) (l:List Dt):u≠ "text" ->TF (.tup [.str "cut",x]) (.tup (.str u :: l))
 | itemsS (x:Dt) (u:Str) (l:List Dt):u≠ "list" ->TF (.tup [.str "items",x]) (.tup (.str u :: l))
 | items (t k:Dt) (m:Int):TF t k->TF (.tup [.str "items",t]) (.tup [.str "list",k,.int m])
def uO (K:W.Frag) (n:Nat):Sp:=λvs H Q _=>∃ (a c:Nat) (t d:Dt) (b:Bool) (x y:V),a<=n/\vs=[x,y]/\IsP K H t x/\IsP K H d y/\okD t=true/\FK a c d/\((b=true/\∃ e,GT t d e)\/(b=false/\TF t d))/\∀ H',Same H H'->Q (.bl b) H'
theorem jX (T:Tx K mg ad) {f fl:Addr} {fd fdl:FuncData} (n:Nat) (Ks:Gn K mg "is_turn_of" ce ["turn","kind"] f fd) (KO:FnOk P w K mg base CX0 (n+3) f fd ["turn","kind"] (uO K n))
  (Ls:Gn K mg "are_led_words" aw ["forth","back","elder"] fl fdl) (Lr:FnOk P w K mg base CX0 3 fl fdl ["forth","back","elder"] (de K ad)):FnOk P w K mg base CX0 (n+3+1) f fd ["turn","kind"] (uO K (n+1)):=by
 obtain ⟨_,_,KP⟩:=T.has_turn_parts;have Lp:=gj (P:=P) (w:=w) (base:=base) T KP;obtain ⟨_,_,Kq⟩:=T.is_factor;have KH:=gh (P:=P) (w:=w) (base:=base) T Kq;obtain ⟨_,_,Ke⟩:=T.is_whole;have Kl:=er (P:=P) (w:=w) (base:=base) T Ke;obtain ⟨_,_,KD⟩:=T.most_figures;have KY:=iz (P:=P) (w:=w) (base:=base) T KD;obtain ⟨_,_,Kt⟩:=T.are_bounds;have KN:=fm (P:=P) (w:=w) (base:=base) T Kt;obtain ⟨c_TURN_SORTS,d_TURN_SORTS,s_TURN_SORTS⟩:=T.TURN_SORTS;refine Ks.F.ok fw (λvs H Q E h=>?_) (λcdv A outer s H vs Q E hr h=>?_)
 ·obtain ⟨a,c,t,d,e,x,y,_,rfl,_⟩:=h
  rfl
 obtain ⟨a,c,t,d,b,x,y,hle,rfl,ht,hd,okt,fk,alt,q⟩:=h;refine ⟨_,(5,(12,PW.pt (@pw_or _ _ _ _ _ _ _ (@pt_not _ _ _ _ (@pt_val _ _ _ (7,KP,Lp,@pa1 _ _ _ (pv 0) (0)) (by intro _;rfl))) (@pw_or1 _ _ _ _ (pt_cmpR op_notIn_seq (@pi1 K _ _ _ _ _ _ _ rfl (pv 1)) (pe_kgetA d_TURN_SORTS rfl c_TURN_SORTS (6) (8,@pa1 _ _ _ (@pi1 K _ _ _ _ _ _ _ rfl (pv 1)) (0)) ⟨rfl,rfl,rfl,rfl⟩) rfl)))),(5,@ps_set _ _ 2 _ _ _ _ fw.nd rfl (Or.inl rfl) (6) (0) (.inl rfl),(5,@ps_if _ _ _ _ _ _ _ _ (pt_cmpR op_eq (pv 2) pe_str (nomark _)) (3,(4,(7,Kq,KH,@pa1 _ _ _ (6) (0)))) pss_nil,(5,@ps_if _ _ _ _ _ _ _ _ (pt_cmpR op_eq (pv 2) pe_str (nomark _)) (3,(4,pe_and (7,Kq,KH,@pa1 _ _ _ (6) (0)) (pe_and (pe_cmpR op_eq (@pe_op _ _ _ _ _ _ _ _ cn (@pi1 K _ _ _ _ _ _ _ rfl (pv 1)) (6)) pe_int (nomark _)) (pe_one (pe_cmpR op_eq (@pe_op _ _ _ _ _ _ _ _ cn (@pi1 K _ _ _ _ _ _ _ rfl (pv 1)) (6)) pe_int (nomark _)))))) pss_nil,(5,@ps_if _ _ _ _ _ _ _ _ (pt_cmpR op_eq (pv 2) pe_str (nomark _)) (3,(4,pe_and (7,Ke,Kl,@pa1 _ _ _ (6) (0)) (pe_one (pe_cmpR op_le (7,KD,KY,(9,@pi1 K _ _ _ _ _ _ _ rfl (pv 1),@pi1 K _ _ _ _ _ _ _ rfl (pv 1))) (6) (nomark _))))) pss_nil,(5,@ps_if _ _ _ _ _ _ _ _ (pt_cmpR op_eq (pv 2) pe_str (nomark _)) (3,(4,pe_and (7,Kt,KN,(9,(6),(6))) (pe_one (pe_cmpR op_le (7,KD,KY,(9,(6),(6))) (@pi1 K _ _ _ _ _ _ _ rfl (pv 1)) (nomark _))))) pss_nil,(5,@ps_if _ _ _ _ _ _ _ _ (pt_cmpR op_eq (pv 2) pe_str (nomark _)) (3,(4,(7,Ls,Lr,(11,(6),(6),@pi1 K _ _ _ _ _ _ _ rfl (pv 1))))) pss_nil,(5,@ps_if _ _ _ _ _ _ _ _ (pt_cmpR op_eq (pv 2) pe_str (nomark _)) (3,(4,pe_and (7,Ke,Kl,@pa1 _ _ _ (6) (0)) (pe_one (pe_cmpR sV (6) pe_int (nomark _))))) pss_nil,(5,@ps_if _ _ _ _ _ _ _ _ (pt_cmpR op_eq (pv 2) pe_str (nomark _)) (3,(4,pe_cmpR sV (@pi1 K _ _ _ _ _ _ _ rfl (pv 1)) pe_int (nomark _))) pss_nil,(5,@ps_if _ _ _ _ _ _ _ _ (pt_cmpR op_eq (pv 2) pe_str (nomark _)) (3,(4,(7,Ks,KO,(9,(6),@pi1 K _ _ _ _ _ _ _ rfl (pv 1))))) pss_nil,(3,(4,pe_bl)))))))))))),?_⟩;refine ⟨_,rfl,t,x,rfl,ht,okt,?_⟩;rcases alt with ⟨rfl,e,g⟩ | ⟨rfl,tf⟩
 rotate_left
 ·cases hp:cO t with
  | false=>exact ⟨_,rfl,aq (aq (q H (Same.refl H)))⟩
  | true =>
  refine ⟨_,rfl,aA ?_⟩;obtain ⟨u,l,ed⟩:=l7 fk;refine ⟨_,rfl,_,_,_,(by rw [<- ed];exact hd),rfl,at0 _ _,isS ?_⟩;have no:∀ {so:Str},u≠so->¬ (!inV (V.str u) [V.str so])=true->False:=λ{so} hu c=>c (by simp [inV,eqV];exact λc=>hu c.symm)
  cases tf with
  | parts _ _ h=>rw [hp] at h;cases h
  | bounds x y u' l' hu =>
   cases ed
   refine ⟨_,rfl,_,_,_,ht,rfl,at0 _ _,isS ?_⟩;refine ⟨_,rfl,_,_,_,hd,rfl,at0 _ _,isS ?_⟩;refine ⟨[.str _],.cons .str .nil,sz1,λv4 H4 g4 hv4=>?_⟩;exact ⟨_,rfl,330,_,rfl,.inr (s_TURN_SORTS (330,["number"]) (by simp) _),rfl,rfl,_,rfl,aF (λc=>q _ g4) (λc=>(no hu c).elim)⟩
  | cut x u' l' hu =>
   cases ed
   refine ⟨_,rfl,_,_,_,ht,rfl,at0 _ _,isS ?_⟩;refine ⟨_,rfl,_,_,_,hd,rfl,at0 _ _,isS ?_⟩;refine ⟨[.str _],.cons .str .nil,sz1,λv4 H4 g4 hv4=>?_⟩;exact ⟨_,rfl,336,_,rfl,.inr (s_TURN_SORTS (336,["text"]) (by simp) _),rfl,rfl,_,rfl,aF (λc=>q _ g4) (λc=>(no hu c).elim)⟩
  | itemsS x u' l' hu =>
   cases ed
   refine ⟨_,rfl,_,_,_,ht,rfl,at0 _ _,isS ?_⟩;refine ⟨_,rfl,_,_,_,hd,rfl,at0 _ _,isS ?_⟩;refine ⟨[.str _],.cons .str .nil,sz1,λv4 H4 g4 hv4=>?_⟩;exact ⟨_,rfl,339,_,rfl,.inr (s_TURN_SORTS (339,["list"]) (by simp) _),rfl,rfl,_,rfl,aF (λc=>q _ g4) (λc=>(no hu c).elim)⟩
  | items t k m gi =>
   cases ed
   refine ⟨_,rfl,_,_,_,ht,rfl,rfl,isS ?_⟩;refine ⟨_,rfl,_,_,_,hd,rfl,at0 _ _,isS ?_⟩;refine ⟨[.str _],.cons .str .nil,sz1,λv4 H4 g4 hv4=>?_⟩;replace ht:=ht.same g4;replace hd:=hd.same g4;replace q:=λH' g=>q H' (g4.trans g);refine ⟨_,rfl,339,_,rfl,.inr (s_TURN_SORTS (339,["list"]) (by simp) _),rfl,rfl,_,rfl,aF (λc=>absurd c (by decide +kernel)) (λ_=>?_)⟩;refine ⟨_,rfl,_,_,_,ht,rfl,rfl,isS ?_⟩;refine ⟨_,rfl,rfl,_,rfl,iteN (ae (1)) ?_⟩;refine ⟨_,rfl,rfl,_,rfl,iteN (ae (1)) ?_⟩;refine ⟨_,rfl,rfl,_,rfl,iteN (ae (1)) ?_⟩;refine ⟨_,rfl,rfl,_,rfl,iteN (ae (1)) ?_⟩;refine ⟨_,rfl,rfl,_,rfl,iteN (ae (1)) ?_⟩;refine ⟨_,rfl,rfl,_,rfl,iteN (ae (1)) ?_⟩;refine ⟨_,rfl,rfl,_,rfl,iteN (ae (1)) ?_⟩;refine ⟨_,rfl,rfl,_,rfl,aC ?_⟩
   cases fk with
   | list fk f1 f2 =>
    refine ⟨_,rfl,_,_,_,ht,rfl,rfl,λv6 hv6=>?_⟩;refine ⟨_,rfl,_,_,_,hd,rfl,rfl,λv7 hv7=>?_⟩;exact ⟨_,_,t,k,false,v6,v7,by lia,rfl,hv6,hv7,ay (l:=[.str "items",t]) okt t (by simp),fk,.inr ⟨rfl,gi⟩,q⟩
 rw [g.parts];refine ⟨_,rfl,aA ?_⟩;obtain ⟨u,l,ed⟩:=l7 fk;refine ⟨_,rfl,_,_,_,(by rw [<- ed];exact hd),rfl,at0 _ _,isS ?_⟩
 cases g with
 | bounds i j k l h1 h2 h3 =>
  cases ed
  refine ⟨_,rfl,_,_,_,ht,rfl,rfl,isS ?_⟩;refine ⟨_,rfl,_,_,_,hd,rfl,at0 _ _,isS ?_⟩;refine ⟨[.str _],.cons .str .nil,sz1,λv4 H4 g4 hv4=>?_⟩;replace ht:=ht.same g4;replace hd:=hd.same g4;replace q:=λH' g=>q H' (g4.trans g);refine ⟨_,rfl,330,_,rfl,.inr (s_TURN_SORTS (330,["number"]) (by simp) _),rfl,rfl,_,rfl,aF (λc=>absurd c (by decide +kernel)) (λ_=>?_)⟩;refine ⟨_,rfl,_,_,_,ht,rfl,rfl,isS ?_⟩;refine ⟨_,rfl,rfl,_,rfl,iteN (ae (1)) ?_⟩;refine ⟨_,rfl,rfl,_,rfl,iteN (ae (1)) ?_⟩;refine ⟨_,rfl,rfl,_,rfl,iteN (ae (1)) ?_⟩;refine ⟨_,rfl,rfl,_,rfl,iteN (ae (1)) ?_⟩;refine ⟨_,rfl,rfl,_,rfl,iteN (ae (1)) ?_⟩;refine ⟨_,rfl,rfl,_,rfl,iteN (ae (1)) ?_⟩;refine ⟨_,rfl,rfl,_,rfl,iteN (ae (1)) ?_⟩;refine ⟨_,rfl,rfl,_,rfl,iteN (ae (1)) ?_⟩;exact q _ (λ_ _ h=>h)
 | scale i j k h1 h2 h3 h4 =>
  cases ed
  refine ⟨_,rfl,_,_,_,ht,rfl,rfl,isS ?_⟩;refine ⟨_,rfl,_,_,_,hd,rfl,at0 _ _,isS ?_⟩;refine ⟨[.str _],.cons .str .nil,sz1,λv4 H4 g4 hv4=>?_⟩;replace ht:=ht.same g4;replace hd:=hd.same g4;replace q:=λH' g=>q H' (g4.trans g);refine ⟨_,rfl,331,_,rfl,.inr (s_TURN_SORTS (331,["number"]) (by simp) _),rfl,rfl,_,rfl,aF (λc=>absurd c (by decide +kernel)) (λ_=>?_)⟩;refine ⟨_,rfl,_,_,_,ht,rfl,rfl,isS ?_⟩;refine ⟨_,rfl,rfl,_,rfl,aC ?_⟩;refine ⟨_,rfl,_,_,_,ht,rfl,rfl,λv6 hv6=>?_⟩;have hw:aZ (.int k) 2 1000=true:=by show (decide (2<=k) && decide (k<=1000))=true;rw [decide_eq_true h1,decide_eq_true h2];rfl
  refine ⟨_,v6,rfl,hv6,rfl,?_⟩;rw [hw];exact q _ (λ_ _ h=>h)
 | figures i j m h1 h2 h3 h4 h5 =>
  cases ed
  refine ⟨_,rfl,_,_,_,ht,rfl,rfl,isS ?_⟩;refine ⟨_,rfl,_,_,_,hd,rfl,at0 _ _,isS ?_⟩;refine ⟨[.str _],.cons .str .nil,sz1,λv4 H4 g4 hv4=>?_⟩;replace ht:=ht.same g4;replace hd:=hd.same g4;replace q:=λH' g=>q H' (g4.trans g);refine ⟨_,rfl,333,_,rfl,.inr (s_TURN_SORTS (333,["number"]) (by simp) _),rfl,rfl,_,rfl,aF (λc=>absurd c (by decide +kernel)) (λ_=>?_)⟩;refine ⟨_,rfl,_,_,_,ht,rfl,rfl,isS ?_⟩;refine ⟨_,rfl,rfl,_,rfl,iteN (ae (1)) ?_⟩;refine ⟨_,rfl,rfl,_,rfl,iteN (ae (1)) ?_⟩;refine ⟨_,rfl,rfl,_,rfl,aC ?_⟩;refine ⟨_,rfl,_,_,_,ht,rfl,rfl,λv6 hv6=>?_⟩;refine ⟨_,v6,rfl,hv6,rfl,?_⟩;refine ⟨_,rfl,aq ?_⟩;refine ⟨_,rfl,_,_,_,hd,rfl,rfl,isI ?_⟩;refine ⟨_,rfl,_,_,_,hd,rfl,rfl,isI ?_⟩;refine ⟨i,j,rfl,h1,h2,?_⟩;refine ⟨_,rfl,_,_,_,ht,rfl,rfl,isI ?_⟩;refine ⟨_,_,rfl,rfl,?_⟩;rw [decide_eq_true h3];exact q _ (λ_ _ h=>h)
 | words fs bs ws h =>
  cases ed
  refine ⟨_,rfl,_,_,_,ht,rfl,rfl,isS ?_⟩;refine ⟨_,rfl,_,_,_,hd,rfl,at0 _ _,isS ?_⟩;refine ⟨[.str _],.cons .str .nil,sz1,λv4 H4 g4 hv4=>?_⟩;replace ht:=ht.same g4;replace hd:=hd.same g4;replace q:=λH' g=>q H' (g4.trans g);refine ⟨_,rfl,335,_,rfl,.inr (s_TURN_SORTS (335,["choice"]) (by simp) _),rfl,rfl,_,rfl,aF (λc=>absurd c (by decide +kernel)) (λ_=>?_)⟩;refine ⟨_,rfl,_,_,_,ht,rfl,rfl,isS ?_⟩;refine ⟨_,rfl,rfl,_,rfl,iteN (ae (1)) ?_⟩;refine ⟨_,rfl,rfl,_,rfl,iteN (ae (1)) ?_⟩;refine ⟨_,rfl,rfl,_,rfl,iteN (ae (1)) ?_⟩;refine ⟨_,rfl,rfl,_,rfl,iteN (ae (1)) ?_⟩;refine ⟨_,rfl,rfl,_,rfl,aC ?_⟩;have hw:=nU fk;refine ⟨_,rfl,_,_,_,ht,rfl,rfl,λv6 hv6=>?_⟩;refine ⟨_,rfl,_,_,_,ht,rfl,rfl,λv7 hv7=>?_⟩;refine ⟨_,rfl,_,_,_,hd,rfl,rfl,λv8 hv8=>?_⟩;exact ⟨fs,bs,ws,v6,v7,v8,rfl,hv6,hv7,hv8,hw,h,q⟩
 | cut m i h1 h2 =>
  cases ed
  refine ⟨_,rfl,_,_,_,ht,rfl,rfl,isS ?_⟩;refine ⟨_,rfl,_,_,_,hd,rfl,at0 _ _,isS ?_⟩;refine ⟨[.str _],.cons .str .nil,sz1,λv4 H4 g4 hv4=>?_⟩;replace ht:=ht.same g4;replace hd:=hd.same g4;replace q:=λH' g=>q H' (g4.trans g);refine ⟨_,rfl,336,_,rfl,.inr (s_TURN_SORTS (336,["text"]) (by simp) _),rfl,rfl,_,rfl,aF (λc=>absurd c (by decide +kernel)) (λ_=>?_)⟩;refine ⟨_,rfl,_,_,_,ht,rfl,rfl,isS ?_⟩;refine ⟨_,rfl,rfl,_,rfl,iteN (ae (1)) ?_⟩;refine ⟨_,rfl,rfl,_,rfl,iteN (ae (1)) ?_⟩;refine ⟨_,rfl,rfl,_,rfl,iteN (ae (1)) ?_⟩;refine ⟨_,rfl,rfl,_,rfl,iteN (ae (1)) ?_⟩;refine ⟨_,rfl,rfl,_,rfl,iteN (ae (1)) ?_⟩;refine ⟨_,rfl,rfl,_,rfl,iteN (ae (1)) ?_⟩;refine ⟨_,rfl,rfl,_,rfl,iteN (ae (1)) ?_⟩;refine ⟨_,rfl,rfl,_,rfl,iteN (ae (1)) ?_⟩;exact q _ (λ_ _ h=>h)
 | firstL k m i h1 h2 =>
  cases ed
  refine ⟨_,rfl,_,_,_,ht,rfl,rfl,isS ?_⟩;refine ⟨_,rfl,_,_,_,hd,rfl,at0 _ _,isS ?_⟩;refine ⟨[.str _],.cons .str .nil,sz1,λv4 H4 g4 hv4=>?_⟩;replace ht:=ht.same g4;replace hd:=hd.same g4;replace q:=λH' g=>q H' (g4.trans g);refine ⟨_,rfl,337,_,rfl,.inr (s_TURN_SORTS (337,["list","rows"]) (by simp) _),rfl,rfl,_,rfl,aF (λc=>absurd c (by decide +kernel)) (λ_=>?_)⟩;refine ⟨_,rfl,_,_,_,ht,rfl,rfl,isS ?_⟩;refine ⟨_,rfl,rfl,_,rfl,iteN (ae (1)) ?_⟩;refine ⟨_,rfl,rfl,_,rfl,iteN (ae (1)) ?_⟩;refine ⟨_,rfl,rfl,_,rfl,iteN (ae (1)) ?_⟩;refine ⟨_,rfl,rfl,_,rfl,iteN (ae (1)) ?_⟩;refine ⟨_,rfl,rfl,_,rfl,iteN (ae (1)) ?_⟩;refine ⟨_,rfl,rfl,_,rfl,iteN (ae (1)) ?_⟩;refine ⟨_,rfl,rfl,_,rfl,iteN (ae (1)) ?_⟩;refine ⟨_,rfl,rfl,_,rfl,iteN (ae (1)) ?_⟩;exact q _ (λ_ _ h=>h)
 | one _ i h1 h2 =>
  refine ⟨_,rfl,_,_,_,ht,rfl,rfl,isS ?_⟩;refine ⟨_,rfl,_,_,_,(by rw [<- ed];exact hd),rfl,at0 _ _,isS ?_⟩;refine ⟨[.str _],.cons .str .nil,sz1,λv4 H4 g4 hv4=>?_⟩;replace ht:=ht.same g4;replace hd:=hd.same g4;replace q:=λH' g=>q H' (g4.trans g);obtain ⟨p4,zs,rfl,hz,_,rz⟩:=id hv4.unref;obtain rfl:=wD rz;refine ⟨_,rfl,p4,_,rfl,.inr hz,rfl,rfl,_,rfl,aF (λc=>absurd c (by simp [uN])) (λ_=>?_)⟩;refine ⟨_,rfl,_,_,_,ht,rfl,rfl,isS ?_⟩;refine ⟨_,rfl,rfl,_,rfl,iteN (ae (1)) ?_⟩;refine ⟨_,rfl,rfl,_,rfl,iteN (ae (1)) ?_⟩;refine ⟨_,rfl,rfl,_,rfl,iteN (ae (1)) ?_⟩;refine ⟨_,rfl,rfl,_,rfl,iteN (ae (1)) ?_⟩;refine ⟨_,rfl,rfl,_,rfl,iteN (ae (1)) ?_⟩;refine ⟨_,rfl,rfl,_,rfl,aC ?_⟩;refine ⟨_,rfl,_,_,_,ht,rfl,rfl,λv6 hv6=>?_⟩;refine ⟨_,v6,rfl,hv6,rfl,?_⟩;refine ⟨_,rfl,aq ?_⟩;refine ⟨_,rfl,_,_,_,ht,rfl,rfl,isI ?_⟩;refine ⟨_,_,rfl,rfl,?_⟩;rw [decide_eq_true (show i≥1 from h1)];exact q _ (λ_ _ h=>h)
 | out _ m h1 =>
  cases ed
  refine ⟨_,rfl,_,_,_,ht,rfl,rfl,isS ?_⟩;refine ⟨_,rfl,_,_,_,hd,rfl,at0 _ _,isS ?_⟩;refine ⟨[.str _],.cons .str .nil,sz1,λv4 H4 g4 hv4=>?_⟩;replace ht:=ht.same g4;replace hd:=hd.same g4;replace q:=λH' g=>q H' (g4.trans g);refine ⟨_,rfl,338,_,rfl,.inr (s_TURN_SORTS (338,["list"]) (by simp) _),rfl,rfl,_,rfl,aF (λc=>absurd c (by decide +kernel)) (λ_=>?_)⟩;refine ⟨_,rfl,_,_,_,ht,rfl,rfl,isS ?_⟩;refine ⟨_,rfl,rfl,_,rfl,iteN (ae (1)) ?_⟩;refine ⟨_,rfl,rfl,_,rfl,iteN (ae (1)) ?_⟩;refine ⟨_,rfl,rfl,_,rfl,iteN (ae (1)) ?_⟩;refine ⟨_,rfl,rfl,_,rfl,iteN (ae (1)) ?_⟩;refine ⟨_,rfl,rfl,_,rfl,iteN (ae (1)) ?_⟩;refine ⟨_,rfl,rfl,_,rfl,iteN (ae (1)) ?_⟩;refine ⟨_,rfl,rfl,_,rfl,aC ?_⟩;refine ⟨_,rfl,_,_,_,hd,rfl,rfl,isI ?_⟩;refine ⟨_,_,rfl,rfl,?_⟩;rw [decide_eq_true (show m≥1 from h1)];exact q _ (λ_ _ h=>h)theorem rep_next (i:Nat):bls (List.replicate i true)++[V.bl true]=bls (List.replicate (i+1) true):=by simp [bls,aBw]
theorem gl {i:Nat} (h:i<=999):(bls (List.replicate i true)).length < sizeLine:=by
 simp only [bls,aAe,aA3];exact am (by lia)
theorem gm (i:Nat):(List.replicate i true).all id=true:=by simp
theorem uP {u:Str} {ws:List Str} (h:u∈ws):inV (.str u) (ws.map V.str)=true:=by
 unfold inV;rw [List.any_map,List.any_eq_true];exact ⟨u,h,by simp [eqV]⟩
theorem inG {u:Str} {ws:List Str} (h:u∈ws):(if false=true then !inV (.str u) (ws.map V.str) else inV (.str u) (ws.map V.str))=true:=by
 rw [if_neg (1),uP h]
theorem eqG (x:V):decide (x=x)=true:=decide_eq_true rfl
theorem gP (ws:List Str):(ws.map V.str).all dY=true:=by simp [dY]
theorem gQ:∀ {l:List (Str×Dt)} {z:Str} {d:Dt},(l.map (·.1)).Nodup->(z,d)∈l->aP l z=some d
 | (y,e) :: l,z,d,nd,h=>by
  have nd':=aBa.mp nd;rcases aAm.mp h with h | h
  ·injection h with h1 h2
   subst h1;subst h2;simp [aP]
  ·have:y≠z:=λc=>nd'.1 (aAO.mpr ⟨(z,d),h,c.symm⟩);have e:aP ((y,e) :: l) z=aP l z:=by simp [aP,this]
   rw [e];exact gQ nd'.2 h
theorem gR {K:W.Frag} {H:Hp} {p:Str×Str} {v:V} (h:IsP K H (prS p) v):∃ b,v=.ref b/\SqT K H b [.str p.1,.str p.2]:=by
 obtain ⟨b,ys,rfl,hb,pb,rb⟩:=h.unref
 cases rb with
 | cons r1 rb =>
  cases rb with
  | @cons _ _ y2 _ r2 rb =>
   cases rb
   obtain rfl:=ao r1;obtain rfl:=ao r2;exact ⟨b,rfl,hb⟩
theorem DicP.same {K:W.Frag} {H H':Hp} {p:Addr} {fs:List (Str×Dt)} (h:DicP K H p fs) (g:Same H H'):DicP K H' p fs:=by
 obtain ⟨kvs,e,k⟩:=h;refine ⟨kvs,g _ _ e,λz=>⟨(k z).1,λd l=>?_⟩⟩;obtain ⟨v,l1,l2⟩:=(k z).2 d l;exact ⟨v,l1,l2.same g⟩
theorem uQ {ws:List Str} (hw:bo ws=true):okD (.tup (ws.map Dt.str))=true:=by
 obtain ⟨_,_,hn,_⟩:=aD hw;refine jf λd hd=>?_;obtain ⟨z,hz,rfl⟩:=aAO.mp hd;exact qC (aAG.mp hn z hz)
theorem wE {ws:List Str} (hw:bo ws=true):pF (.tup (ws.map Dt.str))=true:=by
 have:=qD (FK.choice ws hw) 1;exact this
theorem wF (ws fs:List Str):ws.zip (fs.map Dt.str)=(ws.zip fs).map λp=>(p.1,Dt.str p.2):=by
 rw [List.zip_map_right]
 rfl
theorem nV:∀ {ws fs:List Str},fs.length=ws.length->(ws.zip (fs.map Dt.str)).map (·.1)=ws
 | [],_,_=>by simp
 | w :: ws,[],h=>by simp at h
 | w :: ws,f :: fs,h=>by
  have:=nV (ws:=ws) (fs:=fs) (by simpa using h);simp only [aAS,List.zip_cons_cons,this]
theorem nW {ws fs:List Str} {w f:Str} (nd:ws.Nodup) (hl:fs.length=ws.length) (h:(w,f)∈ws.zip fs):aP (ws.zip (fs.map Dt.str)) w=some (.str f):=by
 refine gQ (by rw [nV hl];exact nd) ?_;rw [wF];exact aAO.mpr ⟨(w,f),h,rfl⟩
theorem qJ {bs:List (Str×Str)} {w f:Str} (nd:(bs.map (·.1)).Nodup) (h:(w,f)∈bs):aP (bs.map λp=>(p.1,Dt.str p.2)) w=some (.str f):=by
 refine gQ (by rw [aAu];exact nd) (aAO.mpr ⟨(w,f),h,rfl⟩)
theorem DicP.at {K:W.Frag} {H:Hp} {p:Addr} {fs:List (Str×Dt)} {z u:Str} (h:DicP K H p fs) (l:aP fs z=some (.str u)):DGet H p (.str z) (some (.str u)):=by
 obtain ⟨v,hv,r⟩:=h.get l;obtain rfl:=ao r;exact hv
theorem gS (T:Tx K mg ad) {f:Addr} {fd:FuncData} (F:Gn K mg "are_led_words" aw ["forth","back","elder"] f fd):FnOk P w K mg base CX0 3 f fd ["forth","back","elder"] (de K ad):=by
 obtain ⟨_,_,Kk⟩:=T.words_behind;have KF:=dR (P:=P) (w:=w) (base:=base) T Kk;obtain ⟨_,_,Ku⟩:=T.are_words;have KS:=gc (P:=P) (w:=w) (base:=base) T Ku;refine F.F.ok sc_are_led_words (λvs H Q E h=>?_) (λcdv A outer s H vs Q E hr h=>?_)
 ·obtain ⟨fs,bs,ws,x,y,z,rfl,_⟩:=h
  rfl
 obtain ⟨fs,bs,ws,x,y,z,rfl,hf,hb,hw,ww,lw,q⟩:=h;refine ⟨_,(5,(12,PW.pt (@pw_or _ _ _ _ _ _ _ (@pt_not _ _ _ _ (@pt_val _ _ _ (pe_callB (aj (K:=K) rfl) rfl T.z_isinstance boot_isinstance (10,aH rfl T.z_tuple boot_tuple)) (by intro _;rfl))) (@pw_or1 _ _ _ _ (pt_cmpR op_ne (pe_callB (call_lenDN (K:=K) rfl) rfl T.z_len PySem.boot_len (@pa1 _ _ _ (pv 0) (0))) (pe_callB (call_lenDN (K:=K) rfl) rfl T.z_len PySem.boot_len (@pa1 _ _ _ (pv 2) (0))) (nomark _))))),(5,(12,PW.pt (@pw_or _ _ _ _ _ _ _ (@pt_not _ _ _ _ (@pt_val _ _ _ (pe_callB (aj (K:=K) rfl) rfl T.z_isinstance boot_isinstance (9,pv 1,aH rfl T.z_tuple boot_tuple)) (by intro _;rfl))) (@pw_or1 _ _ _ _ (@pt_not _ _ _ _ (@pt_val _ _ _ (pe_callB (call_allN (K:=K) rfl rfl) rfl T.z_all boot_all (@pa1 _ _ _ (aG rfl (cs0 (NL:=["pair"]) rfl (by decide +kernel) (by decide +kernel)) (aM (K:=K) rfl (pv 1)) (λ_ _ _ _=>(ai (i:=0) (show List.Nodup (α:=Str) ["pair"] by decide +kernel) rfl (Or.inl rfl))) (λ_ _ _ _=>(pe_and (pe_callB (aj (K:=K) rfl) rfl T.z_isinstance boot_isinstance (10,aH rfl T.z_tuple boot_tuple)) (pe_one (pe_cmpR op_eq (pe_callB (call_lenDN (K:=K) rfl) rfl T.z_len PySem.boot_len (@pa1 _ _ _ (pv 0) (0))) pe_int (nomark _)))))) (0))) (by intro _;rfl)))))),(5,@ps_set _ _ 3 _ _ _ _ sc_are_led_words.nd rfl (Or.inr rfl) (7,Kk,KF,@pa1 _ _ _ (pv 1) (0)) (0) (.inl rfl),(5,(12,PW.pt (@pw_or _ _ _ _ _ _ _ (@pt_not _ _ _ _ (@pt_val _ _ _ (7,Ku,KS,@pa1 _ _ _ (pv 3) (0)) (by intro _;rfl))) (@pw_or1 _ _ _ _ (@pt_not _ _ _ _ (@pt_val _ _ _ (pe_callB (call_allN (K:=K) rfl rfl) rfl T.z_all boot_all (@pa1 _ _ _ (aG rfl (csR (sc:=aa aw) (NL:=["word"]) (N:=["forth","back","elder","behind","there","again"]) (ρ:=[3]) (N':=["word","behind"]) rfl rfl rfl (by decide +kernel) (by decide +kernel) (by decide +kernel) rfl (by decide +kernel)) (aM (K:=K) rfl (pv 0)) (λ_ _ _ _=>(ai (i:=0) (show List.Nodup (α:=Str) ["word","behind"] by decide +kernel) rfl (Or.inl rfl))) (λ_ _ _ _=>(pe_cmpR (op_in_seqK (K:=K) rfl) (pv 0) (pv 1) rfl))) (0))) (by intro _;rfl)))))),(5,(12,@pt_not _ _ _ _ (@pt_val _ _ _ (pe_callB (call_allN (K:=K) rfl rfl) rfl T.z_all boot_all (@pa1 _ _ _ (aG rfl (csR (sc:=aa aw) (NL:=["first","word"]) (N:=["forth","back","elder","behind","there","again"]) (ρ:=[2]) (N':=["first","word","elder"]) rfl rfl rfl (by decide +kernel) (by decide +kernel) (by decide +kernel) rfl (by decide +kernel)) (aM (K:=K) rfl (pv 1)) (λ_ _ _ _=>(dE (K:=K) (n:=2) rfl rfl (az (ai (i:=0) (show List.Nodup (α:=Str) ["first","word","elder"] by decide +kernel) rfl (Or.inl rfl)) (az (ai (i:=1) (show List.Nodup (α:=Str) ["first","word","elder"] by decide +kernel) rfl (Or.inl rfl)) bY)))) (λ_ _ _ _=>(pe_cmpR (op_in_seqK (K:=K) rfl) (pv 1) (pv 2) rfl))) (0))) (by intro _;rfl))),(5,@ps_set _ _ 4 _ _ _ _ sc_are_led_words.nd rfl (Or.inr rfl) (pe_dictZ rfl rfl T.z_dict rfl T.z_zip (9,pv 2,pv 0)) (0) (.inl rfl),(5,@ps_set _ _ 5 _ _ _ _ sc_are_led_words.nd rfl (Or.inr rfl) (pe_callTy (call_dictPN (K:=K) rfl rfl) rfl T.z_dict boot_dict (@pa1 _ _ _ (pv 1) (0))) (0) (.inl rfl),(5,(12,@pt_not _ _ _ _ (@pt_val _ _ _ (pe_callB (call_allN (K:=K) rfl rfl) rfl T.z_all boot_all (@pa1 _ _ _ (aG rfl (csR (sc:=aa aw) (NL:=["word"]) (N:=["forth","back","elder","behind","there","again"]) (ρ:=[4,5]) (N':=["word","there","again"]) rfl rfl rfl (by decide +kernel) (by decide +kernel) (by decide +kernel) rfl (by decide +kernel)) (aM (K:=K) rfl (pv 0)) (λ_ _ _ _=>(ai (i:=0) (show List.Nodup (α:=Str) ["word","there","again"] by decide +kernel) rfl (Or.inl rfl))) (λ_ _ _ _=>(pe_cmpR op_eq (@iR _ _ _ _ _ _ (u1 hr.units) (pv 1) (@iR _ _ _ _ _ _ (u1 hr.units) (pv 2) (pv 0) (λ_ _=>rfl)) (λ_ _=>rfl)) (pv 0) (nomark _)))) (0))) (by intro _;rfl))),(3,(4,pe_callB (call_allN (K:=K) rfl rfl) rfl T.z_all boot_all (@pa1 _ _ _ (aG rfl (csR (sc:=aa aw) (NL:=["first","word"]) (N:=["forth","back","elder","behind","there","again"]) (ρ:=[4,5]) (N':=["first","word","there","again"]) rfl rfl rfl (by decide +kernel) (by decide +kernel) (by decide +kernel) rfl (by decide +kernel)) (aM (K:=K) rfl (pv 1)) (λ_ _ _ _=>(dE (K:=K) (n:=2) rfl rfl (az (ai (i:=0) (show List.Nodup (α:=Str) ["first","word","there","again"] by decide +kernel) rfl (Or.inl rfl)) (az (ai (i:=1) (show List.Nodup (α:=Str) ["first","word","there","again"] by decide +kernel) rfl (Or.inl rfl)) bY)))) (λ_ _ _ _=>(pe_cmpR op_eq (@iR _ _ _ _ _ _ (u1 hr.units) (pv 3) (@iR _ _ _ _ _ _ (u1 hr.units) (pv 2) (pv 1) (λ_ _=>rfl)) (λ_ _=>rfl)) (pv 1) (nomark _)))) (0)))))))))))),?_⟩;obtain ⟨_,lw8,_,ndw⟩:=aD ww;obtain ⟨_,lb8,_,ndb⟩:=aD lw.words;rw [aAe] at lb8;have lf:=lw.len;obtain ⟨a1,xs1,rfl,hT1,pa1,ra1⟩:=id hf.unref;obtain ⟨a2,xs2,rfl,hT2,pa2,ra2⟩:=id hb.unref;obtain ⟨a3,xs3,rfl,hT3,pa3,ra3⟩:=id hw.unref;have e1:=aN ra1;have e3:=aN ra3;subst e1;subst e3;have l2:=ra2.length;rw [aAe] at l2;refine ⟨_,rfl,_,_,_,rfl,.tup_tuple hT1,_,rfl,aA ?_⟩;refine ⟨_,rfl,_,_,rfl,hf.d,_,rfl,_,_,rfl,hw.d,?_⟩;rw [aAe,aAe,lf];refine ⟨rfl,_,rfl,kN ?_⟩;refine ⟨_,rfl,_,_,_,rfl,.tup_tuple hT2,_,rfl,aA ?_⟩;refine ⟨_,rfl,a2,rfl,⟨_,hT2⟩,λl hln=>?_⟩;refine aR (K:=K) (xs:=xs2) (λi ys σ H'=>ys=bls (List.replicate i true)/\Same H H'/\H' l=some (.lst ys)/\σ.length=1) ⟨rfl,af hln _,ac,rfl⟩ (λi ys σ H' _ r=>r.2.1.tup hT2) ?_ ?_
 ·rintro i y ys σ H1 N hy ⟨rfl,g,e1,hσ⟩ next;obtain ⟨d,hdi,hp⟩:=ra2.get' hy;rw [aAC] at hdi;obtain ⟨p,hfi,rfl⟩:=aAE.mp hdi;have hil:=(aAc.mp hfi).1;replace hp:=hp.same g;obtain ⟨b,rfl,hb2⟩:=gR hp
  match σ,hσ with
  | [_],_ =>
   refine ⟨_,rfl,_,_,_,rfl,.tup_tuple hb2,_,rfl,aq ?_⟩;refine ⟨_,rfl,_,_,rfl,hp.d,rfl,?_⟩;have e2:decide ((V.int ((2:Nat):Int))=.int 2)=true:=rfl;exact ⟨e1,gl (by lia),next _ _ _ ⟨rep_next i,aK hln g,ac,rfl⟩⟩
 rintro ys σ H1 ⟨rfl,g1,e1,_⟩;refine ⟨l,_,rfl,rfl,SqL.of e1,_,rfl,?_⟩;rw [gm];refine aA ?_
 clear e1 hln l
 have hb1:=hb.same g1;have eb:bs.map prS=(bs.map λp=>(Dt.str p.1,Dt.str p.2)).map prT:=by rw [aAu];rfl
 refine ⟨_,rfl,_,_,rfl,(by rw [<- eb];exact hb1),(by rw [aAe];lia),λv3 H2 g2 hv3=>?_⟩;have ev:(bs.map λp=>(Dt.str p.1,Dt.str p.2)).map (·.1)=(bs.map (·.1)).map Dt.str:=by rw [aAu,aAu];rfl
 rw [ev] at hv3;refine ⟨_,rfl,_,_,rfl,hv3,uQ lw.words,λH3 g3=>?_⟩;rw [wE lw.words];refine ⟨_,rfl,aA ?_⟩;replace hv3:=hv3.same g3;replace g3:=(g1.trans g2).trans g3
 clear hb1
 obtain ⟨a4,xs4,rfl,hT4,pa4,ra4⟩:=id hv3.unref;have e4:=aN ra4;subst e4;have hT1':=g3.tup hT1;refine ⟨_,rfl,a1,rfl,⟨_,hT1'⟩,λl hln=>?_⟩;refine aR (K:=K) (xs:=fs.map V.str) (λi ys σ H'=>ys=bls (List.replicate i true)/\Same H3 H'/\H' l=some (.lst ys)/\∃ w,σ=[w,some (.ref a4)]) ⟨rfl,af hln _,ac,_,rfl⟩ (λi ys σ H' _ r=>r.2.1.tup hT1') ?_ ?_
 ·rintro i y ys σ H1 N hy ⟨rfl,g,e1,w1,rfl⟩ next;rw [aAC] at hy;obtain ⟨f1,hfi,rfl⟩:=aAE.mp hy;have hil:=(aAc.mp hfi).1;have hm:=aAs hfi;obtain ⟨u,hu,_⟩:=lw.fwd f1 hm;refine ⟨_,rfl,_,rfl,a4,_,rfl,.inr (g.tup hT4),rfl,gP _,?_⟩;rw [inG (aAO.mpr ⟨(f1,u),hu,rfl⟩:f1∈bs.map (·.1))];exact ⟨e1,gl (by lia),next _ _ _ ⟨rep_next i,aK hln g,ac,_,rfl⟩⟩
 rintro ys σ H4 ⟨rfl,g4,e1,_⟩;refine ⟨l,_,rfl,rfl,SqL.of e1,_,rfl,?_⟩;rw [gm];refine aA ?_
 clear e1 hln l
 replace g4:=g3.trans g4
 clear g3 hT1'
 have hT2':=g4.tup hT2;have hT3':=g4.tup hT3;refine ⟨_,rfl,a2,rfl,⟨_,hT2'⟩,λl hln=>?_⟩;refine aR (K:=K) (xs:=xs2) (λi ys σ H'=>ys=bls (List.replicate i true)/\Same H4 H'/\H' l=some (.lst ys)/\∃ w w2,σ=[w,w2,some (.ref a3)]) ⟨rfl,af hln _,ac,_,_,rfl⟩ (λi ys σ H' _ r=>r.2.1.tup hT2') ?_ ?_
 ·rintro i y ys σ H1 N hy ⟨rfl,g,e1,w1,w2,rfl⟩ next;obtain ⟨d,hdi,hp⟩:=ra2.get' hy;rw [aAC] at hdi;obtain ⟨p,hfi,rfl⟩:=aAE.mp hdi;have hil:=(aAc.mp hfi).1;have hm:=aAs hfi;obtain ⟨u,hu,_⟩:=lw.bwd p hm;replace hp:=hp.same (g4.trans g);obtain ⟨b,rfl,hb2⟩:=gR hp;refine ⟨b,_,rfl,hb2,rfl,_,_,rfl,_,_,rfl,rfl,?_⟩;refine ⟨_,rfl,_,rfl,a3,_,rfl,.inr (g.tup hT3'),rfl,gP _,?_⟩;rw [inG (aBi hu).1];exact ⟨e1,gl (by lia),next _ _ _ ⟨rep_next i,aK hln g,ac,_,_,rfl⟩⟩
 rintro ys σ H5 ⟨rfl,g5,e1,_⟩;refine ⟨l,_,rfl,rfl,SqL.of e1,_,rfl,?_⟩;rw [gm];refine aA ?_
 clear e1 hln l
 replace g5:=g4.trans g5
 clear g4 hT2' hT3'
 refine ⟨_,rfl,_,rfl,_,_,ws,fs.map Dt.str,rfl,hw.same g5,hf.same g5,(by rw [aAe];exact lf),ndw,(by lia),λp6 H6 g6 _ dq=>?_⟩;replace g6:=g5.trans g6;have eb2:bs.map prS=(bs.map λp=>(p.1,Dt.str p.2)).map prD:=by rw [aAu];rfl
 refine ⟨_,rfl,_,_,rfl,(by rw [<- eb2];exact hb.same g6),(by rw [aAu];exact ndb),(by rw [aAe];lia),λp7 H7 g7 dp=>?_⟩;have dz:=DicP.same dq.p g7;replace g7:=g6.trans g7
 clear dq
 have hT1':=g7.tup hT1;have hT2':=g7.tup hT2;refine ⟨_,rfl,a1,rfl,⟨_,hT1'⟩,λl hln=>?_⟩;refine aR (K:=K) (xs:=fs.map V.str) (λi ys σ H'=>ys=bls (List.replicate i true)/\Same H7 H'/\H' l=some (.lst ys)/\∃ w,σ=[w,some (.ref p6),some (.ref p7)]) ⟨rfl,af hln _,ac,_,rfl⟩ (λi ys σ H' _ r=>r.2.1.tup hT1') ?_ ?_
 ·rintro i y ys σ H1 N hy ⟨rfl,g,e1,w1,rfl⟩ next;rw [aAC] at hy;obtain ⟨f1,hfi,rfl⟩:=aAE.mp hy;have hil:=(aAc.mp hfi).1;have hm:=aAs hfi;obtain ⟨u,hu,hz⟩:=lw.fwd f1 hm;refine ⟨_,rfl,_,rfl,_,rfl,p7,_,rfl,DicP.at (K:=K) (DicP.same dp g) (qJ ndb hu),p6,_,rfl,DicP.at (K:=K) (DicP.same dz g) (nW ndw lf hz),?_⟩;refine ⟨_,rfl,rfl,?_⟩;rw [eqG];exact ⟨e1,gl (by lia),next _ _ _ ⟨rep_next i,aK hln g,ac,_,rfl⟩⟩
 rintro ys σ H8 ⟨rfl,g8,e1,_⟩;refine ⟨l,_,rfl,rfl,SqL.of e1,_,rfl,?_⟩;rw [gm];refine aA ?_
 clear e1 hln l
 replace dz:=DicP.same dz g8;replace dp:=DicP.same dp g8;replace g8:=g7.trans g8
 clear g7 hT1' hT2'
 have hT2':=g8.tup hT2;refine ⟨_,rfl,a2,rfl,⟨_,hT2'⟩,λl hln=>?_⟩;refine aR (K:=K) (xs:=xs2) (λi ys σ H'=>ys=bls (List.replicate i true)/\Same H8 H'/\H' l=some (.lst ys)/\∃ w w2,σ=[w,w2,some (.ref p6),some (.ref p7)]) ⟨rfl,af hln _,ac,_,_,rfl⟩ (λi ys σ H' _ r=>r.2.1.tup hT2') ?_ ?_
 ·rintro i y ys σ H1 N hy ⟨rfl,g,e1,w1,w2,rfl⟩ next;obtain ⟨d,hdi,hp⟩:=ra2.get' hy;rw [aAC] at hdi;obtain ⟨p,hfi,rfl⟩:=aAE.mp hdi;have hil:=(aAc.mp hfi).1;have hm:=aAs hfi;obtain ⟨u,hu,hz⟩:=lw.bwd p hm;replace hp:=hp.same (g8.trans g);obtain ⟨b,rfl,hb2⟩:=gR hp;refine ⟨b,_,rfl,hb2,rfl,_,_,rfl,_,_,rfl,rfl,?_⟩;refine ⟨_,rfl,_,rfl,_,rfl,p6,_,rfl,DicP.at (K:=K) (DicP.same dz g) (nW ndw lf hu),p7,_,rfl,DicP.at (K:=K) (DicP.same dp g) (qJ ndb hz),?_⟩;refine ⟨_,rfl,rfl,?_⟩;rw [eqG];exact ⟨e1,gl (by lia),next _ _ _ ⟨rep_next i,aK hln g,ac,_,_,rfl⟩⟩
 rintro ys σ H9 ⟨rfl,g9,e1,_⟩;refine ⟨l,_,rfl,rfl,SqL.of e1,?_⟩;rw [gm];exact q H9 (g8.trans g9)
theorem nX (T:Tx K mg ad) {f fl:Addr} {fd fdl:FuncData} (A:Gn K mg "is_turn_of" ce ["turn","kind"] f fd) (L:Gn K mg "are_led_words" aw ["forth","back","elder"] fl fdl):∀ n,FnOk P w K mg base CX0 (n+3) f fd ["turn","kind"] (uO K n)
 | 0=>bi λvs H Q E z=>by obtain ⟨_,_,_,_,_,_,_,h,_,_,_,_,pk,_⟩:=z;have:=pk.pos;lia
 | n+1=>jX T n A (nX T A L n) L (gS T L)
def jk (K:W.Frag) (ad:Ads):Sp:=λvs H Q E=>∃ (a c:Nat) (t d:Dt) (x y:V),a<=5/\vs=[x,y]/\IsP K H t x/\IsP K H d y/\okD t=true/\FK a c d/\((∃ e,(∃ a' c',FK a' c' e/\a'<=5/\c'<=40)/\GT t d e/\∀ v H',Same H H'->IsP K H' e v->Q v H')\/(TF t d/\∀ H',Same H H'->E (.ref ad.BadTurn) none H'))
theorem cC (T:Tx K mg ad) {f:Addr} {fd:FuncData} (F:Gn K mg "kind_behind" cW ["turn","kind"] f fd):FnOk P w K mg base (lJ P w) 23 f fd ["turn","kind"] (jk K ad):=by
 obtain ⟨_,_,Ks⟩:=T.is_turn_of;obtain ⟨f1,d1,D1⟩:=T.are_led_words;have KO:=nX (P:=P) (w:=w) (base:=base) T Ks D1 5;obtain ⟨_,_,Kz⟩:=T.led_kind;have K4:=qI (P:=P) (w:=w) (base:=base) T Kz 5;obtain ⟨_,_,KI⟩:=T.made_kind;have L0:=lZ (P:=P) (w:=w) (base:=base) T KI;refine F.F.okE2 jH (λvs H Q E h=>?_) (λcdv A outer s H vs Q E hr h=>?_)
 ·obtain ⟨a,c,t,d,x,y,_,rfl,_⟩:=h
  rfl
 obtain ⟨a,c,t,d,x,y,ha,rfl,ht,hd,ok,fk,alt⟩:=h;refine ⟨_,(5,@ps_if _ _ _ _ _ _ _ _ (@pt_not _ _ _ _ (@pt_val _ _ _ (7,Ks,KO,(10,pv 1)) (by intro _;rfl))) (3,ps_raise2 xeOf2 rfl rfl rfl rfl T.x_BadTurn rfl (@pa1 _ _ _ pe_str (0))) pss_nil,(3,PS.nox (ps_tryN (3,(4,pe_call L0 (hr.mono (by first | decide | lia)) rfl KI.m KI.F.kp KI.b .nil passF (@pa1 _ _ _ (7,Kz,K4,(10,pv 1)) (0))))))),?_⟩;rcases alt with ⟨e,⟨a',c',fk',la,lc⟩,g,q⟩ | ⟨tf,q⟩
 rotate_left
 ·exact ⟨_,rfl,_,rfl,a,c,t,d,false,x,y,ha,rfl,ht,hd,ok,fk,.inr ⟨rfl,tf⟩,λH1 g1=>⟨_,rfl,aq ⟨sz1,q H1 g1⟩⟩⟩
 refine ⟨_,rfl,_,rfl,a,c,t,d,true,x,y,ha,rfl,ht,hd,ok,fk,.inl ⟨rfl,e,g⟩,λH1 g1=>⟨_,rfl,aA ?_⟩⟩;refine ⟨_,rfl,_,rfl,a,c,t,d,e,x,y,ha,rfl,ht.same g1,hd.same g1,fk,g,λv H2 g2 hv=>?_⟩;refine ⟨e,v,rfl,hv,xp fk',.inr ⟨a',c',fk',by lia,λ_ H3 g3=>?_,λz=>by lia⟩⟩;exact q v H3 ((g1.trans g2).trans g3) (hv.same g3)
def okC (c:Nat):Bool:=decide (32<=c) && decide (c<=126) && !decide (c=34) && !decide (c=37)
def okT (z:Str):Prop:=∀ c∈z.cps.toList,okC c=true
theorem qK (c:Nat):(⟨#[c]⟩:Str).length=1:=rfl
theorem wG (a b:Str):(a++b).cps.toList=a.cps.toList++b.cps.toList:=Array.toList_append
theorem xu {z:Str} {d:Int} (h0:0<=d) (h1:d < (z.length:Int)):∃ c,c∈z.cps.toList/\atI z.cps.toList d=some c:=pK (xs:=z.cps.toList) (d:=d) h0 (by simpa [Str.length] using h1)
inductive FV:Dt->Dt->Prop
 | number {i j x:Int}:i<=x->x<=j->FV (.tup [.str "number",.int i,.int j]) (.int x)
 | text {i:Int} {z:Str}:(z.length:Int)<=i->okT z->FV (.tup [.str "text",.int i]) (.str z)
 | choice {ws:List Str} {z:Str}:z∈ws->FV (.tup [.str "choice",.tup (ws.map Dt.str)]) (.str z)
 | list {k:Dt} {i:Int} {vs:List Dt}:(∀ v∈vs,FV k v)->(vs.length:Int)<=i->FV (.tup [.str "list",k,.int i]) (.tup [.str "list",.tup vs])
def jY (_:W.Frag) (_:Ads):Sp:=λvs H Q _=>∃ (r:Addr) (c i j:Int),vs=[.ref r,.int i,.int j]/\H r=some (.lst [.int c])/\-1000000000000000000000000000000<=i/\i<=j/\j<=1000000000000000000000000000000/\∀ x c' H',But r H H'->H' r=some (.lst [.int c'])->i<=x->x<=j->Q (.int x) H'
def nY (_:W.Frag) (_:Ads):Sp:=λvs H Q _=>∃ (r:Addr) (c i:Int),vs=[.ref r,.int i]/\H r=some (.lst [.int c])/\0<=i/\i<=60/\∀ z c' H',But r H H'->H' r=some (.lst [.int c'])->((z:Str).length:Int)<=i->okT z->Q (.str z) H'
theorem jZ (T:Tx K mg ad) {f:Addr} {fd:FuncData} (F:Gn K mg "_law_number" dP ["row","low","high"] f fd):FnOk P w K mg base CX0 2 f fd ["row","low","high"] (jY K ad):=by
 obtain ⟨_,_,J7⟩:=T.law_digit;have J8:=aU (P:=P) (w:=w) (base:=base) T J7;refine F.F.ok fz (λvs H Q E h=>?_) (λcdv A outer s H vs Q E hr h=>?_)
 ·obtain ⟨r,c,i,j,rfl,_⟩:=h
  rfl
 obtain ⟨r,c,i,j,rfl,hr0,h1,h2,h3,q⟩:=h;refine ⟨_,(5,@ps_set _ _ 3 _ _ _ _ fz.nd rfl (Or.inl rfl) (pcl J7 J8 (hr.mono (by lia)) rfl (@pa2 _ _ _ _ _ (pv 0) pe_int (0) (0))) (0) (.inl rfl),(5,@ps_if _ _ _ _ _ _ _ _ (pt_cmpR op_eq (pv 3) pe_int (nomark _)) (3,(4,pv 1)) pss_nil,(5,@ps_if _ _ _ _ _ _ _ _ (pt_cmpR op_eq (pv 3) pe_int (nomark _)) (3,(4,pv 2)) pss_nil,(3,(4,@pe_op _ _ _ _ _ _ _ _ bg (pv 1) (pcl J7 J8 (hr.mono (by lia)) rfl (10,@pe_op _ _ _ _ _ _ _ _ bg (@pe_op _ _ _ _ _ _ _ _ op_sub (pv 2) (pv 1)) pe_int))))))),?_⟩;refine ⟨_,rfl,r,c,6,rfl,hr0,(1),(1),?_⟩;refine ⟨_,rfl,rfl,_,rfl,?_⟩;refine aF (λc1=>⟨_,rfl,q i _ _ But.put ac (aBp _) h2⟩) (λc1=>?_);refine ⟨_,rfl,rfl,_,rfl,?_⟩;refine aF (λc2=>⟨_,rfl,q j _ _ But.put ac h2 (aBp _)⟩) (λc2=>?_);obtain ⟨d0,d1⟩:=mod_lt (c / 6) (m:=j - i+1) (by lia);refine ⟨_,rfl,_,rfl,_,rfl,_,rfl,_,_,rfl,rfl,_,_,rfl,rfl,r,_,_,rfl,ac,by lia,by lia,_,_,rfl,rfl,?_⟩;exact q _ _ _ (But.put.trans But.put) ac (by lia) (by lia)
theorem J5 (i c:Int) (h1:0<=i) (h2:i<=60):(0:Int)<=(if c % 6 < i then c % 6 else i)/\(if c % 6 < i then c % 6 else i)<=5/\(if c % 6 < i then c % 6 else i)<=i:=by
 have:=mod_lt c (m:=6) (1)
 split <;> lia
theorem BE:∀ c∈(Str.ofString "a-|170 b").cps.toList,okC c=true:=by decide +kernel
theorem nZ (T:Tx K mg ad) {f:Addr} {fd:FuncData} (F:Gn K mg "_law_text" fM ["row","most"] f fd):FnOk P w K mg base CX0 2 f fd ["row","most"] (nY K ad):=by
 obtain ⟨_,_,J7⟩:=T.law_digit;have J8:=aU (P:=P) (w:=w) (base:=base) T J7;refine F.F.ok cR (λvs H Q E h=>?_) (λcdv A outer s H vs Q E hr h=>?_)
 ·obtain ⟨r,c,i,rfl,_⟩:=h
  rfl
 obtain ⟨r,c,i,rfl,hr0,h1,h2,q⟩:=h;refine ⟨_,(@pss_cons _ _ _ _ _ (@ps_set _ _ 2 _ _ _ _ cR.nd rfl (Or.inl rfl) pe_str (0) (.inl rfl)) (@pss_cons _ _ _ _ _ (dm PassesOwn.never rfl (cg rfl T.z_range (@pa1 _ _ _ (pe_callB (eR rfl) rfl T.z_min boot_min (9,pv 1,pcl J7 J8 (hr.mono (by lia)) rfl (@pa2 _ _ _ _ _ (pv 0) pe_int (0) (0)))) (0))) (ai (i:=3) cR.nd rfl (Or.inl rfl))
    (3,@ps_set _ _ 2 _ _ _ _ cR.nd rfl (Or.inl rfl) (@pe_op _ _ _ _ _ _ _ _ oG (pv 2) (@pe_ix _ _ _ _ _ _ _ oK pe_str (pcl J7 J8 (hr.mono (by lia)) rfl (@pa2 _ _ _ _ _ (pv 0) pe_int (0) (0))) (λ_ _=>rfl))) (0) (.inl rfl))) (3,(4,pv 2)))),?_⟩
 obtain ⟨k0,k1,k2⟩:=J5 i c h1 h2;refine ⟨_,rfl,_,rfl,r,c,6,rfl,hr0,(1),(1),_,_,rfl,_,rfl,by lia,by lia,c7 (lo:=0) (n:=(if c % 6 < i then c % 6 else i).toNat) (λk σ H'=>∃ z n' v,σ=[some (.ref r),some (.int i),some (.str z),v]/\z.length<=k/\okT z/\But r H H'/\H' r=some (.lst [.int n'])) ⟨"",_,_,rfl,(1),(λc hc=>by cases (show c∈([]:List Nat) from hc)),But.put,ac⟩ ?_ ?_⟩
 ·rintro k σ H' hk ⟨z,n',v,rfl,hz,oz,b,e⟩;obtain ⟨g0,g1⟩:=mod_lt n' (m:=8) (1);obtain ⟨ch,mc,hc⟩:=xu (z:= "a-|170 b") (d:=n' % 8) g0 (by exact g1);refine ⟨_,rfl,_,rfl,r,n',8,rfl,e,(1),(1),_,_,_,rfl,rfl,(by decide +kernel),hc,_,_,rfl,rfl,?_,?_⟩
  ·rw [qK];exact aAM (am (by lia))
  ·refine ⟨_,_,_,rfl,?_,?_,b.trans But.put,ac⟩
   ·rw [Str.length_append,qK];lia
   ·intro c' hc';rw [wG] at hc';rcases aA9.mp hc' with h | h
    ·exact oz c' h
    ·obtain rfl:c'=ch:=by simpa using h
     exact BE _ mc
 ·rintro σ H' ⟨z,n',v,rfl,hz,oz,b,e⟩;exact ⟨_,rfl,q z n' H' b e (by lia) oz⟩
theorem Jm:(Str.ofString " ")=⟨#[32]⟩:=by decide +kernel
theorem Jn:(Str.ofString "\"")=⟨#[34]⟩:=by decide +kernel
theorem wH (c d:Nat):decide (V.str ⟨#[c]⟩=V.str ⟨#[d]⟩)=decide (c=d):=by
 rw [decide_eq_decide];exact ⟨λh=>by injection h with h;injection h with h;simpa using h,λh=>by rw [h]⟩
def pN (_:W.Frag) (_:Ads):Sp:=λvs H Q _=>∃ c:Nat,vs=[.str ⟨#[c]⟩]/\Q (.bl (okC c)) H
theorem uR (a b:Nat):decide (([a]:List Nat) < [b])=decide (a < b):=by
 rw [decide_eq_decide,List.cons_lt_cons_iff];exact ⟨λh=>h.elim id (λh=>absurd h.2 (List.lt_irrefl _)),.inl⟩
theorem Jo:(Str.ofString "~")=⟨#[126]⟩:=by decide +kernel
theorem jl (T:Tx K mg ad) {f:Addr} {fd:FuncData} (F:Gn K mg "is_sign" gZ ["letter"] f fd):FnOk P w K mg base CX0 1 f fd ["letter"] (pN K ad):=by
 obtain ⟨t_PERCENT,c_PERCENT⟩:=T.PERCENT;refine F.F.ok qi (λvs H Q E h=>?_) (λcdv A outer s H vs Q E hr h=>?_)
 ·obtain ⟨c,rfl,_⟩:=h
  rfl
 obtain ⟨c,rfl,q⟩:=h;refine ⟨_,(3,(4,pe_and (mF kI kI pe_str (pv 0) pe_str) (pe_and (pe_cmpR op_ne (pv 0) pe_str (nomark _)) (pe_one (pe_cmpR op_ne (pe_callB sX rfl T.z_ord boot_ord (@pa1 _ _ _ (pv 0) (0))) (pe_gint rfl c_PERCENT) (nomark _)))))),?_⟩;refine ⟨_,rfl,_,_,rfl,rfl,_,rfl,?_⟩;rw [Jm,show (!decide ((⟨#[c]⟩:Str).cps.toList < (⟨#[32]⟩:Str).cps.toList))=decide (32<=c) from by
  rw [show decide ((⟨#[c]⟩:Str).cps.toList < (⟨#[32]⟩:Str).cps.toList)=decide (c < 32) from uR c 32]
  by_cases h:c < 32 <;> simp [h] <;> lia]
 unfold okC at q;refine aF (λc1=>?_) (λc1=>?_)
 ·rw [c1] at q;refine ⟨_,_,rfl,rfl,?_⟩;rw [Jo,show (!decide ((⟨#[126]⟩:Str).cps.toList < (⟨#[c]⟩:Str).cps.toList))=decide (c<=126) from by
   rw [show decide ((⟨#[126]⟩:Str).cps.toList < (⟨#[c]⟩:Str).cps.toList)=decide (126 < c) from uR 126 c]
   by_cases h:c<=126 <;> simp [h] <;> lia]
  refine ⟨_,rfl,aF (λc2=>?_) (λc2=>?_)⟩
  ·rw [c2] at q;refine ⟨_,rfl,rfl,_,rfl,?_⟩;rw [Jn,wH];refine aF (λc3=>?_) (λc3=>?_)
   ·rw [c3] at q;refine ⟨_,rfl,_,rfl,rfl,rfl,?_⟩;rw [show decide (V.int ((⟨#[c]⟩:Str).cps.getD 0 0:Nat)=V.int 37)=decide (c=37) from by
     rw [decide_eq_decide];exact ⟨λh=>by injection h with h;exact Int.ofNat.inj h,λh=>by rw [h];rfl⟩]
    exact q
   ·rw [show (!decide (c=34))=false from by simpa using c3] at q;exact q
  ·rw [show decide (c<=126)=false from by simpa using c2] at q;exact q
 ·rw [show decide (32<=c)=false from by simpa using c1] at q;exact ⟨_,rfl,aA q⟩
theorem qL (n:Nat):(List.replicate n true).all id=true:=aAG.mpr λb hb=>(List.mem_replicate.mp hb).2 ▸ rfl
def j0 (_:W.Frag) (_:Ads):Sp:=λvs H Q _=>∃ (z:Str) (i:Int),vs=[.str z,.int i]/\(z.length:Int)<=i/\i<=60/\okT z/\∀ H',Same H H'->Q (.bl true) H'
theorem j4 (T:Tx K mg ad) {f:Addr} {fd:FuncData} (F:Gn K mg "is_text_of" dI ["value","most"] f fd):FnOk P w K mg base CX0 2 f fd ["value","most"] (j0 K ad):=by
 obtain ⟨_,_,KK⟩:=T.is_sign;have Lb:=jl (P:=P) (w:=w) (base:=base) T KK;refine F.F.ok kh (λvs H Q E h=>?_) (λcdv A outer s H vs Q E hr h=>?_)
 ·obtain ⟨z,i,rfl,_⟩:=h
  rfl
 obtain ⟨z,i,rfl,h1,h2,ok,q⟩:=h;refine ⟨_,(5,(12,PW.pt (@pw_or _ _ _ _ _ _ _ (@pt_not _ _ _ _ (@pt_val _ _ _ (pe_callB (aj (K:=K) rfl) rfl T.z_isinstance boot_isinstance (10,aH rfl T.z_str boot_str)) (by intro _;rfl))) (@pw_or1 _ _ _ _ (pt_cmpR op_gt (pe_callB call_len_str rfl T.z_len PySem.boot_len (@pa1 _ _ _ (pv 0) (0))) (pv 1) (nomark _))))),(3,(4,pe_callB (call_allN (K:=K) rfl rfl) rfl T.z_all boot_all (@pa1 _ _ _ (aG rfl (cs0 (NL:=["letter"]) rfl (by decide +kernel) (by decide +kernel)) (tJ (pv 0)) (λ_ _ _ _=>(ai (i:=0) (show List.Nodup (α:=Str) ["letter"] by decide +kernel) rfl (Or.inl rfl))) (λ_ _ _ _=>(7,KK,Lb,@pa1 _ _ _ (pv 0) (0)))) (0))))),?_⟩;refine ⟨_,rfl,_,_,_,rfl,.str_str,_,rfl,aA ?_⟩;refine ⟨_,rfl,_,rfl,small (by lia),_,rfl,_,_,rfl,rfl,_,rfl,?_⟩;rw [decide_eq_false (by lia)];refine aA ?_;refine ⟨_,rfl,_,rfl,λl hln=>?_⟩;refine rQ (λj ys σ H'=>ys=bls (List.replicate j true)/\j<=60/\Same H H'/\H' l=some (.lst ys)/\∃ v1,σ=[v1]) ⟨rfl,aAI _,af hln _,ac,none,rfl⟩ ?_ ?_
 ·rintro j c ys σ H1 N hc ⟨rfl,hj,g1,e1,v1,rfl⟩ next;have hj2:j < z.cps.size:=(aAH.mp hc).1;have hz:z.cps.size=z.length:=rfl;have hm:c∈z.cps.toList:=Array.mem_toList_iff.mpr (Array.mem_of_getElem? hc);refine ⟨_,rfl,c,rfl,?_⟩;rw [ok c hm];refine ⟨e1,?_,next _ _ _ ⟨?_,by lia,aK hln g1,ac,_,rfl⟩⟩
  ·rw [bls,aAe,aA3];exact am (by lia)
  ·unfold bls;rw [aBw,aA4]
   rfl
 ·rintro ys σ H1 ⟨rfl,hj,g1,e1,v1,rfl⟩;refine ⟨l,_,rfl,rfl,SqL.of e1,?_⟩;rw [qL];exact q H1 g1
def jm (K:W.Frag) (_:Ads):Sp:=λvs H Q _=>∃ (z:Str) (l:List Dt) (x:V),vs=[x,.str z]/\IsP K H (.tup [.str z,.tup l]) x/\Q (.bl true) H
theorem jn (T:Tx K mg ad) {f:Addr} {fd:FuncData} (F:Gn K mg "holds_tuple" cV ["value","word"] f fd):FnOk P w K mg base CX0 1 f fd ["value","word"] (jm K ad):=by
 refine F.F.ok jF (λvs H Q E h=>?_) (λcdv A outer s H vs Q E hr h=>?_)
 ·obtain ⟨z,l,x,rfl,_⟩:=h
  rfl
 obtain ⟨z,l,x,rfl,hd,q⟩:=h;refine ⟨_,(3,(4,pe_and (pe_callB (aj (K:=K) rfl) rfl T.z_isinstance boot_isinstance (10,aH rfl T.z_tuple boot_tuple)) (pe_and (pe_cmpR op_eq (pe_callB (call_lenDN (K:=K) rfl) rfl T.z_len PySem.boot_len (@pa1 _ _ _ (pv 0) (0))) pe_int (nomark _)) (pe_and (pe_cmpR op_eq (6) (pv 1) (nomark _)) (pe_one (pe_callB (aj (K:=K) rfl) rfl T.z_isinstance boot_isinstance (9,(6),aH rfl T.z_tuple boot_tuple))))))),?_⟩;obtain ⟨a,xs,ex,ha,pa,ra⟩:=hd.unref;refine ⟨_,rfl,_,_,_,rfl,(by rw [ex];exact .tup_tuple ha),_,rfl,aq ?_⟩;refine ⟨_,rfl,x,_,rfl,hd.d,rfl,_,rfl,aC ?_⟩;refine ⟨_,rfl,_,_,_,hd,rfl,rfl,isS ?_⟩;refine ⟨_,rfl,rfl,_,rfl,aC ?_⟩;refine ⟨_,rfl,_,_,_,hd,rfl,rfl,λv hv=>?_⟩;obtain ⟨b,ys,rfl,hb,_⟩:=hv.unref;exact ⟨_,_,_,rfl,.tup_tuple hb,q⟩
def l9 (_:W.Frag) (_:Ads):Sp:=λ_ _ _ _=>False
theorem fH {d e:Dt} (h:FV d e):∀ i j:Int,d=.tup [.str "number",.int i,.int j]->∃ x,e=.int x/\i<=x/\x<=j:=by
 cases h with
 | number h1 h2 =>
  intro i j e;simp at e;obtain ⟨rfl,rfl⟩:=e;exact ⟨_,rfl,h1,h2⟩
 | _ =>
  intro i j e;simp at e <;> first | exact absurd e.1 (1) | exact absurd e (1)
theorem iT {d e:Dt} (h:FV d e):∀ i:Int,d=.tup [.str "text",.int i]->∃ z,e=.str z/\(z.length:Int)<=i/\okT z:=by
 cases h with
 | text h1 h2 =>
  intro i e;simp at e;obtain rfl:=e;exact ⟨_,rfl,h1,h2⟩
 | _ =>
  intro i e;simp at e <;> first | exact absurd e.1 (1) | exact absurd e (1)
theorem n8:∀ {ws vs:List Str},ws.map Dt.str=vs.map Dt.str->ws=vs
 | [],[],_=>rfl
 | [],_ :: _,h=>by simp at h
 | _ :: _,[],h=>by simp at h
 | a :: ws,b :: vs,h=>by
  have h':=List.cons.inj (show Dt.str a :: ws.map Dt.str=Dt.str b :: vs.map Dt.str from h);rw [Dt.str.inj h'.1,n8 h'.2]
theorem gU {d e:Dt} (h:FV d e):∀ ws:List Str,d=.tup [.str "choice",.tup (ws.map Dt.str)]->∃ z,e=.str z/\z∈ws:=by
 cases h with
 | @choice ws' z hz =>
  intro ws e;have e':ws'.map Dt.str=ws.map Dt.str:=by simpa using e
  obtain rfl:=n8 e';exact ⟨_,rfl,hz⟩
 | _ =>
  intro ws e;simp at e <;> first | exact absurd e.1 (1) | exact absurd e (1)
theorem iU {d e:Dt} (h:FV d e):∀ (k:Dt) (i:Int),d=.tup [.str "list",k,.int i]->∃ vs,e=.tup [.str "list",.tup vs]/\(∀ v∈vs,FV k v)/\(vs.length:Int)<=i:=by
 cases h with
 | list h1 h2 =>
  intro k i e;simp at e;obtain ⟨rfl,rfl⟩:=e;exact ⟨_,rfl,h1,h2⟩
 | _ =>
  intro k i e;simp at e <;> first | exact absurd e.1 (1) | exact absurd e (1)
def qM (K:W.Frag) (n:Nat):Sp:=λvs H Q _=>∃ (a ct:Nat) (d e:Dt) (x y:V),a<=n/\vs=[y,x]/\IsP K H d x/\IsP K H e y/\FK a ct d/\FV d e/\∀ H',Same H H'->Q (.bl true) H'
def uS (K:W.Frag) (n:Nat):Sp:=λvs H Q _=>∃ (a ct:Nat) (d:Dt) (z:Str) (l:List Dt) (x y:V) (i:Int),a<=n/\vs=[y,.str z,x,.int i]/\IsP K H d x/\IsP K H (.tup [.str z,.tup l]) y/\FK a ct d/\(∀ v∈l,FV d v)/\(l.length:Int)<=i/\i<=8/\∀ H',Same H H'->Q (.bl true) H'
def uT (_:W.Frag) (_:Nat):Sp:=λ_ _ _ _=>False
def uU (_:W.Frag) (_:Nat):Sp:=λ_ _ _ _=>False
theorem jo (T:Tx K mg ad) {f fk:Addr} {fd fdk:FuncData} (n:Nat) (F:Gn K mg "holds_items" aW ["value","word","kind","most"] f fd) (K0:Gn K mg "is_of" eW ["value","kind"] fk fdk)
  (Li:FnOk P w K mg base CX0 (3*n+3) fk fdk ["value","kind"] (qM K n)):FnOk P w K mg base CX0 (3*n+3+1) f fd ["value","word","kind","most"] (uS K n):=by
 obtain ⟨_,_,K6⟩:=T.holds_tuple;have LJ:=jn (P:=P) (w:=w) (base:=base) T K6;refine F.F.ok jG (λvs H Q E h=>?_) (λcdv A outer s H vs Q E hr h=>?_)
 ·obtain ⟨a,ct,d,z,l,x,y,i,_,rfl,_⟩:=h
  rfl
 obtain ⟨a,ct,d,z,l,x,y,i,ha,rfl,hd,he,gk,gv,hl,h8,q⟩:=h;refine ⟨_,(5,(12,PW.pt (@pw_or _ _ _ _ _ _ _ (@pt_not _ _ _ _ (@pt_val _ _ _ (7,K6,LJ,(10,pv 1)) (by intro _;rfl))) (@pw_or1 _ _ _ _ (pt_cmpR op_gt (pe_callB (call_lenDN (K:=K) rfl) rfl T.z_len PySem.boot_len (@pa1 _ _ _ (6) (0))) (pv 3) (nomark _))))),(3,(4,pe_callB (call_allN (K:=K) rfl rfl) rfl T.z_all boot_all (@pa1 _ _ _ (aG rfl (csR (sc:=aa aW) (NL:=["item"]) (N:=["value","word","kind","most"]) (ρ:=[2]) (N':=["item","kind"]) rfl rfl rfl (by decide +kernel) (by decide +kernel) (by decide +kernel) rfl (by decide +kernel)) (aM (K:=K) rfl (6)) (λ_ _ _ _=>(ai (i:=0) (show List.Nodup (α:=Str) ["item","kind"] by decide +kernel) rfl (Or.inl rfl))) (λ_ _ _ _=>(7,K0,Li,(10,pv 1)))) (0))))),?_⟩;refine ⟨_,rfl,_,rfl,z,l,y,rfl,he,_,rfl,aA ?_⟩;refine ⟨_,rfl,_,_,_,he,rfl,rfl,λv hv=>⟨v,_,rfl,hv.d,_,rfl,_,_,rfl,rfl,_,rfl,?_⟩⟩;rw [decide_eq_false (by lia)];refine aA ?_;refine ⟨_,rfl,_,_,_,he,rfl,rfl,λv hv=>?_⟩;obtain ⟨b,xs,rfl,hb,pb,rb⟩:=hv.unref;have el:=rb.length;refine ⟨b,rfl,⟨xs,hb⟩,λl2 hl2=>?_⟩;refine aR (K:=K) (xs:=xs) (λi ys σ H'=>ys=bls (List.replicate i true)/\i<=8/\Same H H'/\H' l2=some (.lst ys)/\∃ v1,σ=[v1,some x]) ⟨rfl,aAI _,af hl2 _,ac,none,rfl⟩ (λi ys σ H' _ r=>r.2.2.1.tup hb) ?_ ?_
 ·rintro j u ys σ H2 N hu ⟨rfl,hj,g2,e2,v1,rfl⟩ next;have hj2:j < xs.length:=(aAc.mp hu).1;obtain ⟨e,he',hp⟩:=rb.get' hu;refine ⟨_,rfl,_,rfl,a,ct,d,e,x,u,ha,rfl,hd.same g2,hp.same g2,gk,gv e (aAs he'),λH3 g3=>?_⟩;refine ⟨g3 _ _ e2,?_,next _ _ _ ⟨?_,by lia,aK hl2 (g2.trans g3),ac,_,rfl⟩⟩
  ·rw [bls,aAe,aA3];exact am (by lia)
  ·unfold bls;rw [aBw,aA4]
   rfl
 ·rintro ys σ H2 ⟨rfl,hj,g2,e2,v1,rfl⟩;refine ⟨l2,_,rfl,rfl,SqL.of e2,?_⟩;rw [qL];exact q H2 g2
theorem kb (T:Tx K mg ad) {f fk:Addr} {fd fdk:FuncData} (n:Nat) (F:Gn K mg "is_pair_of" cc ["pair","field"] f fd) (K0:Gn K mg "is_of" eW ["value","kind"] fk fdk)
  (Li:FnOk P w K mg base CX0 (3*n+3) fk fdk ["value","kind"] (qM K n)):FnOk P w K mg base CX0 (3*n+3+1) f fd ["pair","field"] (uT K n):=bi λ_ _ _ _ h=>h
theorem iA (T:Tx K mg ad) {f fk:Addr} {fd fdk:FuncData} (n:Nat) (F:Gn K mg "is_record_of" bH ["value","fields"] f fd) (Mg:Gn K mg "is_pair_of" cc ["pair","field"] fk fdk)
  (Mf:FnOk P w K mg base CX0 (3*n+4) fk fdk ["pair","field"] (uT K n)):FnOk P w K mg base CX0 (3*n+4+1) f fd ["value","fields"] (uU K n):=bi λ_ _ _ _ h=>h
theorem eU {K:W.Frag} {H:Hp}:∀ {ws:List Str} {xs:List V},IsPs K H (ws.map Dt.str) xs->xs=ws.map V.str
 | [],xs,h=>by cases h;rfl
 | w :: ws,xs,h=>by
  cases h with
  | cons h1 h2 =>
   rw [ao h1,eU h2]
   rfl
theorem qN {z:Str}:∀ {ws:List Str},z∈ws->inV (V.str z) (ws.map V.str)=true
 | w :: ws,h=>by
  show (eqV (V.str w) (V.str z) || inV (V.str z) (ws.map V.str))=true;rcases aAm.mp h with rfl | h
  ·rw [show eqV (V.str z) (V.str z)=true by simp [eqV]]
   rfl
  ·rw [qN h,Bool.or_true]
theorem uV (T:Tx K mg ad) {f f1 f2:Addr} {fd fd1 fd2:FuncData} (n:Nat) (F:Gn K mg "is_of" eW ["value","kind"] f fd) (K8:Gn K mg "holds_items" aW ["value","word","kind","most"] f1 fd1) (Lx:Gn K mg "is_record_of" bH ["value","fields"] f2 fd2)
  (K7:FnOk P w K mg base CX0 (3*n+4) f1 fd1 ["value","word","kind","most"] (uS K n)) (Lz:FnOk P w K mg base CX0 (3*n+5) f2 fd2 ["value","fields"] (uU K n)):FnOk P w K mg base CX0 (3*n+5+1) f fd ["value","kind"] (qM K (n+1)):=by
 obtain ⟨_,_,Kb⟩:=T.is_whole_within;have Kd:=bw (P:=P) (w:=w) (base:=base) T Kb;obtain ⟨_,_,Lg⟩:=T.is_text_of;have LS:=j4 (P:=P) (w:=w) (base:=base) T Lg;obtain ⟨fq,dq,LX⟩:=T.are_keyed;have LU:FnOk P w K mg base CX0 0 fq dq ["items","key"] (l9 K ad):=bi λ_ _ _ _ h=>h;refine F.F.ok oC (λvs H Q E h=>?_) (λcdv A outer s H vs Q E hr h=>?_)
 ·obtain ⟨a,ct,d,e,x,y,_,rfl,_⟩:=h
  rfl
 obtain ⟨a,ct,d,e,x,y,ha,rfl,hd,he,gk,gv,q⟩:=h;refine ⟨_,(5,@ps_set _ _ 2 _ _ _ _ oC.nd rfl (Or.inl rfl) (@pi1 K _ _ _ _ _ _ _ rfl (pv 1)) (0) (.inl rfl),(5,@ps_if _ _ _ _ _ _ _ _ (pt_cmpR op_eq (pv 2) pe_str (nomark _)) (3,(4,(7,Kb,Kd,(11,pv 0,@pi1 K _ _ _ _ _ _ _ rfl (pv 1),@pi1 K _ _ _ _ _ _ _ rfl (pv 1))))) pss_nil,(5,@ps_if _ _ _ _ _ _ _ _ (pt_cmpR op_eq (pv 2) pe_str (nomark _)) (3,(4,(7,Lg,LS,(10,@pi1 K _ _ _ _ _ _ _ rfl (pv 1))))) pss_nil,(5,@ps_if _ _ _ _ _ _ _ _ (pt_cmpR op_eq (pv 2) pe_str (nomark _)) (3,(4,pe_and (pe_callB (aj (K:=K) rfl) rfl T.z_isinstance boot_isinstance (10,aH rfl T.z_str boot_str)) (pe_one (pe_cmpR (op_in_seqK (K:=K) rfl) (pv 0) (@pi1 K _ _ _ _ _ _ _ rfl (pv 1)) rfl)))) pss_nil,(5,@ps_if _ _ _ _ _ _ _ _ (pt_cmpR op_eq (pv 2) pe_str (nomark _)) (3,(4,(7,K8,K7,@ak _ _ _ _ _ (pv 0) (@pa3 _ _ _ _ _ _ _ pe_str (@pi1 K _ _ _ _ _ _ _ rfl (pv 1)) (@pi1 K _ _ _ _ _ _ _ rfl (pv 1)) (0) (0) (0)) (0)))) pss_nil,(5,@ps_if _ _ _ _ _ _ _ _ (pt_cmpR op_eq (pv 2) pe_str (nomark _)) (3,(4,(7,Lx,Lz,(10,@pi1 K _ _ _ _ _ _ _ rfl (pv 1))))) pss_nil,(3,(4,pe_and (7,K8,K7,@ak _ _ _ _ _ (pv 0) (@pa3 _ _ _ _ _ _ _ pe_str (@pi1 K _ _ _ _ _ _ _ rfl (pv 1)) (@pi1 K _ _ _ _ _ _ _ rfl (pv 1)) (0) (0) (0)) (0)) (pe_one (7,LX,LU,(9,(6),@pi1 K _ _ _ _ _ _ _ rfl (pv 1)))))))))))),?_⟩
 cases gk with
 | number i j b1 b2 b3 =>
  obtain ⟨v0,rfl,l1,l2⟩:=fH gv i j rfl;obtain rfl:=bT he;refine ⟨_,rfl,_,_,_,hd,rfl,rfl,isS ?_⟩;refine ⟨_,rfl,rfl,_,rfl,aC ?_⟩;refine ⟨_,rfl,_,rfl,_,_,_,hd,rfl,rfl,isI ?_⟩;refine ⟨_,rfl,_,_,_,hd,rfl,rfl,isI ?_⟩;have hw:aZ (.int v0) i j=true:=by
   show (decide _ && decide _)=true;rw [decide_eq_true l1,decide_eq_true l2]
   rfl
  refine ⟨.int v0,_,i,j,rfl,.int,rfl,?_⟩;rw [hw];exact q H (Same.refl _)
 | text i b1 b2 =>
  obtain ⟨z,rfl,l1,l2⟩:=iT gv i rfl;obtain rfl:=ao he;refine ⟨_,rfl,_,_,_,hd,rfl,rfl,isS ?_⟩;refine ⟨_,rfl,rfl,_,rfl,iteN (ae (1)) ?_⟩;refine ⟨_,rfl,rfl,_,rfl,aC ?_⟩;refine ⟨_,rfl,_,rfl,_,_,_,hd,rfl,rfl,isI ?_⟩;exact ⟨z,i,rfl,l1,b2,l2,q⟩
 | choice ws hw =>
  obtain ⟨z,rfl,l1⟩:=gU gv ws rfl;obtain rfl:=ao he;refine ⟨_,rfl,_,_,_,hd,rfl,rfl,isS ?_⟩;refine ⟨_,rfl,rfl,_,rfl,iteN (ae (1)) ?_⟩;refine ⟨_,rfl,rfl,_,rfl,iteN (ae (1)) ?_⟩;refine ⟨_,rfl,rfl,_,rfl,aC ?_⟩;refine ⟨_,rfl,_,_,_,rfl,.str_str,_,rfl,aq ?_⟩;refine ⟨_,rfl,_,rfl,_,_,_,hd,rfl,rfl,λv hv=>?_⟩;obtain ⟨b,xs,rfl,hb,pb,rb⟩:=hv.unref;have ex:xs=ws.map V.str:=eU rb;refine ⟨b,xs,rfl,.inr hb,rfl,?_,?_⟩
  ·rw [ex];exact gP ws
  ·have:inV (V.str z) xs=true:=by rw [ex];exact qN l1
   show Q (.bl (inV (V.str z) xs)) H;rw [this];exact q H (Same.refl _)
 | @list a' c' k i g b1 b2 =>
  obtain ⟨vs',rfl,l1,l2⟩:=iU gv k i rfl;refine ⟨_,rfl,_,_,_,hd,rfl,rfl,isS ?_⟩;refine ⟨_,rfl,rfl,_,rfl,iteN (ae (1)) ?_⟩;refine ⟨_,rfl,rfl,_,rfl,iteN (ae (1)) ?_⟩;refine ⟨_,rfl,rfl,_,rfl,iteN (ae (1)) ?_⟩;refine ⟨_,rfl,rfl,_,rfl,aC ?_⟩;refine ⟨_,rfl,_,rfl,_,_,_,hd,rfl,rfl,λv1 hv1=>?_⟩;refine ⟨_,rfl,_,_,_,hd,rfl,rfl,isI ?_⟩;exact ⟨a',c',k,"list",vs',v1,y,i,by lia,rfl,hv1,he,g,l1,l2,b2,q⟩
theorem n9 (T:Tx K mg ad) {f f1 f2 f3:Addr} {fd fd1 fd2 fd3:FuncData} (F:Gn K mg "is_of" eW ["value","kind"] f fd) (D1:Gn K mg "holds_items" aW ["value","word","kind","most"] f1 fd1) (D2:Gn K mg "is_record_of" bH ["value","fields"] f2 fd2) (D3:Gn K mg "is_pair_of" cc ["pair","field"] f3 fd3) :
  ∀ n,FnOk P w K mg base CX0 (3*n+3) f fd ["value","kind"] (qM K n)
 | 0=>bi λvs H Q E z=>by
  obtain ⟨a,_,_,_,_,_,h1,_,_,_,g,_⟩:=z;have:=g.pos;lia
 | n+1=>by
  have ih:=n9 T F D1 D2 D3 n;have hp:=kb T n D3 F ih;exact uV T n F D1 D2 (jo T n D1 F ih) (iA T n D2 D3 hp)
def gW (i j:Int):Int:=if 0 < i then i else if j < 0 then j else 0
def bM:Nat->Dt->Dt
 | 0,_=>.non
 | n+1,.tup (.str w :: r) =>
  if w= "number" then (match r with
   | [.int i,.int j]=>.int (gW i j)
   | _=>.non)
  else if w= "text" then .str ""
  else if w= "choice" then (match r with
   | [.tup (z :: _)]=>z
   | _=>.non)
  else if w= "record" then (match r with
   | [.tup l]=>.tup [.str "record",.tup (l.map λp=>match p with
    | .tup [a,k]=>.tup [a,bM n k]
    | p=>p)]
   | _=>.non)
  else .tup [.str w,.tup []]
 | _+1,_=>.non
theorem gn (n:Nat) (i j:Int):bM (n+1) (.tup [.str "number",.int i,.int j])=.int (gW i j):=by simp [bM]
theorem jp (n:Nat) (i:Int):bM (n+1) (.tup [.str "text",.int i])=.str "" :=by
 simp only [bM];rw [if_neg (1),if_pos trivial]
theorem gp (n:Nat) (z:Str) (r:List Dt):bM (n+1) (.tup [.str "choice",.tup (.str z :: r)])=.str z:=by
 simp only [bM];rw [if_neg (1),if_neg (1),if_pos trivial]
theorem jq (n:Nat) (r:List Dt):bM (n+1) (.tup (.str "list" :: r))=.tup [.str "list",.tup []]:=by
 simp only [bM];rw [if_neg (1),if_neg (1),if_neg (1),if_neg (1)]
theorem jr {ws:List Str} (hw:bo ws=true):∃ z r,ws=z :: r:=by
 unfold bo at hw;simp only [aAq,decide_eq_true_eq] at hw
 cases ws with
 | nil=>simp at hw
 | cons z r=>exact ⟨z,r,rfl⟩
theorem uW:∀ (n a ct:Nat) (d:Dt),a<=n->FK a ct d->FV d (bM n d):=by
 intro n
 induction n with
 | zero =>
  intro a ct d h g;have:=g.pos;lia
 | succ n ih =>
  intro a ct d h g
  cases g with
  | number i j b1 b2 b3 =>
   rw [gn];unfold gW
   split
   ·exact .number (aBp _) b2
   ·split
    ·exact .number b2 (aBp _)
    ·exact .number (by lia) (by lia)
  | text i b1 b2 =>
   rw [jp];exact .text (by show (0:Int)<=i;exact b1) λc hc=>by cases (show c∈([]:List Nat) from hc)
  | choice ws hw =>
   obtain ⟨z,r,rfl⟩:=jr hw;rw [show ((z :: r).map Dt.str)=Dt.str z :: r.map Dt.str from rfl,gp];exact .choice (ws:=z :: r) aAr
  | list g b1 b2 =>
   rw [jq];exact .list (by intro v hv;cases hv) (by simpa using b1)
def pO (K:W.Frag) (n:Nat):Sp:=λvs H Q _=>∃ (a ct:Nat) (d:Dt) (x:V),a<=n/\vs=[x]/\IsP K H d x/\FK a ct d/\∀ v H',Same H H'->IsP K H' (bM n d) v->Q v H'
theorem js (T:Tx K mg ad) {f:Addr} {fd:FuncData} (n:Nat) (Kp:Gn K mg "least_value" bP ["kind"] f fd) (KL:FnOk P w K mg base CX0 n f fd ["kind"] (pO K n)):FnOk P w K mg base CX0 (n+1) f fd ["kind"] (pO K (n+1)):=by
 refine Kp.F.ok eM (λvs H Q E h=>?_) (λcdv A outer s H vs Q E hr h=>?_)
 ·obtain ⟨a,ct,d,x,_,rfl,_⟩:=h
  rfl
 obtain ⟨a,ct,d,x,ha,rfl,hd,gk,q⟩:=h;refine ⟨_,(5,@ps_set _ _ 1 _ _ _ _ eM.nd rfl (Or.inl rfl) (6) (0) (.inl rfl),(5,@ps_if _ _ _ _ _ _ _ _ (pt_cmpR op_eq (pv 1) pe_str (nomark _)) (3,(4,pe_callB (eR rfl) rfl T.z_min boot_min (9,pe_callB (eQ rfl) rfl T.z_max boot_max (9,pe_int,(6)),(6)))) pss_nil,(5,@ps_if _ _ _ _ _ _ _ _ (pt_cmpR op_eq (pv 1) pe_str (nomark _)) (3,(4,pe_str)) pss_nil,(5,@ps_if _ _ _ _ _ _ _ _ (pt_cmpR op_eq (pv 1) pe_str (nomark _)) (3,(4,@pi1 K _ _ _ _ _ _ _ rfl (6))) pss_nil,(5,@ps_if _ _ _ _ _ _ _ _ (pt_cmpR op_eq (pv 1) pe_str (nomark _)) (3,(4,(8,@pa2 _ _ _ _ _ pe_str (pe_callTy (bD (K:=K) rfl) rfl T.z_tuple boot_tuple (@pa1 _ _ _ (aG rfl (cs0 (NL:=["name","inner"]) rfl (by decide +kernel) (by decide +kernel)) (aM (K:=K) rfl (6)) (λ_ _ _ _=>(dE (K:=K) (n:=2) rfl rfl (az (ai (i:=0) (show List.Nodup (α:=Str) ["name","inner"] by decide +kernel) rfl (Or.inl rfl)) (az (ai (i:=1) (show List.Nodup (α:=Str) ["name","inner"] by decide +kernel) rfl (Or.inl rfl)) bY)))) (λ_ _ _ _=>(pe_tupPK (K:=K) rfl (10,(7,Kp,KL,@pa1 _ _ _ (pv 1) (0)))))) (0))) (0) (0)))) pss_nil,(3,(4,(8,(9,pv 1,(8,cr)))))))))),?_⟩
 cases gk with
 | number i j b1 b2 b3 =>
  refine ⟨_,rfl,_,_,_,hd,rfl,rfl,isS ?_⟩;refine ⟨_,rfl,rfl,_,rfl,aC ?_⟩;refine ⟨_,rfl,_,_,_,hd,rfl,rfl,isI ?_⟩;refine ⟨_,_,rfl,?_⟩;refine ⟨_,rfl,_,_,_,hd,rfl,rfl,isI ?_⟩;refine ⟨_,_,rfl,?_⟩;refine q _ H (Same.refl _) ?_;rw [gn];have e':∀ x:Int,x=gW i j->IsP K H (.int (gW i j)) (.int x):=λx h=>by rw [h];exact .int
  refine e' _ ?_;unfold gW
  (repeat' split) <;> lia
 | text i b1 b2 =>
  refine ⟨_,rfl,_,_,_,hd,rfl,rfl,isS ?_⟩;refine ⟨_,rfl,rfl,_,rfl,iteN (ae (1)) ?_⟩;refine ⟨_,rfl,rfl,_,rfl,aC ?_⟩;refine q _ H (Same.refl _) ?_;rw [jp];exact .str
 | choice ws hw =>
  obtain ⟨z,r,rfl⟩:=jr hw;refine ⟨_,rfl,_,_,_,hd,rfl,rfl,isS ?_⟩;refine ⟨_,rfl,rfl,_,rfl,iteN (ae (1)) ?_⟩;refine ⟨_,rfl,rfl,_,rfl,iteN (ae (1)) ?_⟩;refine ⟨_,rfl,rfl,_,rfl,aC ?_⟩;refine ⟨_,rfl,_,_,_,hd,rfl,rfl,λv1 hv1=>?_⟩;refine ⟨_,_,_,hv1,rfl,(show atI (List.map Dt.str (z :: r)) 0=some (Dt.str z) from at0 (Dt.str z) (r.map Dt.str)),λv hv=>?_⟩;refine q _ H (Same.refl _) ?_;rw [show ((z :: r).map Dt.str)=Dt.str z :: r.map Dt.str from rfl,gp];exact hv
 | @list a' c' k i g b1 b2 =>
  refine ⟨_,rfl,_,_,_,hd,rfl,rfl,isS ?_⟩;refine ⟨_,rfl,rfl,_,rfl,iteN (ae (1)) ?_⟩;refine ⟨_,rfl,rfl,_,rfl,iteN (ae (1)) ?_⟩;refine ⟨_,rfl,rfl,_,rfl,iteN (ae (1)) ?_⟩;refine ⟨_,rfl,rfl,_,rfl,iteN (ae (1)) ?_⟩;refine ⟨_,rfl,[],.nil,(by show 0<=sizeLine;decide),λv1 H1 g1 hv1=>?_⟩;refine ⟨[.str "list",.tup []],.cons .str (.cons hv1 .nil),sz2,λv2 H2 g2 hv2=>?_⟩;refine q v2 H2 (g1.trans g2) ?_;rw [jq];exact hv2
theorem dS (T:Tx K mg ad) {f:Addr} {fd:FuncData} (D:Gn K mg "least_value" bP ["kind"] f fd):∀ n,FnOk P w K mg base CX0 n f fd ["kind"] (pO K n)
 | 0=>bi λvs H Q E z=>by
  obtain ⟨a,_,_,_,h1,_,_,g,_⟩:=z;have:=g.pos;lia
 | n+1=>js T n D (dS T D n)
def Jp:List Nat:=(List.range 127).filter okC
def BF (m:Int):Str:=Str.ofString (toString m)
theorem bF (z:Str):z.cps.toList.length=z.length:=aA1
theorem sC (m:Int):∀ c∈strI m,c∈Jp:=by
 have hd:∀ c∈dg m.natAbs,c∈Jp:=λc hc=>by
  have:=kF _ c hc;have e:c=48\/c=49\/c=50\/c=51\/c=52\/c=53\/c=54\/c=55\/c=56\/c=57:=by lia
  rcases e with rfl | rfl | rfl | rfl | rfl | rfl | rfl | rfl | rfl | rfl <;> decide +kernel
 intro c hc;unfold strI at hc
 split at hc
 ·rcases aAm.mp hc with rfl | hc
  ·decide +kernel
  ·exact hd c hc
 ·exact hd c hc
theorem uX (m:Int):(BF m).cps.toList=strI m:=str_int m
def og (x i j:Int):Int:=if j < (if i > x then i else x) then j else (if i > x then i else x)
def pP (_:W.Frag) (_:Ads):Sp:=λvs H Q _=>∃ x i j:Int,vs=[.int x,.int i,.int j]/\Q (.int (og x i j)) H
theorem pQ (T:Tx K mg ad) {f:Addr} {fd:FuncData} (F:Gn K mg "nearest" hG ["number","low","high"] f fd):FnOk P w K mg base CX0 1 f fd ["number","low","high"] (pP K ad):=by
 refine F.F.ok qj (λvs H Q E h=>?_) (λcdv A outer s H vs Q E hr h=>?_)
 ·obtain ⟨x,i,j,rfl,_⟩:=h
  rfl
 obtain ⟨x,i,j,rfl,q⟩:=h;refine ⟨_,(3,(4,pe_callB (eR rfl) rfl T.z_min boot_min (9,pe_callB (eQ rfl) rfl T.z_max boot_max (10,pv 1),pv 2))),?_⟩;exact ⟨_,rfl,_,rfl,_,_,rfl,_,rfl,_,_,rfl,q⟩
theorem xw:∀ (n:Nat) (cs:List Nat),cs.length=n->NumText.AllDigits cs->NumText.digitsVal cs < 10 ^ n
 | 0,cs,hl,_=>by
  obtain rfl:=aBl.mp hl
  decide
 | n+1,cs,hl,h=>by
  have hne:cs≠[]:=by intro e;rw [e] at hl;simp at hl
  have e:=List.dropLast_concat_getLast hne
  generalize cs.dropLast=ini at e
  generalize cs.getLast hne=c at e
  subst e;have hi:NumText.AllDigits ini:=λd hd=>h d (aBr _ hd);have hc:48<=c/\c<=57:=h c (aAn _ (aAA.mpr rfl));have hli:ini.length=n:=by rw [aAt,aBq] at hl;lia
  have:=xw n ini hli hi;rw [PySem.NumText.digitsVal_snoc,Nat.pow_succ];lia
open PySem.Builtin.Str in
theorem pR {n:Nat} {i:Int} (h:(n:Int)<=i):strSliceIndices none (some i) 1 n=strSliceIndices none (some (n:Int)) 1 n:=by
 have h0:¬ i < 0:=by lia
 have h1:¬ ((n:Int) < 0):=by lia
 have h2:(1:Int) > 0:=(1)
 simp only [strSliceIndices,h0,h1,h2,if_false,if_true,Int.min_eq_right h,Int.min_self]
theorem dF (z:Str) {i:Int} (h:0<=i):(Txt.slice z none (some i)).cps.toList=z.cps.toList.take i.toNat:=by
 have base:∀ {j:Int},0<=j->j<=z.length->(Txt.slice z none (some j)).cps.toList=z.cps.toList.take j.toNat:=λ{j} h0 h1=>by
  have e:=eq_of_beq (slice_closes_toL (x:=z) (j:=j) h0 h1);rw [e];simp
 by_cases h1:i<=z.length
 ·exact base h h1
 ·have e2:Txt.slice z none (some i)=Txt.slice z none (some (z.length:Int)):=by
   unfold Txt.slice;rw [pR (by lia)]
  rw [e2,base (by lia) (aBp _)];have hl:=bF z;rw [aAK (by lia),aAK (by lia)]
theorem uY (l:List Dt) {i:Int} (h:0<=i):L2.jM l none (some i)=l.take i.toNat:=by
 unfold L2.jM HT.sIx;dsimp only;rw [if_neg (by lia)];simp only [aBM,Nat.sub_zero];rcases Nat.le_total i.toNat l.length with q | q
 ·rw [Nat.min_eq_left q]
 ·rw [Nat.min_eq_right q,aAK (aAf _),aAK q]
theorem qO {m n:Nat} (h:m<=n):(dg m).length<=(dg n).length:=by
 have h1:=xw _ (dg n) rfl (kF n);rw [A9] at h1;obtain ⟨k,hk⟩:∃ k,(dg n).length=k+1:=by
  cases q:dg n with
  | nil=>exact absurd q (IV n)
  | cons a l=>exact ⟨l.length,rfl⟩
 rw [hk] at h1 ⊢;exact lD k m (aBb h h1)
theorem wI {i x j:Int} (h1:i<=x) (h2:x<=j):(figN x:Int)<=kP i j:=by
 have key:figN x<=figN i\/figN x<=figN j:=by
  unfold figN strI
  by_cases hx:x < 0
  ·left
   rw [if_pos hx,if_pos (by lia),aAo,aAo];exact Nat.succ_le_succ (qO (by lia))
  ·right
   rw [if_neg hx,if_neg (by lia)];exact qO (by lia)
 unfold kP
 split <;> lia
theorem qP {x k l:Int} (h:k<=l):k<=og x k l/\og x k l<=l:=by
 unfold og
 constructor <;> split <;> split <;> lia
theorem kQ {z:Str}:∀ {ws:List Str},z∈ws->∃ j:Nat,ws[j]?=some z/\∀ m:Nat,m < j->ws[m]?≠some z
 | w :: ws,h=>by
  by_cases e:w=z
  ·exact ⟨0,by rw [e];rfl,λm h=>absurd h (aBt _)⟩
  ·have h':z∈ws:=by
    rcases aAm.mp h with h | h
    ·exact absurd h.symm e
    ·exact h
   obtain ⟨j,h1,h2⟩:=kQ h';refine ⟨j+1,by simpa using h1,λm hm=>?_⟩
   cases m with
   | zero=>simpa using e
   | succ m=>simpa using h2 m (by lia)
set_option inductive.autoPromoteIndices false in
inductive TV:Nat->Dt->Dt->Dt->Dt->Prop
 | bounds (n:Nat) (i j k l x:Int):TV n (.tup [.str "bounds",.int k,.int l]) (b6 i j) (.int x) (.int (og x k l))
 | scale (n:Nat) (i j k x:Int):2<=k->k<=1000->TV n (.tup [.str "scale",.int k]) (b6 i j) (.int x) (.int (x*k))
 | figures (n:Nat) (i j m x:Int):bq x->TV n (.tup [.str "figures",.int m]) (b6 i j) (.int x) (.str (BF x))
 | words (n:Nat) (fs ws:List Str) (b:Dt) (z f:Str) (j:Nat):ws.length<=8->ws[j]?=some z->(∀ m:Nat,m < j->ws[m]?≠some z)->fs[j]?=some f->TV n (.tup [.str "words",.tup (fs.map Dt.str),b]) (.tup [.str "choice",.tup (ws.map Dt.str)]) (.str z) (.str f)
 | cut (n:Nat) (m i:Int) (z:Str):z.length<=60->TV n (.tup [.str "cut",.int i]) (.tup [.str "text",.int m]) (.str z) (.str (Txt.slice z none (some i)))
 | first (n:Nat) (d:Dt) (w:Str) (i:Int) (vs:List Dt):TV n (.tup [.str "first",.int i]) d (.tup [.str w,.tup vs]) (.tup [.str w,.tup (L2.jM vs none (some i))])
 | one (n:Nat) (d v:Dt) (i:Int):TV n (.tup [.str "one",.int i]) d v (.tup [.str "list",.tup [v]])
 | out (n:Nat) (k u:Dt) (m:Int) (w:Str) (vs us:List Dt) (a c:Nat):FK a c k->a<=4->vs.length<=8->vs++[bM 4 k]=u :: us->TV n (.tup [.str "out"]) (.tup [.str "list",k,.int m]) (.tup [.str w,.tup vs]) u
theorem Jq {t d e:Dt} (g:GT t d e):∀ {a ct:Nat} (r:Nat),FK a ct d->a<=r->r<=5->∀ v,FV d v->∃ u,FV e u/\TV r t d v u:=by
 induction g with
 | bounds i j k l h1 h2 h3 =>
  intro a ct r f hr h4 v fv;obtain ⟨x,rfl,x1,x2⟩:=fH fv i j rfl;exact ⟨_,.number (qP h2).1 (qP h2).2,.bounds r i j k l x⟩
 | scale i j k h1 h2 h3 h4 =>
  intro a ct r f hr _ v fv;obtain ⟨x,rfl,x1,x2⟩:=fH fv i j rfl;exact ⟨_,.number (aA0 x1 (by lia)) (aA0 x2 (by lia)),.scale r i j k x h1 h2⟩
 | figures i j m h1 h2 h3 h4 h5 =>
  intro a ct r f hr _ v fv;obtain ⟨x,rfl,x1,x2⟩:=fH fv i j rfl;have hx:bq x:=⟨by have:=h1.1;lia,by have:=h2.2;lia⟩;refine ⟨_,.text ?_ ?_,.figures r i j m x hx⟩
  ·unfold BF;rw [gd];have:=wI x1 x2;lia
  ·intro c hc;rw [uX] at hc;exact (aBJ.mp (sC x c hc)).2
 | words fs bs ws L =>
  intro a ct r f hr _ v fv;obtain ⟨z,rfl,hz⟩:=gU fv ws rfl;have hw:=nU f;obtain ⟨_,hw2,_,_⟩:=aD hw;obtain ⟨j,j1,j2⟩:=kQ hz;have hj:j < fs.length:=by
   rw [L.len];exact (aAc.mp j1).1
  have hf:fs[j]?=some fs[j]:=aAi hj;obtain ⟨w,hb,_⟩:=L.fwd fs[j] (aBg hj);exact ⟨_,.choice (aAO.mpr ⟨_,hb,rfl⟩),.words r fs ws _ z _ j hw2 j1 j2 hf⟩
 | cut m i h1 h2 =>
  intro a ct r f hr _ v fv;obtain ⟨z,rfl,z1,z2⟩:=iT fv m rfl;have hm:m<=60:=by
   cases f with
   | text i h1 h2=>exact h2
  have es:=dF z h1;refine ⟨_,.text ?_ ?_,.cut r m i z (by lia)⟩
  ·rw [<- bF,es,aAB];lia
  ·intro c hc;rw [es] at hc;exact z2 c (aBx hc)
 | firstL k m i h1 h2 =>
  intro a ct r f hr _ v fv;obtain ⟨vs,rfl,v1,v2⟩:=iU fv k m rfl;refine ⟨_,?_,.first r _ _ i vs⟩;rw [uY vs h1];exact .list (λx hx=>v1 x (aBx hx)) (by rw [aAB];lia)
 | one d i h1 h2 =>
  intro a ct r f hr _ v fv;exact ⟨_,.list (λx hx=>by rw [aAA.mp hx];exact fv) (by show (1:Int)<=i;exact h1),.one r d v i⟩
 | out k m h1 =>
  intro a ct r f hr h4 v fv;obtain ⟨vs,rfl,v1,v2⟩:=iU fv k m rfl;obtain ⟨a0,c0,f0,ha,hm⟩:∃ a0 c0,FK a0 c0 k/\a0+1<=r/\m<=8:=by
   cases f with
   | list g _ h=>exact ⟨_,_,g,by lia,h⟩
  cases vs with
  | nil=>exact ⟨_,uW 4 a0 c0 k (by lia) f0,.out r k _ m _ [] [] a0 c0 f0 (by lia) (1) rfl⟩
  | cons x vs=>exact ⟨x,v1 x aAr,.out r k x m _ (x :: vs) (vs++[bM 4 k]) a0 c0 f0 (by lia) (by lia) rfl⟩
theorem at_strD {us:List Str} {i:Nat} {u:Str} (h:us[i]?=some u):atI (us.map Dt.str) (0+(i:Int))=some (.str u):=by
 rw [aBy];exact eS (by rw [aAC,h];rfl)
theorem aV {i:Nat} {u u':Str} {A b:TS} {D:Ends} {σ:L2.St} {H:Hp} (hσ:σ[i]?=some (some (.str u'))) (hn:u'≠u) (h:b D σ H):sP (AO (qp (tOp rEq (mD i) (tC (.str u)))) A mE) b D σ H:=⟨_,hσ,rfl,_,rfl,iteN (ae hn) h⟩
theorem ik {i:Nat} {u:Str} {A b:TS} {D:Ends} {σ:L2.St} {H:Hp} (hσ:σ[i]?=some (some (.str u))) (h:A { D with nx:=b D } σ H):sP (AO (qp (tOp rEq (mD i) (tC (.str u)))) A mE) b D σ H:=⟨_,hσ,rfl,_,rfl,aC h⟩
def BG (K:W.Frag) (n:Nat):Sp:=λvs H Q _=>∃ (t d v u:Dt) (x y z:V),vs=[x,y,z]/\IsP K H t x/\IsP K H d y/\IsP K H v z/\TV n t d v u/\∀ e H',Same H H'->IsP K H' u e->Q e H'
def Jr (K:W.Frag) (n:Nat):Sp:=λvs H Q E=>∃ m,n=m+1/\BG K m vs H Q E
theorem gq (T:Tx K mg ad) {f:Addr} {fd:FuncData} (n:Nat) (Kg:Gn K mg "led_value" bQ ["turn","kind","value"] f fd) (Kv:FnOk P w K mg base CX0 (n+5) f fd ["turn","kind","value"] (Jr K n)):FnOk P w K mg base CX0 (n+5+1) f fd ["turn","kind","value"] (BG K n):=by
 obtain ⟨_,_,LF⟩:=T.nearest;have Mc:=pQ (P:=P) (w:=w) (base:=base) T LF;obtain ⟨_,_,Kj⟩:=T.figures_of;have Ky:=fo (P:=P) (w:=w) (base:=base) T Kj;obtain ⟨fq,dq,LI⟩:=T.read_number;have LH:FnOk P w K mg base CX0 0 fq dq ["text","kind"] (λ_ _ _ _=>False):=bi λ_ _ _ _ h=>h;obtain ⟨_,_,Kp⟩:=T.least_value;have KL:=dS (P:=P) (w:=w) (base:=base) T Kp 4;refine Kg.F.ok gC (λvs H Q E h=>?_) (λcdv A outer s H vs Q E hr h=>?_)
 ·obtain ⟨t,d,v,u,x,y,z,rfl,_⟩:=h
  rfl
 obtain ⟨t,d,v,u,x,y,z,rfl,ht,hd,hv,tv,q⟩:=h;refine ⟨_,(5,@ps_set _ _ 3 _ _ _ _ gC.nd rfl (Or.inl rfl) (6) (0) (.inl rfl),(5,@ps_if _ _ _ _ _ _ _ _ (pt_cmpR op_eq (pv 3) pe_str (nomark _)) (3,(4,(7,LF,Mc,(11,pv 2,(6),(6))))) pss_nil,(5,@ps_if _ _ _ _ _ _ _ _ (pt_cmpR op_eq (pv 3) pe_str (nomark _)) (3,(4,@pe_op _ _ _ _ _ _ _ _ cS (pv 2) (6))) pss_nil,(5,@ps_if _ _ _ _ _ _ _ _ (pt_cmpR op_eq (pv 3) pe_str (nomark _)) (3,(4,@pe_op _ _ _ _ _ _ _ _ aQ (pv 2) (6))) pss_nil,(5,@ps_if _ _ _ _ _ _ _ _ (pt_cmpR op_eq (pv 3) pe_str (nomark _)) (3,(4,(7,Kj,Ky,@pa1 _ _ _ (pv 2) (0)))) pss_nil,(5,@ps_if _ _ _ _ _ _ _ _ (pt_cmpR op_eq (pv 3) pe_str (nomark _)) (3,(4,(7,LI,LH,(9,pv 2,(8,@pa3 _ _ _ _ _ _ _ pe_str (6) (6) (0) (0) (0)))))) pss_nil,(5,@ps_if _ _ _ _ _ _ _ _ (pt_cmpR op_eq (pv 3) pe_str (nomark _)) (3,(4,@pe_ix _ _ _ _ _ _ _ (ix_tupPN (K:=K) rfl) (6) (ur PySem.F.plainAttrs_tuple PySem.F.slot_tuple_index PySem.F.type_tuple_index fE (@pi1 K _ _ _ _ _ _ _ rfl (pv 1)) (@pa1 _ _ _ (pv 2) (0))) (λ_ _=>rfl))) pss_nil,(5,@ps_if _ _ _ _ _ _ _ _ (pt_cmpR op_eq (pv 3) pe_str (nomark _)) (3,(4,cu oW (pv 2) dr (du (6)))) pss_nil,(5,@ps_if _ _ _ _ _ _ _ _ (pt_cmpR op_eq (pv 3) pe_str (nomark _)) (3,(4,(8,(9,@pi1 K _ _ _ _ _ _ _ rfl (pv 2),cu (i7 (K:=K) rfl) (@pi1 K _ _ _ _ _ _ _ rfl (pv 2)) dr (du (6)))))) pss_nil,(5,@ps_if _ _ _ _ _ _ _ _ (pt_cmpR op_eq (pv 3) pe_str (nomark _)) (3,(4,(8,@pa2 _ _ _ _ _ pe_str (8,@pa1 _ _ _ (pv 2) (0)) (0) (0)))) pss_nil,(5,@ps_if _ _ _ _ _ _ _ _ (pt_cmpR op_eq (pv 3) pe_str (nomark _)) (3,(4,iY (pt_cmpR op_eq (pe_callB (call_lenDN (K:=K) rfl) rfl T.z_len PySem.boot_len (@pa1 _ _ _ (@pi1 K _ _ _ _ _ _ _ rfl (pv 2)) (0))) pe_int (nomark _)) (7,Kp,KL,@pa1 _ _ _ (@pi1 K _ _ _ _ _ _ _ rfl (pv 1)) (0)) (@pi1 K _ _ _ _ _ _ _ rfl (@pi1 K _ _ _ _ _ _ _ rfl (pv 2))))) pss_nil,(3,(4,(8,@pa2 _ _ _ _ _ pe_str (pe_callTy (bD (K:=K) rfl) rfl T.z_tuple boot_tuple (@pa1 _ _ _ (aG rfl (csR (sc:=aa bQ) (NL:=["item"]) (N:=["turn","kind","value","word"]) (ρ:=[0,1]) (N':=["item","turn","kind"]) rfl rfl rfl (by decide +kernel) (by decide +kernel) (by decide +kernel) rfl (by decide +kernel)) (aM (K:=K) rfl (@pi1 K _ _ _ _ _ _ _ rfl (pv 2))) (λ_ _ _ _=>(ai (i:=0) (show List.Nodup (α:=Str) ["item","turn","kind"] by decide +kernel) rfl (Or.inl rfl))) (λ_ _ _ _=>(7,Kg,Kv,(11,@pi1 K _ _ _ _ _ _ _ rfl (pv 1),@pi1 K _ _ _ _ _ _ _ rfl (pv 2),pv 0)))) (0))) (0) (0))))))))))))))),?_⟩
 cases tv with
 | bounds _ i j k l x0 =>
  refine ⟨_,rfl,_,_,_,ht,rfl,rfl,isS ?_⟩;obtain rfl:=bT hv;refine ik rfl ?_;refine ⟨_,rfl,_,rfl,_,_,_,ht,rfl,rfl,isI ?_⟩;refine ⟨_,rfl,_,_,_,ht,rfl,rfl,isI ?_⟩;exact ⟨_,_,_,rfl,q _ _ (Same.refl _) .int⟩
 | scale _ i j k x0 h1 h2 =>
  refine ⟨_,rfl,_,_,_,ht,rfl,rfl,isS ?_⟩;obtain rfl:=bT hv;refine aV rfl (1) (ik rfl ?_);refine ⟨_,rfl,_,rfl,_,_,_,ht,rfl,rfl,isI ?_⟩;exact ⟨_,_,rfl,rfl,.inr ⟨by lia,by lia⟩,q _ _ (Same.refl _) .int⟩
 | figures _ i j m x0 h1 =>
  refine ⟨_,rfl,_,_,_,ht,rfl,rfl,isS ?_⟩;obtain rfl:=bT hv;refine aV rfl (1) (aV rfl (1) (aV rfl (1) (ik rfl ?_)));exact ⟨_,rfl,_,rfl,h1,q _ _ (Same.refl _) .str⟩
 | words _ fs ws b z0 f0 j h1 h2 h3 h4 =>
  refine ⟨_,rfl,_,_,_,ht,rfl,rfl,isS ?_⟩;obtain rfl:=ao hv;refine aV rfl (1) (aV rfl (1) (aV rfl (1) (aV rfl (1) (aV rfl (1) (ik rfl ?_)))));refine ⟨_,rfl,_,_,_,ht,rfl,rfl,λv2 hv2=>?_⟩;refine ⟨_,rfl,_,_,_,hd,rfl,rfl,λv3 hv3=>?_⟩;refine ⟨⟨rfl,_,hv3⟩,_,rfl,ws,z0,j,rfl,hv3,h2,h3,by lia,_,_,_,hv2,rfl,(by have:=at_strD h4;rwa [aBy] at this),λv4 hv4=>?_⟩;exact q _ _ (Same.refl _) hv4
 | cut _ m i z0 hz =>
  refine ⟨_,rfl,_,_,_,ht,rfl,rfl,isS ?_⟩;obtain rfl:=ao hv;refine aV rfl (1) (aV rfl (1) (aV rfl (1) (aV rfl (1) (aV rfl (1) (aV rfl (1) (ik rfl ?_))))));refine ⟨_,rfl,_,rfl,_,_,_,ht,rfl,rfl,isI ?_⟩;exact ⟨_,rfl,_,rfl,aAM (am (show z0.length<=1000 by lia)),q _ _ (Same.refl _) .str⟩
 | first _ d w0 i vs =>
  refine ⟨_,rfl,_,_,_,ht,rfl,rfl,isS ?_⟩;refine aV rfl (1) (aV rfl (1) (aV rfl (1) (aV rfl (1) (aV rfl (1) (aV rfl (1) (aV rfl (1) (ik rfl ?_)))))));refine ⟨_,rfl,_,_,_,hv,rfl,rfl,λv2 hv2=>?_⟩;refine ⟨_,rfl,_,_,_,hv,rfl,rfl,λv3 hv3=>?_⟩;refine ⟨_,rfl,_,_,_,ht,rfl,rfl,isI ?_⟩;refine ⟨_,rfl,_,hv3,λv5 H5 g5 hv5=>?_⟩;exact ⟨_,.cons (hv2.same g5) (.cons hv5 .nil),sz2,λv6 H6 g6 hv6=>q _ _ (g5.trans g6) hv6⟩
 | one _ d v i =>
  refine ⟨_,rfl,_,_,_,ht,rfl,rfl,isS ?_⟩;refine aV rfl (1) (aV rfl (1) (aV rfl (1) (aV rfl (1) (aV rfl (1) (aV rfl (1) (aV rfl (1) (aV rfl (1) (ik rfl ?_))))))));refine ⟨_,rfl,[v],.cons hv .nil,sz1,λv2 H2 g2 hv2=>?_⟩;exact ⟨_,.cons .str (.cons hv2 .nil),sz2,λv6 H6 g6 hv6=>q _ _ (g2.trans g6) hv6⟩
 | out _ k u m w0 vs us a c fk ha hl he =>
  refine ⟨_,rfl,_,_,_,ht,rfl,rfl,isS ?_⟩;refine aV rfl (1) (aV rfl (1) (aV rfl (1) (aV rfl (1) (aV rfl (1) (aV rfl (1) (aV rfl (1) (aV rfl (1) (aV rfl (1) (ik rfl ?_)))))))));refine ⟨_,rfl,_,_,_,hv,rfl,rfl,λv2 hv2=>⟨v2,_,rfl,hv2.d,rfl,_,rfl,?_⟩⟩
  cases vs with
  | nil =>
   obtain ⟨rfl,_⟩:=List.cons.inj he;refine aC ⟨_,rfl,_,_,_,hd,rfl,rfl,λv3 hv3=>?_⟩;exact ⟨a,c,k,v3,ha,rfl,hv3,fk,λv4 H4 g4 hv4=>q _ _ g4 hv4⟩
  | cons x0 vs =>
   obtain ⟨rfl,_⟩:=List.cons.inj he;refine iteN (λe=>by injection e with e;simp at e;lia) ⟨_,rfl,_,_,_,hv,rfl,rfl,λv3 hv3=>⟨_,_,_,hv3,rfl,at0 _ _,λv4 hv4=>?_⟩⟩;exact q _ _ (Same.refl _) hv4
theorem jt (T:Tx K mg ad) {f:Addr} {fd:FuncData} (A:Gn K mg "led_value" bQ ["turn","kind","value"] f fd):∀ n,FnOk P w K mg base CX0 (n+6) f fd ["turn","kind","value"] (BG K n)
 | 0=>gq T 0 A (bi λvs H Q E z=>by obtain ⟨m,h,_⟩:=z;cases h)
 | n+1=>gq T (n+1) A ((jt T A n).imp λvs H Q E z=>by obtain ⟨m,h,z⟩:=z;cases h;exact z)
theorem aE {A B:Prop} {p:Prop} [Decidable p] (h1:p->A) (h2:¬ p->B):if decide p=true then A else B:=by
 by_cases c:p
 ·rw [if_pos (decide_eq_true c)];exact h1 c
 ·rw [if_neg (λe=>c (of_decide_eq_true e))];exact h2 c
def gr (z:Str):Bool:=match z.cps.toList with
 | [c]=>okC c
 | _=>false
def iB (_:W.Frag) (_:Ads):Sp:=λvs H Q _=>∃ z:Str,vs=[.str z]/\z.length<=1000/\Q (.bl (gr z)) H
theorem iC (T:Tx K mg ad) {f:Addr} {fd:FuncData} (F:Gn K mg "is_separator" cK ["text"] f fd):FnOk P w K mg base CX0 2 f fd ["text"] (iB K ad):=by
 obtain ⟨_,_,KK⟩:=T.is_sign;have Lb:=jl (P:=P) (w:=w) (base:=base) T KK;refine F.F.ok iL (λvs H Q E h=>?_) (λcdv A outer s H vs Q E hr h=>?_)
 ·obtain ⟨z,rfl,_⟩:=h
  rfl
 obtain ⟨z,rfl,hz,q⟩:=h;refine ⟨_,(3,(4,pe_and (pe_cmpR op_eq (pe_callB call_len_str rfl T.z_len PySem.boot_len (@pa1 _ _ _ (pv 0) (0))) pe_int (nomark _)) (pe_one (7,KK,Lb,@pa1 _ _ _ (pv 0) (0))))),?_⟩;refine ⟨_,rfl,z,rfl,small hz,rfl,_,rfl,aE (λe=>?_) λe=>?_⟩
 ·have e1:z.length=1:=by have:=V.int.inj e;lia
  obtain ⟨⟨cs⟩⟩:=z
  match cs,e1,q with
  | [c],_,q=>exact ⟨_,rfl,c,rfl,q⟩
 ·have e1:gr z=false:=by
   unfold gr;have hl:=bF z
   split
   ·rename_i c hc
    rw [hc] at hl;exact absurd (show V.int (z.length:Int)=V.int 1 by rw [<- hl];rfl) e
   ·rfl
  rw [<- e1];exact q
def kc (K:W.Frag) (_:Ads):Sp:=λvs H Q _=>∃ i j k:Int,vs=[.int i,.int j,.int k]/\2<=k/\k<=1000/\∀ v H',Same H H'->IsP K H' (.tup [b6 (i / k) (j / k),b6 0 (k - 1)]) v->Q v H'
theorem ke (T:Tx K mg ad) {f:Addr} {fd:FuncData} (F:Gn K mg "part_kinds" dN ["low","high","factor"] f fd):FnOk P w K mg base CX0 1 f fd ["low","high","factor"] (kc K ad):=by
 refine F.F.ok kj (λvs H Q E h=>?_) (λcdv A outer s H vs Q E hr h=>?_)
 ·obtain ⟨i,j,k,rfl,_⟩:=h
  rfl
 obtain ⟨i,j,k,rfl,h1,h2,q⟩:=h;refine ⟨_,(3,(4,(8,(9,(8,@pa3 _ _ _ _ _ _ _ pe_str (@pe_op _ _ _ _ _ _ _ _ aQ (pv 0) (pv 2)) (@pe_op _ _ _ _ _ _ _ _ aQ (pv 1) (pv 2)) (0) (0) (0)),(8,@pa3 _ _ _ _ _ _ _ pe_str pe_int (@pe_op _ _ _ _ _ _ _ _ op_sub (pv 2) pe_int) (0) (0) (0)))))),?_⟩;refine ⟨_,rfl,_,rfl,_,_,rfl,rfl,⟨by lia,by lia⟩,_,rfl,_,rfl,_,_,rfl,rfl,⟨by lia,by lia⟩,[.str "number",.int (i / k),.int (j / k)],.cons .str (.cons .int (.cons .int .nil)),sz3,λv1 H1 g1 hv1=>?_⟩;refine ⟨_,rfl,_,_,rfl,rfl,[.str "number",.int 0,.int (k - 1)],.cons .str (.cons .int (.cons .int .nil)),sz3,λv2 H2 g2 hv2=>?_⟩;exact ⟨[b6 (i / k) (j / k),b6 0 (k - 1)],.cons (hv1.same g2) (.cons hv2 .nil),sz2,λv3 H3 g3 hv3=>q v3 H3 ((g1.trans g2).trans g3) hv3⟩
def sD (K:W.Frag) (_:Ads):Sp:=λvs H Q _=>∃ y z:Str,vs=[.str y,.str z]/\z.length=1/\y.length<=sizeLine/\∀ v H',Same H H'->IsP K H' (.tup [.str (bW y z).1,.str (bW y z).2]) v->Q v H'
theorem sE (T:Tx K mg ad) {f:Addr} {fd:FuncData} (F:Gn K mg "halves" jD ["text","separator"] f fd):FnOk P w K mg base CX0 1 f fd ["text","separator"] (sD K ad):=by
 refine F.F.ok kS (λvs H Q E h=>?_) (λcdv A outer s H vs Q E hr h=>?_)
 ·obtain ⟨y,z,rfl,_⟩:=h
  rfl
 obtain ⟨y,z,rfl,hz,hy,q⟩:=h;refine ⟨_,(5,@ps_set _ _ 2 _ _ _ _ kS.nd rfl (Or.inl rfl) (IH PySem.F.plainAttrs_str PySem.F.slot_str_partition PySem.F.type_str_partition (wg (K:=K) rfl) (pv 0) (@pa1 _ _ _ (pv 1) (0))) (0) (.inl rfl),(3,(4,(8,(9,@pi1 K _ _ _ _ _ _ _ rfl (pv 2),@pi1 K _ _ _ _ _ _ _ rfl (pv 2)))))),?_⟩;refine ⟨_,rfl,rfl,_,rfl,y,z,rfl,rfl,hz,hy,λm v H1 g1 hv=>?_⟩;refine ⟨_,rfl,_,_,_,hv,rfl,at0 _ _,λv1 hv1=>⟨_,rfl,_,_,_,hv,rfl,rfl,λv2 hv2=>?_⟩⟩;exact ⟨[.str _,.str _],.cons hv1 (.cons hv2 .nil),sz2,λv3 H3 g3 hv3=>q v3 H3 (g1.trans g3) hv3⟩
abbrev gs:List (Str×Str):=[("ahead","text"),("behind","text"),("parts","number"),("rest","number")]
def e9 (t:Dt) (u so:Str):Bool:=match t with
 | .tup [.str w,_]=>decide (u=so) && decide (bE w gs=some so)
 | _=>false
theorem uZ {e f g:Dt} {r:List Dt} {u so:Str}:e9 (.tup (e :: f :: g :: r)) u so=false:=by cases e <;> rfl
def gX (K:W.Frag) (_:Ads):Sp:=λvs H Q _=>∃ (t:Dt) (u so:Str) (l:List Dt) (x y:V),vs=[x,y,.str so]/\IsP K H t x/\IsP K H (.tup (.str u :: l)) y/\okD t=true/\Q (.bl (e9 t u so)) H
theorem df (T:Tx K mg ad) {f:Addr} {fd:FuncData} (F:Gn K mg "has_look_form" bU ["look","kind","sort"] f fd):FnOk P w K mg base CX0 1 f fd ["look","kind","sort"] (gX K ad):=by
 obtain ⟨t_LOOK_SORTS,c_LOOK_SORTS,d_LOOK_SORTS⟩:=T.LOOK_SORTS;refine F.F.ok hZ (λvs H Q E h=>?_) (λcdv A outer s H vs Q E hr h=>?_)
 ·obtain ⟨t,u,so,l,x,y,rfl,_⟩:=h
  rfl
 obtain ⟨t,u,so,l,x,y,rfl,ht,hd,okt,q⟩:=h;refine ⟨_,(5,(12,PW.pt (@pw_or _ _ _ _ _ _ _ (pt_cmpR op_ne (@pi1 K _ _ _ _ _ _ _ rfl (pv 1)) (pv 2) (nomark _)) (@pw_or _ _ _ _ _ _ _ (@pt_not _ _ _ _ (@pt_val _ _ _ (pe_callB (aj (K:=K) rfl) rfl T.z_isinstance boot_isinstance (10,aH rfl T.z_tuple boot_tuple)) (by intro _;rfl))) (@pw_or _ _ _ _ _ _ _ (pt_cmpR op_ne (pe_callB (call_lenDN (K:=K) rfl) rfl T.z_len PySem.boot_len (@pa1 _ _ _ (pv 0) (0))) pe_int (nomark _)) (@pw_or1 _ _ _ _ (@pt_not _ _ _ _ (@pt_val _ _ _ (pe_callB (aj (K:=K) rfl) rfl T.z_isinstance boot_isinstance (9,(6),aH rfl T.z_str boot_str)) (by intro _;rfl)))))))),(3,(4,pe_cmpR op_eq (pe_kgetS d_LOOK_SORTS rfl c_LOOK_SORTS (@pa1 _ _ _ (6) (0))) (pv 2) (nomark _)))),?_⟩;refine ⟨_,rfl,_,_,_,hd,rfl,at0 _ _,isS ?_⟩;refine ⟨_,rfl,rfl,_,rfl,?_⟩
 by_cases hu:u=so
 rotate_left
 ·have e:e9 t u so=false:=by
   unfold e9
   split
   ·rw [decide_eq_false hu];rfl
   ·rfl
  rw [e] at q;exact ii (ae hu) (aq q)
 subst hu;refine kN ?_
 cases t with
 | non=>cases okt
 | bl=>cases okt
 | int i =>
  cases ht
  exact ⟨_,rfl,_,_,_,rfl,.int_tuple,_,rfl,aq (aq q)⟩
 | str z =>
  cases ht
  exact ⟨_,rfl,_,_,_,rfl,.str_tuple,_,rfl,aq (aq q)⟩
 | tup l =>
  obtain ⟨a,xs,rfl,ha,pa,ra⟩:=id ht.unref;refine ⟨_,rfl,_,_,_,rfl,.tup_tuple ha,_,rfl,aA ?_⟩;refine ⟨_,rfl,_,_,rfl,ht.d,rfl,_,rfl,?_⟩
  match l,ht,okt,q with
  | [],ht,okt,q=>exact ii (λz=>by injection z with z;exact absurd z (1)) (aq q)
  | [e],ht,okt,q =>
   rw [show e9 (.tup [e]) u u=false by cases e <;> rfl] at q;exact ii (λz=>by injection z with z;simp at z) (aq q)
  | e :: _ :: _ :: r,ht,okt,q =>
   rw [uZ] at q;exact ii (λz=>by injection z with z;simp at z;lia) (aq q)
  | [e,f],ht,okt,q =>
   refine kN ?_;have oke:=ay okt e aAr;refine ⟨_,rfl,_,_,_,ht,rfl,at0 _ _,λv hv=>?_⟩
   cases e with
   | non=>cases oke
   | bl=>cases oke
   | int i =>
    cases hv
    exact ⟨_,_,_,rfl,.int_str,_,rfl,aq q⟩
   | tup l =>
    obtain ⟨a1,xs1,rfl,ha1,_,_⟩:=id hv.unref;exact ⟨_,_,_,rfl,.tup_str ha1,_,rfl,aq q⟩
   | str w =>
    obtain rfl:=ao hv;refine ⟨_,_,_,rfl,.str_str,_,rfl,aA ?_⟩;refine ⟨_,rfl,_,_,_,ht,rfl,at0 _ _,isS ?_⟩;rw [show e9 (.tup [.str w,f]) u u=decide (bE w gs=some u) by simp [e9]] at q;refine ⟨_,rfl,_,rfl,?_⟩;show rEq (match bE w gs with | some b=>V.str b | none=>V.non) (V.str u) H Q
    cases hl:bE w gs with
    | none =>
     rw [hl] at q;exact ⟨rfl,q⟩
    | some b =>
     rw [hl] at q;refine ⟨rfl,?_⟩;have e:decide (V.str b=V.str u)=decide (some b=some u):=by rw [decide_eq_decide];exact ⟨λh=>by rw [V.str.inj h],λh=>by rw [Option.some.inj h]⟩
     rw [e];exact q
def gu (t:Dt) (u:Str):Bool:=match t with
 | .tup [_,.str z]=>e9 t u "text" && gr z
 | _=>false
def dU (t:Dt) (u:Str):Bool:=match t with
 | .tup [_,x]=>e9 t u "number" && aZ x 2 1000
 | _=>false
def iD (K:W.Frag) (_:Ads):Sp:=λvs H Q _=>∃ (t:Dt) (u:Str) (l:List Dt) (x y:V),vs=[x,y]/\IsP K H t x/\IsP K H (.tup (.str u :: l)) y/\okD t=true/\Q (.bl (gu t u)) H
theorem qQ {t:Dt} {u so:Str} (h:e9 t u so=true):∃ w x,t=.tup [.str w,x]:=by
 unfold e9 at h
 split at h
 ·exact ⟨_,_,rfl⟩
 ·cases h
theorem iE (T:Tx K mg ad) {f:Addr} {fd:FuncData} (F:Gn K mg "is_half_look" cL ["look","kind"] f fd):FnOk P w K mg base CX0 3 f fd ["look","kind"] (iD K ad):=by
 obtain ⟨_,_,Kh⟩:=T.has_look_form;have KA:=df (P:=P) (w:=w) (base:=base) T Kh;obtain ⟨_,_,KW⟩:=T.is_separator;have LD:=iC (P:=P) (w:=w) (base:=base) T KW;refine F.F.ok iM (λvs H Q E h=>?_) (λcdv A outer s H vs Q E hr h=>?_)
 ·obtain ⟨t,u,l,x,y,rfl,_⟩:=h
  rfl
 obtain ⟨t,u,l,x,y,rfl,ht,hd,okt,q⟩:=h;refine ⟨_,(3,(4,pe_and (7,Kh,KA,(11,pv 0,pv 1,pe_str)) (pe_and (pe_callB (aj (K:=K) rfl) rfl T.z_isinstance boot_isinstance (9,(6),aH rfl T.z_str boot_str)) (pe_one (7,KW,LD,@pa1 _ _ _ (6) (0)))))),?_⟩;refine ⟨_,rfl,_,rfl,t,u,"text",l,x,y,rfl,ht,hd,okt,_,rfl,?_⟩;refine aF (λc=>?_) (λc=>?_)
 ·obtain ⟨w,e,rfl⟩:=qQ c;have oke:=ay okt e (by simp);unfold gu at q;rw [c] at q;refine ⟨_,rfl,_,_,_,ht,rfl,rfl,λv hv=>?_⟩
  cases e with
  | non=>cases oke
  | bl=>cases oke
  | int i =>
   cases hv
   exact ⟨_,_,_,rfl,.int_str,_,rfl,aA q⟩
  | tup m =>
   obtain ⟨a1,xs1,rfl,ha1,_,_⟩:=id hv.unref;exact ⟨_,_,_,rfl,.tup_str ha1,_,rfl,aA q⟩
  | str z =>
   obtain rfl:=ao hv;refine ⟨_,_,_,rfl,.str_str,_,rfl,aq ⟨_,rfl,_,_,_,ht,rfl,rfl,λv hv=>?_⟩⟩;obtain rfl:=ao hv;exact ⟨z,rfl,of_decide_eq_true oke,q⟩
 ·have e:gu t u=false:=by
   unfold gu
   split
   ·rw [Bool.not_eq_true] at c;rw [c];rfl
   ·rfl
  rw [e] at q;exact q
def iF (K:W.Frag) (_:Ads):Sp:=λvs H Q _=>∃ (t:Dt) (u:Str) (l:List Dt) (x y:V),vs=[x,y]/\IsP K H t x/\IsP K H (.tup (.str u :: l)) y/\okD t=true/\Q (.bl (dU t u)) H
theorem iG (T:Tx K mg ad) {f:Addr} {fd:FuncData} (F:Gn K mg "is_part_look" cM ["look","kind"] f fd):FnOk P w K mg base CX0 4 f fd ["look","kind"] (iF K ad):=by
 obtain ⟨_,_,Kh⟩:=T.has_look_form;have KA:=df (P:=P) (w:=w) (base:=base) T Kh;obtain ⟨_,_,Kq⟩:=T.is_factor;have KH:=gh (P:=P) (w:=w) (base:=base) T Kq;refine F.F.ok iN (λvs H Q E h=>?_) (λcdv A outer s H vs Q E hr h=>?_)
 ·obtain ⟨t,u,l,x,y,rfl,_⟩:=h
  rfl
 obtain ⟨t,u,l,x,y,rfl,ht,hd,okt,q⟩:=h;refine ⟨_,(3,(4,pe_and (7,Kh,KA,(11,pv 0,pv 1,pe_str)) (pe_one (7,Kq,KH,@pa1 _ _ _ (6) (0))))),?_⟩;refine ⟨_,rfl,_,rfl,t,u,"number",l,x,y,rfl,ht,hd,okt,_,rfl,?_⟩;refine aF (λc=>?_) (λc=>?_)
 ·obtain ⟨w,e,rfl⟩:=qQ c;unfold dU at q;rw [c] at q;exact ⟨_,rfl,_,_,_,ht,rfl,rfl,λv hv=>⟨e,v,rfl,hv,ay okt e (by simp),q⟩⟩
 ·have e:dU t u=false:=by
   unfold dU
   split
   ·rw [Bool.not_eq_true] at c;rw [c];rfl
   ·rfl
  rw [e] at q;exact q
inductive LB:Dt->Dt->Dt->Prop
 | half (w z:Str) (m:Int):w= "ahead" \/w= "behind" ->gr z=true->LB (.tup [.str w,.str z]) (.tup [.str "text",.int m]) (.tup [.str "text",.int m])
 | parts (k i j:Int):2<=k->k<=1000->LB (.tup [.str "parts",.int k]) (b6 i j) (b6 (i / k) (j / k))
 | rest (k i j:Int):2<=k->k<=1000->LB (.tup [.str "rest",.int k]) (b6 i j) (b6 0 (k - 1))
 | turn {t d e:Dt}:GT t d e->LB t d e
def Fit (d:Dt):Prop:=∃ a c,FK a c d/\a<=5/\c<=40
theorem noW {w:Str} (x:Dt) (u:Str) (hw:bE w gs=none):gu (.tup [.str w,x]) u=false/\dU (.tup [.str w,x]) u=false:=by
 have no:∀ so:Str,e9 (.tup [.str w,x]) u so=false:=λso=>by
  show (decide (u=so) && decide (bE w gs=some so))=false;rw [hw,Bool.and_eq_false_iff];exact .inr rfl
 refine ⟨?_,?_⟩
 ·cases x <;> first | rfl | (show (e9 _ u "text" && _)=false;rw [no];rfl)
 ·show (e9 _ u "number" && _)=false;rw [no]
  rfl
theorem GT.noL {t d e:Dt} (h:GT t d e) (u:Str):gu t u=false/\dU t u=false:=by
 cases h <;> first | exact ⟨rfl,rfl⟩ | exact noW _ _ (by decide +kernel)
def OB (t d:Dt):Prop:=okD t=true/\TF t d/\∀ u l,d=.tup (.str u :: l)->gu t u=false/\dU t u=false
def fc (K:W.Frag) (ad:Ads):Sp:=λvs H Q E=>∃ (t d:Dt) (x y:V),vs=[x,y]/\IsP K H t x/\IsP K H d y/\okD t=true/\Fit d/\((∃ e,Fit e/\LB t d e/\∀ v H',Same H H'->IsP K H' e v->Q v H')\/(OB t d/\∀ H',Same H H'->E (.ref ad.BadQuestion) none H'))
theorem bX (T:Tx K mg ad) {f:Addr} {fd:FuncData} (F:Gn K mg "kind_behind_look" bx ["look","kind"] f fd):FnOk P w K mg base (bZ P w) 25 f fd ["look","kind"] (fc K ad):=by
 obtain ⟨f1,d1,K3⟩:=T.is_half_look;have Lw:=iE (P:=P) (w:=w) (base:=base) T K3;obtain ⟨f2,d2,K2⟩:=T.is_part_look;have LC:=iG (P:=P) (w:=w) (base:=base) T K2;obtain ⟨f3,d3,Lh⟩:=T.part_kinds;have LQ:=ke (P:=P) (w:=w) (base:=base) T Lh;obtain ⟨f4,d4,Ka⟩:=T.kind_behind;have Ko:=cC (P:=P) (w:=w) (base:=base) T Ka;refine F.F.okE3 fg (λvs H Q E h=>?_) (λcdv A outer s H vs Q E hr h=>?_)
 ·obtain ⟨t,d,x,y,rfl,_⟩:=h
  rfl
 obtain ⟨t,d,x,y,rfl,ht,hd,okt,⟨a,c,fk,ha,hc⟩,alt⟩:=h;refine ⟨_,(5,@ps_if _ _ _ _ _ _ _ _ (@pt_val _ _ _ (7,K3,Lw,(10,pv 1)) (by intro _;rfl)) (3,(4,pv 1)) pss_nil,(5,@ps_if _ _ _ _ _ _ _ _ (@pt_val _ _ _ (7,K2,LC,(10,pv 1)) (by intro _;rfl)) (3,(4,@pe_ix _ _ _ _ _ _ _ (ix_tupPN (K:=K) rfl) (7,Lh,LQ,(11,@pi1 K _ _ _ _ _ _ _ rfl (pv 1),@pi1 K _ _ _ _ _ _ _ rfl (pv 1),(6))) (iY (pt_cmpR op_eq (6) pe_str (nomark _)) pe_int pe_int) (λ_ _=>rfl))) pss_nil,(3,su Ji rfl rfl rfl (uu Ko (hr.mono (by first | decide | lia)) rfl Ka.m Ka.F.kp Ka.b (10,pv 1)) T.x_BadTurn.m rfl T.x_BadQuestion rfl (λ_=>(@pa1 _ _ _ pe_str (0)))))),?_⟩;obtain ⟨u,l,ed⟩:=l7 fk;have hd':IsP K H (.tup (.str u :: l)) y:=ed ▸ hd;refine ⟨_,rfl,_,rfl,t,u,l,x,y,rfl,ht,hd',okt,_,rfl,?_⟩;rcases alt with ⟨e,⟨a',c',fe,la,lc⟩,lb,q⟩ | ⟨⟨_,tf,no⟩,q⟩
 rotate_left
 ·obtain ⟨n1,n2⟩:=no u l ed;rw [n1];refine aA ⟨_,rfl,_,rfl,t,u,l,x,y,rfl,ht,hd',okt,_,rfl,?_⟩;rw [n2];refine aA ⟨_,rfl,_,rfl,a,c,t,d,x,y,ha,rfl,ht,hd,okt,fk,.inr ⟨tf,λH1 g1=>⟨ad.BadTurn,rfl,T.ext,λea hea=>?_⟩⟩⟩;exact ⟨sz1,ac,q _ (g1.trans (af hea _))⟩
 cases lb with
 | half w z m hw hz =>
  cases ed
  have h1:gu (.tup [.str w,.str z]) "text" = true:=by
   show ((decide (("text" : Str)= "text") && decide (bE w gs=some "text")) && gr z)=true;rw [hz];rcases hw with rfl | rfl <;> decide +kernel
  rw [h1];exact aq ⟨_,rfl,q y H (Same.refl H) hd⟩
 | parts k i j h1 h2 =>
  cases ed
  have h3:dU (.tup [.str "parts",.int k]) "number" = true:=by
   unfold dU e9 aZ;dsimp only;rw [decide_eq_true h1,decide_eq_true h2]
   decide +kernel
  refine aA ⟨_,rfl,_,rfl,_,"number",_,x,y,rfl,ht,hd',okt,_,rfl,?_⟩;rw [h3];refine aq ⟨_,rfl,_,_,_,hd,rfl,rfl,isI ?_⟩;refine ⟨_,rfl,_,_,_,hd,rfl,rfl,isI ?_⟩;refine ⟨_,rfl,_,_,_,ht,rfl,rfl,isI ?_⟩;refine ⟨i,j,k,rfl,h1,h2,λv H1 g1 hv=>⟨_,rfl,_,_,_,ht.same g1,rfl,at0 _ _,λv4 hv4=>?_⟩⟩;obtain rfl:=ao hv4;exact ⟨rfl,_,rfl,aC ⟨_,_,_,hv,rfl,at0 _ _,λv5 hv5=>q v5 H1 g1 hv5⟩⟩
 | rest k i j h1 h2 =>
  cases ed
  have h3:dU (.tup [.str "rest",.int k]) "number" = true:=by
   unfold dU e9 aZ;dsimp only;rw [decide_eq_true h1,decide_eq_true h2]
   decide +kernel
  refine aA ⟨_,rfl,_,rfl,_,"number",_,x,y,rfl,ht,hd',okt,_,rfl,?_⟩;rw [h3];refine aq ⟨_,rfl,_,_,_,hd,rfl,rfl,isI ?_⟩;refine ⟨_,rfl,_,_,_,hd,rfl,rfl,isI ?_⟩;refine ⟨_,rfl,_,_,_,ht,rfl,rfl,isI ?_⟩;refine ⟨i,j,k,rfl,h1,h2,λv H1 g1 hv=>⟨_,rfl,_,_,_,ht.same g1,rfl,at0 _ _,λv4 hv4=>?_⟩⟩;obtain rfl:=ao hv4;exact ⟨rfl,_,rfl,iteN (ae (1)) ⟨_,_,_,hv,rfl,rfl,λv5 hv5=>q v5 H1 g1 hv5⟩⟩
 | turn g =>
  obtain ⟨n1,n2⟩:=g.noL u;rw [n1];refine aA ⟨_,rfl,_,rfl,t,u,l,x,y,rfl,ht,hd',okt,_,rfl,?_⟩;rw [n2];exact aA ⟨_,rfl,_,rfl,a,c,t,d,x,y,ha,rfl,ht,hd,okt,fk,.inl ⟨e,⟨a',c',fe,la,lc⟩,g,q⟩⟩
inductive Go:List Dt->Dt->Option Dt->Prop
 | nil (d:Dt):Go [] d (some d)
 | cons {t d e:Dt} {ts:List Dt} {r:Option Dt}:LB t d e->Fit e->Go ts e r->Go (t :: ts) d r
 | bad {t d:Dt} (ts:List Dt):OB t d->Go (t :: ts) d none
def ju (K:W.Frag) (ad:Ads):Sp:=λvs H Q E=>∃ (ts:List Dt) (d:Dt) (x y:V),vs=[x,y]/\IsP K H (.tup ts) x/\IsP K H d y/\eh ts=true/\Fit d/\((8 < ts.length/\∀ H',Same H H'->E (.ref ad.BadQuestion) none H')\/(ts.length<=8/\Go ts d none/\∀ H',Same H H'->E (.ref ad.BadQuestion) none H')\/(ts.length<=8/\∃ e,Go ts d (some e)/\∀ v H',Same H H'->IsP K H' e v->Q v H'))
theorem cD (T:Tx K mg ad) {f:Addr} {fd:FuncData} (F:Gn K mg "kind_looked" cX ["looks","kind"] f fd):FnOk P w K mg base (bZ P w) 26 f fd ["looks","kind"] (ju K ad):=by
 obtain ⟨f1,d1,Kc⟩:=T.kind_behind_look;have Kr:=bX (P:=P) (w:=w) (base:=base) T Kc;obtain ⟨t_ML,c_MOST_LOOKS⟩:=T.MOST_LOOKS;refine F.F.okW3 bJ (λvs H Q E h=>?_) (λcdv A outer s H vs Q E hr h=>?_)
 ·obtain ⟨ts,d,x,y,rfl,_⟩:=h
  rfl
 obtain ⟨ts,d,x,y,rfl,ht,hd,okt,fit,alt⟩:=h;refine ⟨_,(@pss_cons _ _ _ _ _ (@ps_if _ _ _ _ _ _ _ _ (PW.pt (@pw_or _ _ _ _ _ _ _ (@pt_not _ _ _ _ (@pt_val _ _ _ (pe_callB (aj (K:=K) rfl) rfl T.z_isinstance boot_isinstance (10,aH rfl T.z_tuple boot_tuple)) (by intro _;rfl))) (@pw_or1 _ _ _ _ (pt_cmpR op_gt (pe_callB (call_lenDN (K:=K) rfl) rfl T.z_len PySem.boot_len (@pa1 _ _ _ (pv 0) (0))) (pe_gint rfl c_MOST_LOOKS) (nomark _))))) (3,pE rfl rfl rfl rfl T.x_BadQuestion rfl (@pa1 _ _ _ pe_str (0))) pss_nil) (@pss_cons _ _ _ _ _ (@ps_set _ _ 2 _ _ _ _ bJ.nd rfl (Or.inl rfl) (pv 1) (0) (.inl rfl)) (@pss_cons _ _ _ _ _ (xh λok=>dm (kM ok.frames rfl ok.frf) rfl (aM (K:=K) rfl (pv 0)) (ai (i:=3) bJ.nd rfl (Or.inl rfl))
    (3,@ps_set _ _ 2 _ _ _ _ bJ.nd rfl (Or.inl rfl) (pe_call Kr (hr.mono (by first | decide | lia)) rfl Kc.m Kc.F.kp Kc.b .nil (je rfl rfl rfl) (9,pv 3,pv 2)) (0) (.inl rfl))) (3,(4,pv 2))))),?_⟩
 obtain ⟨a,xs,rfl,ha,pa,ra⟩:=id ht.unref;refine ⟨_,rfl,_,_,_,rfl,.tup_tuple ha,_,rfl,aA ?_⟩;refine ⟨_,rfl,.ref a,ts,rfl,ht.d,_,_,rfl,rfl,_,rfl,aE (λc=>?_) λc=>?_⟩
 ·refine ⟨sz1,?_⟩;rcases alt with ⟨_,q⟩ | ⟨l8,_,q⟩ | ⟨l8,_⟩
  ·exact q H (Same.refl H)
  ·exact q H (Same.refl H)
  ·lia
 obtain ⟨r,go,q1,q2⟩:∃ r,Go ts d r/\(r=none->∀ H',Same H H'->E (.ref ad.BadQuestion) none H')/\∀ e,r=some e->∀ v H',Same H H'->IsP K H' e v->Q v H':=by
  rcases alt with ⟨l8,_⟩ | ⟨l8,go,q⟩ | ⟨l8,e,go,q⟩
  ·lia
  ·exact ⟨_,go,λ_=>q,λ_ c=>nomatch c⟩
  ·exact ⟨_,go,(λc=>nomatch c),λe' c=>by cases c;exact q⟩
 have lx:=ra.length;refine ⟨_,rfl,_,rfl,a,rfl,⟨_,ha⟩,kX (K:=K) (xs:=xs) (λi σ H'=>∃ d' v' v3,Same H H'/\IsP K H' d' v'/\Fit d'/\Go (ts.drop i) d' r/\σ=[some (.ref a),some y,some v',v3]) ⟨d,y,_,Same.refl H,hd,fit,go,rfl⟩ (λi σ H' _ p=>by obtain ⟨_,_,_,g,_⟩:=p;exact g.tup ha) ?_ ?_⟩
 ·rintro i y' σ H2 hy ⟨d',v',v3,g2,hd',fit',go',rfl⟩;obtain ⟨t,htm,hty⟩:=ra.get' hy;have il:=(aAc.mp htm).1;rw [aAY il,(aAc.mp htm).2] at go';have okt1:=ay okt t (aAs htm)
  generalize hR:ts.drop (i+1)=R at go'
  cases go' with
  | cons lb fe go2=>exact ⟨_,rfl,_,rfl,t,d',y',v',rfl,hty.same g2,hd',okt1,fit',.inl ⟨_,fe,lb,λv H3 g3 hv=>⟨_,v,_,g2.trans g3,hv,fe,hR ▸ go2,rfl⟩⟩⟩
  | bad _ ob=>exact ⟨_,rfl,_,rfl,t,d',y',v',rfl,hty.same g2,hd',okt1,fit',.inr ⟨ob,λH3 g3=>q1 rfl H3 (g2.trans g3)⟩⟩
 ·rintro σ H2 ⟨d',v',v3,g2,hd',fit',go',rfl⟩;rw [aAJ (by lia)] at go'
  cases go'
  exact ⟨_,rfl,q2 d' rfl v' H2 g2 hd'⟩
inductive LV:Dt->Dt->Dt->Dt->Prop
 | ahead (z y:Str) (m:Int):gr z=true->y.length<=60->LV (.tup [.str "ahead",.str z]) (.tup [.str "text",.int m]) (.str y) (.str (bW y z).1)
 | behind (z y:Str) (m:Int):gr z=true->y.length<=60->LV (.tup [.str "behind",.str z]) (.tup [.str "text",.int m]) (.str y) (.str (bW y z).2)
 | parts (k i j x:Int):2<=k->k<=1000->LV (.tup [.str "parts",.int k]) (b6 i j) (.int x) (.int (x / k))
 | rest (k i j x:Int):2<=k->k<=1000->LV (.tup [.str "rest",.int k]) (b6 i j) (.int x) (.int (x % k))
 | turn {t d e v u:Dt}:GT t d e->TV 5 t d v u->LV t d v u
theorem GT.word {t d e:Dt} (h:GT t d e):∃ w l,t=.tup (.str w :: l)/\bE w gs=none:=by
 cases h <;> exact ⟨_,_,rfl,by decide +kernel⟩
theorem qR {z:Str} (h:gr z=true):z.length=1:=by
 unfold gr at h;have hl:=bF z
 split at h
 ·rename_i c hc
  rw [hc] at hl;exact hl.symm
 ·cases h
theorem qS {w:Str} (h:bE w gs=none):w≠ "ahead" /\w≠ "behind" /\w≠ "parts" /\w≠ "rest" :=by
 refine ⟨?_,?_,?_,?_⟩ <;> (rintro rfl;exact absurd h (by decide +kernel))
def eA (K:W.Frag) (_:Ads):Sp:=λvs H Q _=>∃ (t d v u:Dt) (x y z:V),vs=[x,y,z]/\IsP K H t x/\IsP K H d y/\IsP K H v z/\LV t d v u/\∀ b H',Same H H'->IsP K H' u b->Q b H'
theorem eB (T:Tx K mg ad) {f:Addr} {fd:FuncData} (F:Gn K mg "value_behind_look" bp ["look","kind","value"] f fd):FnOk P w K mg base CX0 20 f fd ["look","kind","value"] (eA K ad):=by
 obtain ⟨f1,d1,Lo⟩:=T.halves;have LM:=sE (P:=P) (w:=w) (base:=base) T Lo;obtain ⟨f2,d2,Kg⟩:=T.led_value;have Kv:=jt (P:=P) (w:=w) (base:=base) T Kg 5;refine F.F.ok bS (λvs H Q E h=>?_) (λcdv A outer s H vs Q E hr h=>?_)
 ·obtain ⟨t,d,v,u,x,y,z,rfl,_⟩:=h
  rfl
 obtain ⟨t,d,v,u,x,y,z,rfl,ht,hd,hv,lv,q⟩:=h;refine ⟨_,(5,@ps_set _ _ 3 _ _ _ _ bS.nd rfl (Or.inl rfl) (6) (0) (.inl rfl),(5,@ps_if _ _ _ _ _ _ _ _ (pt_cmpR op_eq (pv 3) pe_str (nomark _)) (3,(4,@pi1 K _ _ _ _ _ _ _ rfl (7,Lo,LM,(9,pv 2,(6))))) pss_nil,(5,@ps_if _ _ _ _ _ _ _ _ (pt_cmpR op_eq (pv 3) pe_str (nomark _)) (3,(4,@pi1 K _ _ _ _ _ _ _ rfl (7,Lo,LM,(9,pv 2,(6))))) pss_nil,(5,@ps_if _ _ _ _ _ _ _ _ (pt_cmpR op_eq (pv 3) pe_str (nomark _)) (3,(4,@pe_op _ _ _ _ _ _ _ _ aQ (pv 2) (6))) pss_nil,(5,@ps_if _ _ _ _ _ _ _ _ (pt_cmpR op_eq (pv 3) pe_str (nomark _)) (3,(4,@pe_op _ _ _ _ _ _ _ _ cn (pv 2) (6))) pss_nil,(3,(4,(7,Kg,Kv,(11,pv 0,pv 1,pv 2))))))))),?_⟩;have wd:∀ {w:Str} {l:List Dt} {Q':V->Prop},IsP K H (.tup (.str w :: l)) x->Q' (.str w)->∀ v,IsP K H (.str w) v->Q' v:=λ{w l Q'} _ h v hv=>by rw [ao hv];exact h
 cases lv with
 | ahead z' y' m hz hl =>
  obtain rfl:=ao hv;refine ⟨_,rfl,_,_,_,ht,rfl,at0 _ _,wd ht ⟨_,rfl,rfl,_,rfl,aC ⟨_,rfl,_,rfl,_,_,_,ht,rfl,rfl,λv2 hv2=>?_⟩⟩⟩;obtain rfl:=ao hv2;exact ⟨y',z',rfl,qR hz,small (by lia),λv3 H1 g1 hv3=>⟨_,_,_,hv3,rfl,at0 _ _,λv4 hv4=>q v4 H1 g1 hv4⟩⟩
 | behind z' y' m hz hl =>
  obtain rfl:=ao hv;refine ⟨_,rfl,_,_,_,ht,rfl,at0 _ _,wd ht ⟨_,rfl,rfl,_,rfl,iteN (ae (1)) ⟨_,rfl,rfl,_,rfl,aC ⟨_,rfl,_,rfl,_,_,_,ht,rfl,rfl,λv2 hv2=>?_⟩⟩⟩⟩;obtain rfl:=ao hv2;exact ⟨y',z',rfl,qR hz,small (by lia),λv3 H1 g1 hv3=>⟨_,_,_,hv3,rfl,rfl,λv4 hv4=>q v4 H1 g1 hv4⟩⟩
 | parts k i j n h1 h2 =>
  obtain rfl:=bT hv;refine ⟨_,rfl,_,_,_,ht,rfl,at0 _ _,wd ht ⟨_,rfl,rfl,_,rfl,iteN (ae (1)) ⟨_,rfl,rfl,_,rfl,iteN (ae (1)) ⟨_,rfl,rfl,_,rfl,aC ⟨_,rfl,_,rfl,_,_,_,ht,rfl,rfl,λv2 hv2=>?_⟩⟩⟩⟩⟩;obtain rfl:=bT hv2;exact ⟨_,_,rfl,rfl,⟨by lia,by lia⟩,q _ H (Same.refl H) .int⟩
 | rest k i j n h1 h2 =>
  obtain rfl:=bT hv;refine ⟨_,rfl,_,_,_,ht,rfl,at0 _ _,wd ht ⟨_,rfl,rfl,_,rfl,iteN (ae (1)) ⟨_,rfl,rfl,_,rfl,iteN (ae (1)) ⟨_,rfl,rfl,_,rfl,iteN (ae (1)) ⟨_,rfl,rfl,_,rfl,aC ⟨_,rfl,_,rfl,_,_,_,ht,rfl,rfl,λv2 hv2=>?_⟩⟩⟩⟩⟩⟩;obtain rfl:=bT hv2;exact ⟨_,_,rfl,rfl,by lia,q _ H (Same.refl H) .int⟩
 | turn g tv =>
  obtain ⟨w,l,rfl,hw⟩:=g.word;obtain ⟨n1,n2,n3,n4⟩:=qS hw;exact ⟨_,rfl,_,_,_,ht,rfl,at0 _ _,wd ht ⟨_,rfl,rfl,_,rfl,iteN (ae n1) ⟨_,rfl,rfl,_,rfl,iteN (ae n2) ⟨_,rfl,rfl,_,rfl,iteN (ae n3) ⟨_,rfl,rfl,_,rfl,iteN (ae n4) ⟨_,rfl,_,rfl,_,rfl,_,d,v,u,x,y,z,rfl,ht,hd,hv,tv,q⟩⟩⟩⟩⟩⟩
inductive ChV:List Dt->Dt->Dt->Dt->Prop
 | nil (d v:Dt):ChV [] d v v
 | cons {t d e v u w:Dt} {ts:List Dt}:LB t d e->Fit e->LV t d v u->ChV ts e u w->ChV (t :: ts) d v w
theorem ChV.go {ts:List Dt} {d v w:Dt} (h:ChV ts d v w):∃ e,Go ts d (some e):=by
 induction h with
 | nil d v=>exact ⟨d,.nil d⟩
 | cons lb fe _ _ ih =>
  obtain ⟨e,g⟩:=ih;exact ⟨e,.cons lb fe g⟩
def sF (K:W.Frag) (ad:Ads):Sp:=λvs H Q E=>∃ (ts:List Dt) (d v:Dt) (x y z:V),vs=[x,y,z]/\IsP K H (.tup ts) x/\IsP K H d y/\IsP K H v z/\eh ts=true/\Fit d/\((8 < ts.length/\∀ H',Same H H'->E (.ref ad.BadQuestion) none H')\/(ts.length<=8/\Go ts d none/\∀ H',Same H H'->E (.ref ad.BadQuestion) none H')\/(ts.length<=8/\∃ u,ChV ts d v u/\∀ b H',Same H H'->IsP K H' u b->Q b H'))
theorem kR (T:Tx K mg ad) {f:Addr} {fd:FuncData} (F:Gn K mg "looked" jE ["looks","kind","value"] f fd):FnOk P w K mg base (bZ P w) 27 f fd ["looks","kind","value"] (sF K ad):=by
 obtain ⟨f1,d1,Kc⟩:=T.kind_behind_look;have Kr:=bX (P:=P) (w:=w) (base:=base) T Kc;obtain ⟨f2,d2,J9⟩:=T.kind_looked;have Kn:=cD (P:=P) (w:=w) (base:=base) T J9;obtain ⟨f3,d3,KC⟩:=T.value_behind_look;have La:=eB (P:=P) (w:=w) (base:=base) T KC;refine F.F.okW3 ck (λvs H Q E h=>?_) (λcdv A outer s H vs Q E hr h=>?_)
 ·obtain ⟨ts,d,v,x,y,z,rfl,_⟩:=h
  rfl
 obtain ⟨ts,d,v,x,y,z,rfl,ht,hd,hv,okt,fit,alt⟩:=h;refine ⟨_,(@pss_cons _ _ _ _ _ (@qk _ _ _ _ (pe_call Kn (hr.mono (by first | decide | lia)) rfl J9.m J9.F.kp J9.b .nil (je rfl rfl rfl) (10,pv 1)) (0)) (@pss_cons _ _ _ _ _ (@ps_set _ _ 3 _ _ _ _ ck.nd rfl (Or.inl rfl) (pv 1) (0) (.inl rfl)) (@pss_cons _ _ _ _ _ (@ps_set _ _ 4 _ _ _ _ ck.nd rfl (Or.inl rfl) (pv 2) (0) (.inl rfl)) (@pss_cons _ _ _ _ _ (xh λok=>dm (kM ok.frames rfl ok.frf) rfl (aM (K:=K) rfl (pv 0)) (ai (i:=5) ck.nd rfl (Or.inl rfl))
    (5,@ps_set _ _ 4 _ _ _ _ ck.nd rfl (Or.inl rfl) (7,KC,La,(11,pv 5,pv 3,pv 4)) (0) (.inl rfl),(3,@ps_set _ _ 3 _ _ _ _ ck.nd rfl (Or.inl rfl) (pe_call Kr (hr.mono (by first | decide | lia)) rfl Kc.m Kc.F.kp Kc.b .nil (je rfl rfl rfl) (9,pv 5,pv 3)) (0) (.inl rfl)))) (3,(4,pv 4)))))),?_⟩
 obtain ⟨a,xs,rfl,ha,pa,ra⟩:=id ht.unref;have lx:=ra.length;rcases alt with ⟨l8,q⟩ | ⟨l8,go,q⟩ | ⟨l8,u,ch,q⟩
 ·exact ⟨_,rfl,_,rfl,ts,d,.ref a,y,rfl,ht,hd,okt,fit,.inl ⟨l8,q⟩⟩
 ·exact ⟨_,rfl,_,rfl,ts,d,.ref a,y,rfl,ht,hd,okt,fit,.inr (.inl ⟨l8,go,q⟩)⟩
 obtain ⟨e,go⟩:=ch.go;refine ⟨_,rfl,_,rfl,ts,d,.ref a,y,rfl,ht,hd,okt,fit,.inr (.inr ⟨l8,e,go,λ_ H1 g1 _=>?_⟩)⟩;refine ⟨_,rfl,_,rfl,_,rfl,a,rfl,⟨_,g1.tup ha⟩,kX (K:=K) (xs:=xs) (λi σ H'=>∃ d' v' k' b' v5,Same H H'/\IsP K H' d' k'/\IsP K H' v' b'/\Fit d'/\ChV (ts.drop i) d' v' u/\σ=[some (.ref a),some y,some z,some k',some b',v5]) ⟨d,v,y,z,_,g1,hd.same g1,hv.same g1,fit,ch,rfl⟩ (λi σ H' _ p=>by obtain ⟨_,_,_,_,_,g,_⟩:=p;exact g.tup ha) ?_ ?_⟩
 ·rintro i y' σ H2 hy ⟨d',v',k',b',v5,g2,hd',hv',fit',ch',rfl⟩;obtain ⟨t,htm,hty⟩:=ra.get' hy;have il:=(aAc.mp htm).1;rw [aAY il,(aAc.mp htm).2] at ch';have okt1:=ay okt t (aAs htm)
  generalize hR:ts.drop (i+1)=R at ch'
  cases ch' with
  | cons lb fe lv ch2 =>
   refine ⟨_,rfl,_,rfl,_,rfl,t,d',v',_,y',k',b',rfl,hty.same g2,hd',hv',lv,λb H3 g3 hb=>?_⟩;refine ⟨_,rfl,_,rfl,t,d',y',k',rfl,hty.same (g2.trans g3),hd'.same g3,okt1,fit',.inl ⟨_,fe,lb,λv4 H4 g4 hv4=>?_⟩⟩;exact ⟨_,_,v4,b,_,(g2.trans g3).trans g4,hv4,hb.same g4,fe,hR ▸ ch2,rfl⟩
 ·rintro σ H2 ⟨d',v',k',b',v5,g2,hd',hv',fit',ch',rfl⟩;rw [aAJ (by lia)] at ch'
  cases ch'
  exact ⟨_,rfl,q b' H2 g2 hv'⟩
def pS (K:W.Frag) (n:Nat):Sp:=λvs H Q _=>∃ (r:Addr) (c:Int) (a:Nat) (d:Dt) (x:V),a<=n/\vs=[.ref r,x]/\H r=some (.lst [.int c])/\IsP K H d x/\SK a d/\∀ (v:V) (e:Dt) (c':Int) (H':Hp),But r H H'->H' r=some (.lst [.int c'])->IsP K H' e v->FV d e->Q v H'
theorem SK.pos {a:Nat} {d:Dt} (h:SK a d):1<=a:=by cases h <;> lia
theorem SK.fk {a:Nat} {d:Dt} (h:SK a d):FK a a d:=by
 induction h with
 | text i h1 h2=>exact .text i h1 h2
 | choice ws h=>exact .choice ws h
 | number i j h1 h2 h3=>exact .number i j h1 h2 h3
 | list _ h1 h2 ih=>exact .list ih (by lia) h2
theorem SK.fit {a:Nat} {d:Dt} (h:SK a d) (h5:a<=5):Fit d:=⟨a,a,h.fk,h5,by lia⟩
theorem ma (T:Tx K mg ad) {f:Addr} {fd:FuncData} (n:Nat) (Kw:Gn K mg "_law_value" bR ["row","kind"] f fd)
  (KU:FnOk P w K mg base CX0 (n+3) f fd ["row","kind"] (pS K n)):FnOk P w K mg base CX0 (n+4) f fd ["row","kind"] (pS K (n+1)):=by
 obtain ⟨_,_,J7⟩:=T.law_digit;have J8:=aU (P:=P) (w:=w) (base:=base) T J7;obtain ⟨_,_,Lf⟩:=T.law_number;have LP:=jZ (P:=P) (w:=w) (base:=base) T Lf;obtain ⟨_,_,Lv⟩:=T.law_text;have L9:=nZ (P:=P) (w:=w) (base:=base) T Lv;refine Kw.F.ok mz (λvs H Q E h=>?_) (λcdv A outer s H vs Q E hr h=>?_)
 ·obtain ⟨r,c,a0,d,x,_,rfl,_⟩:=h
  rfl
 obtain ⟨r,c,a0,d,x,hle,rfl,hr0,hd,fk,q⟩:=h;refine ⟨_,(5,@ps_if _ _ _ _ _ _ _ _ (pt_cmpR op_eq (@pi1 K _ _ _ _ _ _ _ rfl (pv 1)) pe_str (nomark _)) (3,(4,(7,Lf,LP,(11,pv 0,@pi1 K _ _ _ _ _ _ _ rfl (pv 1),@pi1 K _ _ _ _ _ _ _ rfl (pv 1))))) pss_nil,(5,@ps_if _ _ _ _ _ _ _ _ (pt_cmpR op_eq (@pi1 K _ _ _ _ _ _ _ rfl (pv 1)) pe_str (nomark _)) (3,(4,(7,Lv,L9,(10,@pi1 K _ _ _ _ _ _ _ rfl (pv 1))))) pss_nil,(5,@ps_if _ _ _ _ _ _ _ _ (pt_cmpR op_eq (@pi1 K _ _ _ _ _ _ _ rfl (pv 1)) pe_str (nomark _)) (3,(4,@pe_ix _ _ _ _ _ _ _ (ix_tupPN (K:=K) rfl) (@pi1 K _ _ _ _ _ _ _ rfl (pv 1)) (pcl J7 J8 (hr.mono (by lia)) rfl (10,pe_callB (call_lenDN (K:=K) rfl) rfl T.z_len PySem.boot_len (@pa1 _ _ _ (@pi1 K _ _ _ _ _ _ _ rfl (pv 1)) (0)))) (λ_ _=>rfl))) pss_nil,(3,(4,(8,@pa2 _ _ _ _ _ pe_str (pe_callTy (bD (K:=K) rfl) rfl T.z_tuple boot_tuple (@pa1 _ _ _ (aG rfl (csR (sc:=aa bR) (NL:=["k"]) (N:=["row","kind"]) (ρ:=[0,1]) (N':=["k","row","kind"]) rfl rfl rfl (by decide +kernel) (by decide +kernel) (by decide +kernel) rfl (by decide +kernel)) (cg rfl T.z_range (@pa1 _ _ _ (pcl J7 J8 (hr.mono (by lia)) rfl (10,@pe_op _ _ _ _ _ _ _ _ bg (@pi1 K _ _ _ _ _ _ _ rfl (pv 1)) pe_int)) (0))) (λ_ _ _ _=>(ai (i:=0) (show List.Nodup (α:=Str) ["k","row","kind"] by decide +kernel) rfl (Or.inl rfl))) (λ_ _ _ _=>(7,Kw,KU,(9,pv 1,@pi1 K _ _ _ _ _ _ _ rfl (pv 2))))) (0))) (0) (0))))))),?_⟩
 cases fk with
 | number i j b1 b2 b3 =>
  refine ⟨_,rfl,_,_,_,hd,rfl,rfl,isS ?_⟩;refine ⟨rfl,_,rfl,aC ?_⟩;refine ⟨_,rfl,_,rfl,_,_,_,hd,rfl,rfl,isI ?_⟩;refine ⟨_,rfl,_,_,_,hd,rfl,rfl,isI ?_⟩;exact ⟨r,c,i,j,rfl,hr0,b1,b2,b3,λx c' H' b e h1 h2=>q _ _ c' H' b e .int (.number h1 h2)⟩
 | text i b1 b2 =>
  refine ⟨_,rfl,_,_,_,hd,rfl,rfl,isS ?_⟩;refine ⟨rfl,_,rfl,iteN (ae (1)) ?_⟩;refine ⟨_,rfl,_,_,_,hd,rfl,rfl,isS ?_⟩;refine ⟨rfl,_,rfl,aC ?_⟩;refine ⟨_,rfl,_,rfl,_,_,_,hd,rfl,rfl,isI ?_⟩;exact ⟨r,c,i,rfl,hr0,b1,b2,λz c' H' b e h1 h2=>q _ _ c' H' b e .str (.text h1 h2)⟩
 | choice ws hw =>
  obtain ⟨w1,w8,_,_⟩:=aD hw;refine ⟨_,rfl,_,_,_,hd,rfl,rfl,isS ?_⟩;refine ⟨rfl,_,rfl,iteN (ae (1)) ?_⟩;refine ⟨_,rfl,_,_,_,hd,rfl,rfl,isS ?_⟩;refine ⟨rfl,_,rfl,iteN (ae (1)) ?_⟩;refine ⟨_,rfl,_,_,_,hd,rfl,rfl,isS ?_⟩;refine ⟨rfl,_,rfl,aC ?_⟩;refine ⟨_,rfl,_,_,_,hd,rfl,rfl,λv1 hv1=>?_⟩;refine ⟨_,rfl,_,rfl,_,_,_,hd,rfl,rfl,λv2 hv2=>?_⟩;obtain ⟨d0,d1⟩:=mod_lt c (m:=((ws.map Dt.str).length:Int)) (by rw [aAe];lia);obtain ⟨e,me,ee⟩:=pK (xs:=ws.map Dt.str) d0 d1;obtain ⟨z,hz,rfl⟩:=aAO.mp me;exact ⟨v2,_,rfl,hv2.d,r,c,_,rfl,hr0,by rw [aAe];lia,by rw [aAe];lia,_,_,_,hv1.but hr0 But.put,rfl,ee,λv hv=>q v _ _ _ But.put ac hv (.choice hz)⟩
 | @list a' k i g bb1 bb2 =>
  refine ⟨_,rfl,_,_,_,hd,rfl,rfl,isS ?_⟩;refine ⟨rfl,_,rfl,iteN (ae (1)) ?_⟩;refine ⟨_,rfl,_,_,_,hd,rfl,rfl,isS ?_⟩;refine ⟨rfl,_,rfl,iteN (ae (1)) ?_⟩;refine ⟨_,rfl,_,_,_,hd,rfl,rfl,isS ?_⟩;refine ⟨rfl,_,rfl,iteN (ae (1)) ?_⟩;refine ⟨_,rfl,_,rfl,_,_,_,hd,rfl,rfl,isI ?_⟩;obtain ⟨d0,d1⟩:=mod_lt c (m:=i+1) (by lia);refine ⟨_,_,rfl,rfl,r,c,_,rfl,hr0,by lia,by lia,_,rfl,by lia,by lia,λl hln=>?_⟩;have b0:But r H (upd H r (.lst [.int (c / (i+1))])):=But.put;have nlr:r≠l:=ah ac hln;refine ie (lo:=0) (n:=(c % (i+1)).toNat) (λj ys σ H'=>∃ (es:List Dt) (c':Int),But r H H'/\H' r=some (.lst [.int c'])/\H' l=some (.lst ys)/\IsPs K H' es ys/\ys.length<=j/\(∀ e∈es,FV k e)/\∃ v1,σ=[v1,some (.ref r),some x])
   ⟨[],_,b0.trans (But.same (af hln _)),(by rw [ag nlr];exact ac),ac,.nil,aAf _,(by intro e he;cases he),none,rfl⟩ ?_ ?_
  ·rintro j ys σ H1 N hj ⟨es,c',b1,e1,e2,hp,hle,gv,v1,rfl⟩ next;have hd1:=hd.but hr0 b1;refine ⟨_,rfl,_,rfl,_,_,_,hd1,rfl,rfl,λv5 hv5=>?_⟩;refine ⟨r,c',a',k,v5,by lia,rfl,e1,hv5,g,λv e c2 H2 b2 e3 hv2 g2=>?_⟩;have f2:=b2 _ _ nlr.symm e2;have b5:But l H2 (upd H2 l (.lst (ys++[v]))):=But.put;refine ⟨f2,am (by lia),next _ _ _ ⟨es++[e],c2,λx o nx ex=>?_,?_,ac,?_,?_,λe' he=>?_,_,rfl⟩⟩
   ·have n2:x≠l:=ah (b0 x o nx ex) hln;rw [ag n2];exact b2 x o nx (b1 x o nx ex)
   ·rw [ag nlr];exact e3
   ·exact ((hp.but e1 b2).but f2 b5).append (.cons (hv2.but f2 b5) .nil)
   ·rw [aAt];simp only [aAo,aBu];lia
   ·rcases aA9.mp he with h1 | h1
    ·exact gv e' h1
    ·obtain rfl:=aAA.mp h1;exact g2
  ·rintro ys σ H1 ⟨es,c',b1,e1,e2,hp,hle,gv,v1,rfl⟩;refine ⟨l,ys,_,rfl,SqL.of e2,hp,λv2 H2 g2 hv2=>?_⟩;refine ⟨[.str "list",.tup es],.cons .str (.cons hv2 .nil),sz2,λv H3 g3 hv=>?_⟩;refine q v _ c' H3 ((b1.trans (But.same g2)).trans (But.same g3)) (g3 _ _ (g2 _ _ e1)) hv (.list gv ?_);rw [hp.length];lia
theorem qT (T:Tx K mg ad) {f:Addr} {fd:FuncData} (D:Gn K mg "_law_value" bR ["row","kind"] f fd):∀ n,FnOk P w K mg base CX0 (n+3) f fd ["row","kind"] (pS K n)
 | 0=>bi λ_ _ _ _ z=>by obtain ⟨_,_,_,_,_,h,_,_,_,sk,_⟩:=z;have:=sk.pos;lia
 | n+1=>ma T n D (qT T D n)
def u4 (K:W.Frag) (n:Nat):Sp:=λvs H Q _=>∃ (a:Nat) (d:Dt) (x:V),a<=n/\vs=[x]/\IsP K H d x/\SK a d/\Q (.int a) H
theorem oh (T:Tx K mg ad) {f:Addr} {fd:FuncData} (n:Nat) (KB:Gn K mg "_law_deep" dQ ["kind"] f fd) (K5:FnOk P w K mg base CX0 n f fd ["kind"] (u4 K n)):FnOk P w K mg base CX0 (n+1) f fd ["kind"] (u4 K (n+1)):=by
 refine KB.F.ok oD (λvs H Q E h=>?_) (λcdv A outer s H vs Q E hr h=>?_)
 ·obtain ⟨a,d,x,_,rfl,_⟩:=h
  rfl
 obtain ⟨a,d,x,hle,rfl,hd,sk,q⟩:=h;refine ⟨_,(5,@ps_if _ _ _ _ _ _ _ _ (pt_cmpR op_eq (6) pe_str (nomark _)) (3,(4,@pe_op _ _ _ _ _ _ _ _ bg pe_int (7,KB,K5,@pa1 _ _ _ (6) (0)))) pss_nil,(3,(4,pe_int))),?_⟩
 cases sk with
 | @list a' k i g h1 h2 =>
  refine ⟨_,rfl,_,_,_,hd,rfl,rfl,isS ?_⟩;refine ⟨rfl,_,rfl,aC ⟨_,rfl,_,_,_,hd,rfl,rfl,λv1 hv1=>⟨a',k,v1,by lia,rfl,hv1,g,_,_,rfl,rfl,?_⟩⟩⟩;rw [show (1:Int)+(a':Int)=((a' + 1:Nat):Int) by lia];exact q
 | _ =>
  refine ⟨_,rfl,_,_,_,hd,rfl,rfl,isS ?_⟩;exact ⟨rfl,_,rfl,iteN (ae (1)) q⟩
theorem oi (T:Tx K mg ad) {f:Addr} {fd:FuncData} (D:Gn K mg "_law_deep" dQ ["kind"] f fd):∀ n,FnOk P w K mg base CX0 n f fd ["kind"] (u4 K n)
 | 0=>bi λ_ _ _ _ z=>by obtain ⟨_,_,_,h,_,_,sk,_⟩:=z;have:=sk.pos;lia
 | n+1=>oh T n D (oi T D n)
def NxL (t d:Dt):Prop:=okD t=true/\∃ e a',LB t d e/\SK a' e/\a'<=5
def iH (K:W.Frag) (_:Ads):Sp:=λvs H Q _=>∃ (r:Addr) (c:Int) (a:Nat) (d:Dt) (y:V),vs=[.ref r,y]/\H r=some (.lst [.int c])/\IsP K H d y/\SK a d/\a<=5/\∀ (t:Dt) (x:V) (c':Int) H',But r H H'->H' r=some (.lst [.int c'])->IsP K H' t x->NxL t d->Q x H'
inductive IDg (vs:List V) (H:Hp) (Q:VK):Prop
 | mk (r:Addr) (n m:Int):(vs=[.ref r,.int m])->(H r=some (.lst [.int n]))->(0 < m)->(m < 10000000000000000000000000000000000000000000000000000000000000)->(∀ d n' H',0<=d->d < m->But r H H'->H' r=some (.lst [.int n'])->Q (.int d) H')->IDg vs H Q
def sDg:Sp:=λvs H Q _=>IDg vs H Q
theorem pT {ad:Ads} (vs:List V) (H:Hp) (Q:VK) (E:XK) (h:sDg vs H Q E):fZ K ad vs H Q E:=by
 obtain ⟨r,n,m,e,hr,h0,h1,q⟩:=h;exact ⟨r,n,m,e,hr,h0,h1,q _ _ _ (mod_lt n h0).1 (mod_lt n h0).2 But.put ac⟩
theorem cE {a b:TS} {D:Ends} {σ:L2.St} {H:Hp} (h:∀ k:L2.St->Hp->Prop,(∀ σ H,b D σ H->k σ H)->a { D with nx:=k } σ H):sP a b D σ H:=h _ λ_ _ h=>h
theorem oj {i k:Int} (hk:2<=k) (h1:-1000000000000000000000000000000<=i) (h2:i<=1000000000000000000000000000000):-1000000000000000000000000000000<=i / k/\i / k<=1000000000000000000000000000000:=by
 constructor
 ·rw [Int.le_ediv_iff_mul_le (by lia)];lia
 ·exact Int.ediv_le_of_le_mul (by lia) (by lia)
theorem xx {x:Int} (h:bq x):figN x<=36:=by
 have:=lD 34 x.natAbs (aBb (show x.natAbs<=1000000000000000000000000000000 by have:=h.1;have:=h.2;lia) (by decide +kernel));unfold figN strI
 split
 ·rw [aAo];lia
 ·lia
theorem BH {i j:Int} (hi:bq i) (hj:bq j):kP i j<=40:=by
 have:=xx hi;have:=xx hj;unfold kP
 split <;> lia
theorem wJ:∀ c∈(Str.ofString "-| a").cps.toList,gr ⟨#[c]⟩=true/\okC c=true:=by decide +kernel
theorem Js:∀ k∈([2,3,10,1000]:List Int),2<=k/\k<=1000:=(1)
theorem vd {ws:List Str} (h:bo ws=true):1<=ws.length/\ws.length<=8:=by obtain ⟨a,b,_⟩:=aD h;exact ⟨a,b⟩
theorem jv (z:Str):∀ ws:List Str,inV (V.str z) (ws.map V.str)=decide (z∈ws)
 | []=>by simp [inV]
 | w :: ws=>by
  have ih:=jv z ws;have e:inV (V.str z) ((w :: ws).map V.str)=(eqV (V.str w) (V.str z) || inV (V.str z) (ws.map V.str)):=rfl;have e2:eqV (V.str w) (V.str z)=decide (w=z):=rfl;rw [e,ih,e2,aAV];simp only [Bool.or_eq_true,decide_eq_true_eq,aAm];exact ⟨λh=>h.imp Eq.symm id,λh=>h.imp Eq.symm id⟩
theorem ol (ws:List Str):(ws.map V.str).all dY=true:=by rw [aBe];exact aAG.mpr λ_ _=>rfl
theorem qU {K:W.Frag} {H:Hp}:∀ ss:List Str,IsPs K H (ss.map Dt.str) (ss.map V.str)
 | []=>.nil
 | z :: ss=>.cons .str (qU ss)
theorem jw:∀ {l:List Str} {z:Str},z∈l->∃ j:Nat,l[j]?=some z/\∀ m:Nat,m < j->l[m]?≠some z
 | a :: l,z,h=>by
  by_cases e:a=z
  ·exact ⟨0,by rw [<- e];rfl,λm hm=>absurd hm (aBt _)⟩
  ·obtain ⟨j,h1,h2⟩:=jw (l:=l) ((aAm.mp h).resolve_left λc=>e c.symm);refine ⟨j+1,h1,λm hm=>?_⟩
   cases m with
   | zero=>exact λc=>e (Option.some.inj c)
   | succ m=>exact h2 m (by lia)
theorem BI {fs ws:List Str} {jx jy:Nat} {wx wy:Str} (hl:fs.length=ws.length) (hf:∀ f∈fs,f= "x" \/f= "y") (fx:fs[jx]?=some "x") (fy:fs[jy]?=some "y") (ex:ws[jx]?=some wx) (ey:ws[jy]?=some wy):LedW fs [("x",wx),("y",wy)] ws:=by
 have zx:(wx,("x" : Str))∈ws.zip fs:=aAs (i:=jx) (aBj.mpr ⟨ex,fx⟩);have zy:(wy,("y" : Str))∈ws.zip fs:=aAs (i:=jy) (aBj.mpr ⟨ey,fy⟩);refine ⟨(by show bo ["x","y"]=true;decide +kernel),hl,λf h=>?_,λb h=>?_⟩
 ·rcases hf f h with rfl | rfl
  ·exact ⟨wx,by simp,zx⟩
  ·exact ⟨wy,by simp,zy⟩
 ·rcases aAm.mp h with rfl | h
  ·exact ⟨"x",zx,by simp⟩
  ·rw [aAA.mp h];exact ⟨"y",zy,by simp⟩
theorem wK {r l:Addr} {o:HO} {H H':Hp} (b:But r H H') (hl:H l=none):But r H (upd H' l o):=λx u n e=>by rw [ag (ah e hl)];exact b x u n e
theorem wL {K:W.Frag} {r b:Addr} {c:Int} {ws:List Str} {H H':Hp} (h:IsP K H (.tup (ws.map Dt.str)) (.ref b)) (R:H r=some (.lst [.int c])) (B:But r H H'):SqT K H' b (ws.map V.str):=by
 obtain ⟨b2,xs,e,hb,_,rb⟩:=(h.but R B).unref
 cases e
 obtain rfl:=aN rb;exact hb
theorem b7 {t d e:Dt} {a:Nat} (ok:okD t=true) (g:GT t d e) (h:SK a e) (h5:a<=5):NxL t d:=⟨ok,e,a,.turn g,h,h5⟩
theorem iI (T:Tx K mg ad) {f:Addr} {fd:FuncData} (F:Gn K mg "_law_look_for" bI ["row","kind"] f fd):FnOk P w K mg base CX0 8 f fd ["row","kind"] (iH K ad):=by
 obtain ⟨f1,d1,J7⟩:=T.law_digit;have J8:=(aU (P:=P) (w:=w) (base:=base) T J7).imp pT;obtain ⟨f2,d2,KB⟩:=T.law_deep;have K5:=oi (P:=P) (w:=w) (base:=base) T KB 5;refine F.F.ok bu (λvs H Q E h=>?_) (λcdv A outer s H vs Q E hr h=>?_)
 ·obtain ⟨r,c,a,d,y,rfl,_⟩:=h
  rfl
 obtain ⟨r,c,a,d,y,rfl,hr0,hd,sk,a5,q⟩:=h;refine ⟨_,(5,@ps_set _ _ 2 _ _ _ _ bu.nd rfl (Or.inl rfl) (pcl J7 J8 (hr.mono (by lia)) rfl (@pa2 _ _ _ _ _ (pv 0) pe_int (0) (0))) (0) (.inl rfl),(5,@ps_if _ _ _ _ _ _ _ _ (pt_cmpR op_eq (@pi1 K _ _ _ _ _ _ _ rfl (pv 1)) pe_str (nomark _)) (5,@ps_if _ _ _ _ _ _ _ _ (pt_cmpR sU (pv 2) pe_int (nomark _)) (3,(4,(8,(9,@pe_ix _ _ _ _ _ _ _ (aL (K:=K) rfl) (@aB _ _ _ _ (@pa2 _ _ _ _ _ pe_str pe_str (0) (0))) (pv 2) (λ_ _=>rfl),@pe_ix _ _ _ _ _ _ _ (aL (K:=K) rfl) (@aB _ _ _ _ (@ak _ _ _ _ _ pe_int (11,pe_int,pe_int,pe_int) (0))) (pcl J7 J8 (hr.mono (by lia)) rfl (@pa2 _ _ _ _ _ (pv 0) pe_int (0) (0))) (λ_ _=>rfl))))) pss_nil,(5,@ps_if _ _ _ _ _ _ _ _ (PW.pt (@fA _ _ _ _ _ _ _ (pt_cmpR op_eq (pv 2) pe_int (nomark _)) (@eP _ _ _ _ (pt_cmpR sU (pe_callB (eQ rfl) rfl T.z_max boot_max (9,pe_callB mH rfl T.z_abs boot_abs (@pa1 _ _ _ (@pi1 K _ _ _ _ _ _ _ rfl (pv 1)) (0)),pe_callB mH rfl T.z_abs boot_abs (@pa1 _ _ _ (@pi1 K _ _ _ _ _ _ _ rfl (pv 1)) (0)))) (@pe_op _ _ _ _ _ _ _ _ op_pow pe_int pe_int) (nomark _))))) (3,(4,(8,@pa2 _ _ _ _ _ pe_str pe_int (0) (0)))) pss_nil,(5,@ps_if _ _ _ _ _ _ _ _ (pt_cmpR op_eq (pv 2) pe_int (nomark _)) (3,(4,(8,@pa2 _ _ _ _ _ pe_str pe_int (0) (0)))) pss_nil,(5,@ps_set _ _ 3 _ _ _ _ bu.nd rfl (Or.inl rfl) (@pe_op _ _ _ _ _ _ _ _ op_sub (pcl J7 J8 (hr.mono (by lia)) rfl (@pa2 _ _ _ _ _ (pv 0) pe_int (0) (0))) pe_int) (0) (.inl rfl),(3,(4,(8,@pa3 _ _ _ _ _ _ _ pe_str (pv 3) (@pe_op _ _ _ _ _ _ _ _ bg (pv 3) (pcl J7 J8 (hr.mono (by lia)) rfl (@pa2 _ _ _ _ _ (pv 0) pe_int (0) (0)))) (0) (0) (0)))))))) pss_nil,(5,@ps_if _ _ _ _ _ _ _ _ (pt_cmpR op_eq (@pi1 K _ _ _ _ _ _ _ rfl (pv 1)) pe_str (nomark _)) (5,@ps_if _ _ _ _ _ _ _ _ (pt_cmpR op_eq (pv 2) pe_int (nomark _)) (3,(4,(8,@pa2 _ _ _ _ _ pe_str (pcl J7 J8 (hr.mono (by lia)) rfl (@pa2 _ _ _ _ _ (pv 0) pe_int (0) (0))) (0) (0)))) pss_nil,(3,(4,(8,(9,@pe_ix _ _ _ _ _ _ _ (aL (K:=K) rfl) (@aB _ _ _ _ (@pa2 _ _ _ _ _ pe_str pe_str (0) (0))) (@pe_op _ _ _ _ _ _ _ _ cn (pv 2) pe_int) (λ_ _=>rfl),@pe_ix _ _ _ _ _ _ _ oK pe_str (pcl J7 J8 (hr.mono (by lia)) rfl (@pa2 _ _ _ _ _ (pv 0) pe_int (0) (0))) (λ_ _=>rfl)))))) pss_nil,(5,@ps_if _ _ _ _ _ _ _ _ (PW.pt (@fA _ _ _ _ _ _ _ (pt_cmpR op_eq (@pi1 K _ _ _ _ _ _ _ rfl (pv 1)) pe_str (nomark _)) (@fA _ _ _ _ _ _ _ (pt_cmpR op_eq (pv 2) pe_int (nomark _)) (@eP _ _ _ _ (pt_cmpR sU (7,KB,K5,@pa1 _ _ _ (pv 1) (0)) pe_int (nomark _)))))) (3,(4,(8,@pa2 _ _ _ _ _ pe_str pe_int (0) (0)))) pss_nil,(5,@ps_if _ _ _ _ _ _ _ _ (pt_cmpR op_eq (@pi1 K _ _ _ _ _ _ _ rfl (pv 1)) pe_str (nomark _)) (3,(4,@pe_ix _ _ _ _ _ _ _ (aL (K:=K) rfl) (@aB _ _ _ _ (9,(8,@pa1 _ _ _ pe_str (0)),(8,@pa2 _ _ _ _ _ pe_str (@pe_op _ _ _ _ _ _ _ _ bg pe_int (pcl J7 J8 (hr.mono (by lia)) rfl (@pa2 _ _ _ _ _ (pv 0) pe_int (0) (0)))) (0) (0)))) (@pe_op _ _ _ _ _ _ _ _ cn (@pe_op _ _ _ _ _ _ _ _ aQ (pv 2) pe_int) pe_int) (λ_ _=>rfl))) pss_nil,(5,@ps_set _ _ 4 _ _ _ _ bu.nd rfl (Or.inl rfl) (pe_callTy (bD (K:=K) rfl) rfl T.z_tuple boot_tuple (@pa1 _ _ _ (aG rfl (csR (sc:=aa bI) (NL:=["word"]) (N:=["row","kind","way","low","forth"]) (ρ:=[0]) (N':=["word","row"]) rfl rfl rfl (by decide +kernel) (by decide +kernel) (by decide +kernel) rfl (by decide +kernel)) (aM (K:=K) rfl (@pi1 K _ _ _ _ _ _ _ rfl (pv 1))) (λ_ _ _ _=>(ai (i:=0) (show List.Nodup (α:=Str) ["word","row"] by decide +kernel) rfl (Or.inl rfl))) (λ_ _ _ _=>(@pe_ix _ _ _ _ _ _ _ (aL (K:=K) rfl) (@aB _ _ _ _ (@pa2 _ _ _ _ _ pe_str pe_str (0) (0))) (pcl J7 J8 (hr.mono (by lia)) rfl (@pa2 _ _ _ _ _ (pv 1) pe_int (0) (0))) (λ_ _=>rfl)))) (0))) (0) (.inl rfl),(5,@ps_if _ _ _ _ _ _ _ _ (PW.pt (@fA _ _ _ _ _ _ _ (pt_cmpR (op_in_seqK (K:=K) rfl) pe_str (pv 4) rfl) (@eP _ _ _ _ (pt_cmpR (op_in_seqK (K:=K) rfl) pe_str (pv 4) rfl)))) (3,(4,(8,@pa3 _ _ _ _ _ _ _ pe_str (pv 4) (8,(9,(8,@pa2 _ _ _ _ _ pe_str (@pe_ix _ _ _ _ _ _ _ (ix_tupPN (K:=K) rfl) (@pi1 K _ _ _ _ _ _ _ rfl (pv 1)) (ur PySem.F.plainAttrs_tuple PySem.F.slot_tuple_index PySem.F.type_tuple_index fE (pv 4) (@pa1 _ _ _ pe_str (0))) (λ_ _=>rfl)) (0) (0)),(8,@pa2 _ _ _ _ _ pe_str (@pe_ix _ _ _ _ _ _ _ (ix_tupPN (K:=K) rfl) (@pi1 K _ _ _ _ _ _ _ rfl (pv 1)) (ur PySem.F.plainAttrs_tuple PySem.F.slot_tuple_index PySem.F.type_tuple_index fE (pv 4) (@pa1 _ _ _ pe_str (0))) (λ_ _=>rfl)) (0) (0)))) (0) (0) (0)))) pss_nil,(3,(4,(8,@pa2 _ _ _ _ _ pe_str pe_int (0) (0))))))))))),?_⟩;refine ⟨_,rfl,r,c,_,rfl,hr0,(1),(1),λway n1 H1 w0 w1 B1 R1=>?_⟩;dsimp only [dX];have hd1:=hd.but hr0 B1;have ret:∀ {ts:List Dt} {xs:List V} {n2:Int} {H2:Hp},But r H H2->H2 r=some (.lst [.int n2])->IsPs K H2 ts xs->xs.length<=1000->NxL (.tup ts) d->ITup K xs H2 Q:=λ{ts xs n2 H2} B R is l nx=>⟨ts,is,small l,λv H' g hv=>q _ v n2 H' (B.trans (But.same g)) (g _ _ R) hv nx⟩
 cases sk with
 | number i j h1 h2 h3 =>
  have ni:bq i:=⟨h1,by lia⟩;have nj:bq j:=⟨by lia,h3⟩;refine ⟨_,rfl,_,_,_,hd1,rfl,at0 _ _,λv hv=>?_⟩;obtain rfl:=ao hv;refine ⟨rfl,_,rfl,aC ⟨_,rfl,_,_,rfl,rfl,_,rfl,aE (λc=>?_) λc2=>?_⟩⟩
  ·refine ⟨sz2,λp hp=>?_⟩;have np:p≠r:=λc=>by rw [c,R1] at hp;cases hp
   obtain ⟨v,hv,ev⟩:=pK (xs:=[V.str "parts",V.str "rest"]) w0 (by show way < 2;lia);refine ⟨_,rfl,p,_,_,_,rfl,rfl,SqL.of ac,ev,(by show 4<=sizeLine;decide),λp2 hp2=>?_⟩;have np2:p2≠r:=λc=>by rw [c,ag np.symm,R1] at hp2;cases hp2
   refine ⟨_,rfl,r,n1,_,rfl,(by rw [ag np2.symm,ag np.symm];exact R1),(1),(1),λdg n2 H2 g0 g1 B2 R2=>?_⟩;obtain ⟨k,mk,ek⟩:=qG (ns:=[2,3,10,1000]) g0 g1;obtain ⟨k1,k2⟩:=Js k mk;refine ⟨p2,_,_,_,rfl,rfl,SqL.of (B2 _ _ np2 ac),ek,?_⟩;have B:But r H H2:=((B1.trans (But.same (af hp _))).trans (But.same (af hp2 _))).trans B2;rcases aAm.mp hv with rfl | hv
   ·exact ret B R2 (.cons .str (.cons .int .nil)) (by simp) ⟨rfl,_,1,.parts k i j k1 k2,.number _ _ (oj k1 h1 (by lia)).1 (aBH (by lia) h2) (oj k1 (by lia) h3).2,(1)⟩
   ·obtain rfl:=aAA.mp hv;exact ret B R2 (.cons .str (.cons .int .nil)) (by simp) ⟨rfl,_,1,.rest k i j k1 k2,.number _ _ (1) (by lia) (by lia),(1)⟩
  dsimp only [mE];refine cE λk hk=>?_;have rest:k [some (.ref r),some y,some (.int way),none,none] H1:=by
   refine hk _ _ ⟨_,rfl,rfl,_,rfl,aE (λc=>?_) λc3=>?_⟩
   ·exact ret B1 R1 (.cons .str (.cons .int .nil)) (by simp) (b7 rfl (.figures i j 40 ni nj (BH ni nj) (1) (1)) (.text 40 (1) (1)) (1))
   ·refine ⟨_,rfl,r,n1,_,rfl,R1,(1),(1),λlo n2 H2 g0 g1 B2 R2=>⟨_,_,rfl,rfl,?_⟩⟩;refine ⟨_,rfl,_,rfl,_,rfl,r,n2,_,rfl,R2,(1),(1),λup n3 H3 u0 u1 B3 R3=>⟨_,_,rfl,rfl,?_⟩⟩;exact ret ((B1.trans B2).trans B3) R3 (.cons .str (.cons .int (.cons .int .nil))) (by simp) (b7 rfl (.bounds i j _ _ ⟨by lia,by lia⟩ (by lia) ⟨by lia,by lia⟩) (.number _ _ (by lia) (by lia) (by lia)) (1))
  refine ⟨_,rfl,rfl,_,rfl,aE (λc=>?_) λ_=>rest⟩;refine ⟨_,rfl,_,_,_,hd1,rfl,rfl,isI ?_⟩;refine ⟨_,rfl,_,rfl,_,_,_,hd1,rfl,rfl,isI ?_⟩;refine ⟨j,rfl,_,_,rfl,_,_,rfl,rfl,⟨by decide,(1),(1)⟩,_,_,rfl,rfl,_,rfl,aE (λc4=>?_) λ_=>rest⟩;rw [show (10:Int) ^ (26:Int).toNat=100000000000000000000000000 by decide +kernel] at c4;have i10:bq (i*10)/\bq (j*10):=by
   unfold bq
   split at c4 <;> split at c4 <;> split at c4 <;> lia
  exact ret B1 R1 (.cons .str (.cons .int .nil)) (by simp) (b7 rfl (.scale i j 10 (1) (1) i10.1 i10.2) (.number _ _ i10.1.1 (by lia) i10.2.2) (1))
 | text m h1 h2 =>
  refine ⟨_,rfl,_,_,_,hd1,rfl,at0 _ _,isS ?_⟩;refine ⟨rfl,_,rfl,iteN (ae (1)) ?_⟩;refine ⟨_,rfl,_,_,_,hd1,rfl,at0 _ _,λv hv=>?_⟩;obtain rfl:=ao hv;refine ⟨rfl,_,rfl,aC ⟨_,rfl,rfl,_,rfl,aE (λc=>?_) λc=>?_⟩⟩
  ·exact ⟨_,rfl,r,n1,_,rfl,R1,(1),(1),λdg n2 H2 g0 g1 B2 R2=>ret (B1.trans B2) R2 (.cons .str (.cons .int .nil)) (by simp) (b7 rfl (.cut m dg g0 (by lia)) (.text dg g0 (by lia)) (1))⟩
  refine ⟨sz2,λp hp=>?_⟩;have np:p≠r:=λc=>by rw [c,R1] at hp;cases hp
  obtain ⟨v,hv,ev⟩:=pK (xs:=[V.str "ahead",V.str "behind"]) (d:=way % 2) (by lia) (by show way % 2 < 2;lia);refine ⟨_,rfl,_,_,rfl,rfl,(1),p,_,_,_,rfl,rfl,SqL.of ac,ev,?_⟩;refine ⟨_,rfl,r,n1,_,rfl,(by rw [ag np.symm];exact R1),(1),(1),λdg n2 H2 g0 g1 B2 R2=>?_⟩;obtain ⟨ch,hm,hc⟩:=xu (z:=Str.ofString "-| a") g0 g1;obtain ⟨s1,s2⟩:=wJ ch hm;refine ⟨_,_,_,rfl,rfl,(by decide +kernel),hc,?_⟩;have B:But r H H2:=(B1.trans (But.same (af hp _))).trans B2;rcases aAm.mp hv with rfl | hv
  ·exact ret B R2 (.cons .str (.cons .str .nil)) (by simp) ⟨rfl,_,1,.half _ _ m (.inl rfl) s1,.text m h1 h2,(1)⟩
  ·obtain rfl:=aAA.mp hv;exact ret B R2 (.cons .str (.cons .str .nil)) (by simp) ⟨rfl,_,1,.half _ _ m (.inr rfl) s1,.text m h1 h2,(1)⟩
 | @list a' k m g h1 h2 =>
  refine ⟨_,rfl,_,_,_,hd1,rfl,at0 _ _,isS ?_⟩;refine ⟨rfl,_,rfl,iteN (ae (1)) ?_⟩;refine ⟨_,rfl,_,_,_,hd1,rfl,at0 _ _,isS ?_⟩;refine ⟨rfl,_,rfl,iteN (ae (1)) ?_⟩;dsimp only [mE];refine cE λk' hk=>?_;have rest:k' [some (.ref r),some y,some (.int way),none,none] H1:=by
   refine hk _ _ ⟨_,rfl,_,_,_,hd1,rfl,at0 _ _,λv hv=>?_⟩;obtain rfl:=ao hv;refine ⟨rfl,_,rfl,aC ⟨[.str "out"],.cons .str .nil,sz1,λv1 H2 g2 hv1=>?_⟩⟩;refine ⟨_,rfl,r,n1,_,rfl,g2 _ _ R1,(1),(1),λdg n3 H3 g0 g1 B3 R3=>⟨_,_,rfl,rfl,[.str "first",.int (1+dg)],.cons .str (.cons .int .nil),sz2,λv4 H4 g4 hv4=>?_⟩⟩;refine ⟨sz2,λp hp=>?_⟩;obtain ⟨v,hv,ev⟩:=pK (xs:=[v1,v4]) (d:=way / 2 % 2) (by lia) (by show way / 2 % 2 < 2;lia);refine ⟨_,rfl,_,_,rfl,rfl,⟨by decide,(1)⟩,_,_,rfl,rfl,(1),p,_,_,_,rfl,rfl,SqL.of ac,ev,?_⟩;have g5:=af hp (.lst [v1,v4]);have B:But r H (upd H4 p (.lst [v1,v4])):=(((B1.trans (But.same g2)).trans B3).trans (But.same g4)).trans (But.same g5);have R:=g5 _ _ (g4 _ _ R3);rcases aAm.mp hv with rfl | hv
   ·exact q _ _ n3 _ B R (((hv1.but (g2 _ _ R1) B3).same g4).same g5) (b7 rfl (.out k m h1) g (by lia))
   ·obtain rfl:=aAA.mp hv;exact q _ _ n3 _ B R (hv4.same g5) (b7 rfl (.firstL k m _ (by lia) (by lia)) (.list g (by lia) (by lia)) a5)
  refine ⟨_,rfl,_,_,_,hd1,rfl,at0 _ _,isS ?_⟩;refine ⟨rfl,_,rfl,aC ⟨_,rfl,rfl,_,rfl,aE (λc=>?_) λ_=>rest⟩⟩;refine ⟨_,rfl,a' + 1,_,y,a5,rfl,hd1,.list g h1 h2,_,_,rfl,rfl,_,rfl,aE (λc=>?_) λ_=>rest⟩;exact ret B1 R1 (.cons .str (.cons .int .nil)) (by simp) (b7 rfl (.one _ 2 (1) (1)) (.list (.list g h1 h2) (1) (1)) (by lia))
 | choice ws hw =>
  obtain ⟨w1',w8⟩:=vd hw;refine ⟨_,rfl,_,_,_,hd1,rfl,at0 _ _,isS ?_⟩;refine ⟨rfl,_,rfl,iteN (ae (1)) ?_⟩;refine ⟨_,rfl,_,_,_,hd1,rfl,at0 _ _,isS ?_⟩;refine ⟨rfl,_,rfl,iteN (ae (1)) ?_⟩;refine ⟨_,rfl,_,_,_,hd1,rfl,at0 _ _,isS ?_⟩;refine ⟨rfl,_,rfl,iteN (ae (1)) ?_⟩;refine ⟨_,rfl,_,_,_,hd1,rfl,at0 _ _,λv hv=>?_⟩;obtain rfl:=ao hv;refine ⟨rfl,_,rfl,iteN (ae (1)) ?_⟩;refine ⟨_,rfl,_,_,_,hd1,rfl,rfl,λv1 hv1=>?_⟩;obtain ⟨b,xs,rfl,hb,_,rb⟩:=id hv1.unref;obtain rfl:=aN rb;refine ⟨b,rfl,⟨_,hb⟩,λl hl=>?_⟩;have nl:l≠r:=λc=>by rw [c,R1] at hl;cases hl
  refine aR (K:=K) (xs:=ws.map V.str) (λi zs σ H'=>∃ (fs:List Str) (c':Int),But r H1 H'/\H' r=some (.lst [.int c'])/\H' l=some (.lst zs)/\zs=fs.map V.str/\fs.length=i/\(∀ f∈fs,f= "x" \/f= "y")/\∃ v1,σ=[v1,some (.ref r)]) ⟨[],n1,But.same (af hl _),(by rw [ag nl.symm];exact R1),ac,rfl,rfl,(λ_ h=>nomatch h),_,rfl⟩ (λi zs σ H' _ p=>by obtain ⟨_,_,B,_⟩:=p;exact wL hv1 R1 B) ?_ ?_
  ·rintro i y' zs σ H2 N hy ⟨fs,c2,B2,R2,L2',rfl,le,hf,v2,rfl⟩ next;have il:i < ws.length:=by have:=(aAc.mp hy).1;rwa [aAe] at this
   refine ⟨sz2,λp hp=>?_⟩;have np:p≠r:=λc=>by rw [c,R2] at hp;cases hp
   refine ⟨_,rfl,r,c2,_,rfl,(by rw [ag np.symm];exact R2),(1),(1),λdg n3 H3 g0 g1 B3 R3=>?_⟩;obtain ⟨v,hv,ev⟩:=pK (xs:=[V.str "x",V.str "y"]) g0 g1;obtain ⟨z,rfl,hz⟩:∃ z,v=V.str z/\(z= "x" \/z= "y"):=by
    rcases aAm.mp hv with rfl | hv
    ·exact ⟨_,rfl,.inl rfl⟩
    ·exact ⟨_,aAA.mp hv,.inr rfl⟩
   have L3:=B3 _ _ nl (af hp (.lst [V.str "x",V.str "y"]) _ _ L2');refine ⟨p,_,_,_,rfl,rfl,SqL.of (B3 _ _ np ac),ev,L3,(by rw [aAe];exact am (by lia)),next _ _ _ ⟨fs++[z],n3,wK ((B2.trans (But.same (af hp _))).trans B3) hl,(by rw [ag nl.symm];exact R3),ac,(by rw [aA4];rfl),(by rw [aAt,le];rfl),λf h=>?_,_,rfl⟩⟩;rcases aA9.mp h with h | h
   ·exact hf f h
   ·rw [aAA.mp h];exact hz
  rintro zs σ H2 ⟨fs,c2,B2,R2,L2',rfl,le,hf,v2,rfl⟩;rw [aAe] at le;refine ⟨l,_,fs.map Dt.str,rfl,SqL.of L2',qU fs,λvf H3 g3 hvf=>?_⟩;dsimp only [dX];have B3:But r H H3:=(B1.trans B2).trans (But.same g3);have R3:=g3 _ _ R2;have hd3:=hd.but hr0 B3;obtain ⟨bf,xf,rfl,hbf,_,rf⟩:=id hvf.unref;obtain rfl:=aN rf;have one:ITup K [V.str "one",V.int 1] H3 Q:=ret B3 R3 (.cons .str (.cons .int .nil)) (by simp) (b7 rfl (.one _ 1 (1) (1)) (.list (.choice ws hw) (1) (1)) (1));refine ⟨_,rfl,bf,_,rfl,.inr hbf,rfl,ol _,_,rfl,?_⟩;rw [jv];refine aE (λcx=>?_) λ_=>one;refine ⟨_,rfl,bf,_,rfl,.inr hbf,rfl,ol _,_,rfl,?_⟩;rw [jv];refine aE (λcy=>?_) λ_=>one;obtain ⟨jx,fx,mx⟩:=jw cx;obtain ⟨jy,fy,my⟩:=jw cy;have lx:=(aAc.mp fx).1;have ly:=(aAc.mp fy).1;have ex:ws[jx]?=some ws[jx]:=aAi (by lia);have ey:ws[jy]?=some ws[jy]:=aAi (by lia);refine ⟨_,rfl,_,rfl,_,_,_,hd3,rfl,rfl,λv2 hv2=>?_⟩;refine ⟨_,rfl,⟨rfl,_,hvf⟩,fs,"x",jx,rfl,hvf,fx,mx,by lia,_,_,_,hv2,rfl,(by have:=at_strD ex;rwa [aBy] at this),λv3 hv3=>?_⟩;refine ⟨[.str "x",.str ws[jx]],.cons .str (.cons hv3 .nil),sz2,λv4 H4 g4 hv4=>?_⟩;refine ⟨_,rfl,_,_,_,hd3.same g4,rfl,rfl,λv5 hv5=>?_⟩;refine ⟨_,rfl,⟨rfl,_,hvf.same g4⟩,fs,"y",jy,rfl,hvf.same g4,fy,my,by lia,_,_,_,hv5,rfl,(by have:=at_strD ey;rwa [aBy] at this),λv6 hv6=>?_⟩;refine ⟨[.str "y",.str ws[jy]],.cons .str (.cons hv6 .nil),sz2,λv7 H7 g7 hv7=>?_⟩;refine ⟨[.tup [.str "x",.str ws[jx]],.tup [.str "y",.str ws[jy]]],.cons (hv4.same g7) (.cons hv7 .nil),sz2,λv8 H8 g8 hv8=>?_⟩;have gg:=(g4.trans g7).trans g8;refine ret (B3.trans (But.same gg)) (gg _ _ R3) (.cons .str (.cons (hvf.same gg) (.cons hv8 .nil))) (by simp) (b7 ?_ (.words fs [("x",ws[jx]),("y",ws[jy])] ws (BI le hf fx fy ex ey)) (.choice ["x","y"] (by decide +kernel)) (1));have okw:∀ z∈ws,okD (.str z)=true:=λz hz=>ay (l:=ws.map Dt.str) (ay (l:=[.str "choice",.tup (ws.map Dt.str)]) (xp (.choice ws hw)) (.tup (ws.map Dt.str)) (by simp)) _ (List.mem_map_of_mem hz);have o1:eh (fs.map Dt.str)=true:=jf λd hd=>by
   obtain ⟨f,hf',rfl⟩:=aAO.mp hd;rcases hf f hf' with rfl | rfl <;> decide +kernel
  show (true && (eh (fs.map Dt.str) && (((okD (.str "x") && (okD (.str ws[jx]) && true)) && ((okD (.str "y") && (okD (.str ws[jy]) && true)) && true)) && true)))=true;rw [o1,okw _ (aBg _),okw _ (aBg _)]
  decide +kernel
def sG (K:W.Frag) (_:Ads):Sp:=λvs H Q _=>∃ (a c:Nat) (t d e v u:Dt) (x y z:V),a<=5/\Fit e/\vs=[x,y,z]/\IsP K H t x/\IsP K H d y/\IsP K H v z/\okD t=true/\FK a c d/\GT t d e/\TV 5 t d v u/\∀ b H',Same H H'->IsP K H' u b->Q b H'
theorem sH (T:Tx K mg ad) {f:Addr} {fd:FuncData} (F:Gn K mg "turned" jC ["turn","kind","value"] f fd):FnOk P w K mg base CX0 24 f fd ["turn","kind","value"] (sG K ad):=by
 obtain ⟨_,_,Ka⟩:=T.kind_behind;have Ko:=cC (P:=P) (w:=w) (base:=base) T Ka;obtain ⟨_,_,Kg⟩:=T.led_value;have Kv:=jt (P:=P) (w:=w) (base:=base) T Kg 5;refine F.F.ok sI (λvs H Q E h=>?_) (λcdv A outer s H vs Q E hr h=>?_)
 ·obtain ⟨a,c,t,d,e,v,u,x,y,z,_,_,rfl,_⟩:=h
  rfl
 obtain ⟨a,c,t,d,e,v,u,x,y,z,ha,he,rfl,ht,hd,hv,ok,fk,g,tv,q⟩:=h;refine ⟨_,(5,@qk _ _ _ _ (pe_call Ko (hr.mono (by first | decide | lia)) rfl Ka.m Ka.F.kp Ka.b .nil uy (10,pv 1)) (0),(3,(4,(7,Kg,Kv,(11,pv 0,pv 1,pv 2))))),?_⟩;refine ⟨_,rfl,_,rfl,a,c,t,d,x,y,ha,rfl,ht,hd,ok,fk,.inl ⟨e,he,g,λv1 H1 g1 _=>?_⟩⟩;exact ⟨_,rfl,_,rfl,_,rfl,t,d,v,u,x,y,z,rfl,ht.same g1,hd.same g1,hv.same g1,tv,λb H2 g2 hb=>q b H2 (g1.trans g2) hb⟩
open PySem.Builtin.Str in
theorem md {n:Nat} {i:Int} (h:(n:Int)<=i):strSliceIndices (some i) none 1 n=strSliceIndices (some (n:Int)) none 1 n:=by
 have h0:¬ i < 0:=by lia
 have h1:¬ ((n:Int) < 0):=by lia
 have h2:(1:Int) > 0:=(1)
 simp only [strSliceIndices,h0,h1,h2,if_false,if_true,Int.min_eq_right h,Int.min_self]
theorem fI (z:Str) {i:Int} (h:0<=i):(Txt.slice z (some i) none).cps.toList=z.cps.toList.drop i.toNat:=by
 have hl:=bF z;have base:∀ {j:Int},0<=j->j<=z.length->(Txt.slice z (some j) none).cps.toList=z.cps.toList.drop j.toNat:=λ{j} h0 h1=>by
  have e:=eq_of_beq (slice_closes_fromL (x:=z) (i:=j) h0 h1 rfl);rw [e];show ((z.cps.toList.drop j.toNat).take ((z.length:Int) - j).toNat)=_;rw [aAK (by rw [aA7];lia)]
 by_cases h1:i<=z.length
 ·exact base h h1
 ·have e2:Txt.slice z (some i) none=Txt.slice z (some (z.length:Int)) none:=by
   unfold Txt.slice;rw [md (by lia)]
  rw [e2,base (by lia) (aBp _),aAJ (by lia),aAJ (by lia)]
def whereN (y:Str) (c:Nat):Nat:=y.cps.toList.findIdx (· == c)
theorem fX {a b:Str} (h:a.cps.toList=b.cps.toList):a=b:=by
 obtain ⟨a⟩:=a;obtain ⟨b⟩:=b;exact congrArg Str.mk (Array.toList_inj.mp h)
theorem jz (y:Str) (c:Nat):bW y ⟨#[c]⟩=(Txt.slice y none (some (whereN y c:Int)),Txt.slice y (some ((whereN y c:Int)+1)) none):=by
 have hl:=bF y;unfold bW;rw [PySem.StrLaws.occ_one y c 0,aBM]
 cases q:y.cps.toList.findIdx? (· == c) with
 | none =>
  have e:whereN y c=y.cps.toList.length:=List.findIdx?_eq_none_iff_findIdx_eq.mp q;refine Prod.ext (fX ?_) (fX ?_)
  ·rw [dF y (by lia)];rw [e,aAK (by lia)]
  ·rw [fI y (by lia),aAJ (by lia)]
   rfl
 | some i =>
  obtain ⟨h1,h2⟩:=List.findIdx?_eq_some_iff_findIdx_eq.mp q;have e:whereN y c=i:=h2;refine Prod.ext (fX ?_) (fX ?_)
  ·rw [dF y (by lia)];simp [Builtin.Str.strSub,e]
  ·rw [fI y (by lia)];simp [Builtin.Str.strSub,e,Str.length];exact aAK (by rw [aA7,hl];exact aAf _)
theorem BJ {z:Str} (h:gr z=true):∃ c,z=⟨#[c]⟩:=by
 obtain ⟨⟨cs⟩⟩:=z
 match cs,h with
 | [c],_=>exact ⟨c,rfl⟩
inductive LBV:Dt->Dt->Dt->Dt->Dt->Prop
 | ahead (c:Nat) (y:Str) (m:Int):gr ⟨#[c]⟩=true->y.length<=60->LBV (.tup [.str "ahead",.str ⟨#[c]⟩]) (.tup [.str "text",.int m]) (.tup [.str "text",.int m]) (.str y) (.str (bW y ⟨#[c]⟩).1)
 | behind (c:Nat) (y:Str) (m:Int):gr ⟨#[c]⟩=true->y.length<=60->LBV (.tup [.str "behind",.str ⟨#[c]⟩]) (.tup [.str "text",.int m]) (.tup [.str "text",.int m]) (.str y) (.str (bW y ⟨#[c]⟩).2)
 | parts (k i j x:Int):2<=k->k<=1000->LBV (.tup [.str "parts",.int k]) (b6 i j) (b6 (i / k) (j / k)) (.int x) (.int (x / k))
 | rest (k i j x:Int):2<=k->k<=1000->LBV (.tup [.str "rest",.int k]) (b6 i j) (b6 0 (k - 1)) (.int x) (.int (x % k))
 | turn {t d e v u:Dt}:GT t d e->TV 5 t d v u->LBV t d e v u
theorem LBV.lb {t d e v u:Dt} (h:LBV t d e v u):LB t d e:=by
 cases h with
 | ahead c y m h=>exact .half _ _ m (.inl rfl) h
 | behind c y m h=>exact .half _ _ m (.inr rfl) h
 | parts k i j x h1 h2=>exact .parts k i j h1 h2
 | rest k i j x h1 h2=>exact .rest k i j h1 h2
 | turn g _=>exact .turn g
theorem LBV.lv {t d e v u:Dt} (h:LBV t d e v u):LV t d v u:=by
 cases h with
 | ahead c y m h h2=>exact .ahead _ _ m h h2
 | behind c y m h h2=>exact .behind _ _ m h h2
 | parts k i j x h1 h2=>exact .parts k i j x h1 h2
 | rest k i j x h1 h2=>exact .rest k i j x h1 h2
 | turn g tv=>exact .turn g tv
theorem Jt {t d e v:Dt} {a:Nat} (h:LB t d e) (sk:SK a d) (a5:a<=5) (fv:FV d v):∃ u,FV e u/\LBV t d e v u:=by
 cases h with
 | half w z m hw hz =>
  obtain ⟨y,rfl,y1,y2⟩:=iT fv m rfl;have hm:m<=60:=by
   cases sk with
   | text i h1 h2=>exact h2
  obtain ⟨c,rfl⟩:=BJ hz;have ep:=jz y c;have hl:=bF y;have f1:FV (.tup [.str "text",.int m]) (.str (bW y ⟨#[c]⟩).1):=by
   rw [ep];have es:=dF y (i:=(whereN y c:Int)) (by lia);refine .text ?_ λc hc=>?_
   ·rw [<- bF,es,aAB];lia
   ·rw [es] at hc;exact y2 c (aBx hc)
  have f2:FV (.tup [.str "text",.int m]) (.str (bW y ⟨#[c]⟩).2):=by
   rw [ep];have es:=fI y (i:=(whereN y c:Int)+1) (by lia);refine .text ?_ λc hc=>?_
   ·rw [<- bF,es,aA7];lia
   ·rw [es] at hc;exact y2 c (List.mem_of_mem_drop hc)
  rcases hw with rfl | rfl
  ·exact ⟨_,f1,.ahead c y m hz (by lia)⟩
  ·exact ⟨_,f2,.behind c y m hz (by lia)⟩
 | parts k i j h1 h2 =>
  obtain ⟨x,rfl,x1,x2⟩:=fH fv i j rfl;exact ⟨_,.number (aBH (by lia) x1) (aBH (by lia) x2),.parts k i j x h1 h2⟩
 | rest k i j h1 h2 =>
  obtain ⟨x,rfl,x1,x2⟩:=fH fv i j rfl;obtain ⟨r1,r2⟩:=mod_lt x (m:=k) (by lia);exact ⟨_,.number r1 (by lia),.rest k i j x h1 h2⟩
 | turn g =>
  obtain ⟨u,fu,tv⟩:=Jq g 5 sk.fk a5 (aAf 5) v fv;exact ⟨u,fu,.turn g tv⟩
theorem wM {x k:Int} (h:2<=k):0 - (0 - x+k - 1) / k=x / k:=by
 have e1:=aBN x k;have r0:=aBv x (show k≠0 by lia);have r1:=aBk x (show 0 < k by lia);have:(0 - x+k - 1) / k=0 - x / k:=by
  rw [Int.ediv_eq_iff_of_pos (by lia)];have e2:(0 - x / k)*k=- (k*(x / k)):=by rw [Int.zero_sub,Int.neg_mul,Int.mul_comm]
  have e3:(0 - x / k+1)*k=- (k*(x / k))+k:=by rw [Int.add_mul,e2,Int.one_mul]
  constructor
  ·rw [e2];lia
  ·first | (rw [e3];lia) | (rw [Int.add_mul,e2,Int.one_mul];lia) | lia
 lia
def om (K:W.Frag) (_:Ads):Sp:=λvs H Q _=>∃ (a:Nat) (t d e v u:Dt) (x y z:V),vs=[x,y,z]/\IsP K H t x/\IsP K H d y/\IsP K H v z/\okD t=true/\SK a d/\a<=5/\Fit e/\LBV t d e v u/\∀ b H',Same H H'->IsP K H' (.tup [e,u]) b->Q b H'
theorem pU {y:Str} {c i:Nat} {x:Nat} (h:y.cps.toList[i]?=some x):(x=c->whereN y c<=i)/\(whereN y c=i->x=c):=by
 obtain ⟨hi,e⟩:=aAc.mp h;refine ⟨λhx=>?_,λhw=>?_⟩
 ·refine aBG λhn=>?_;have:=List.not_of_lt_findIdx (p:=(· == c)) hn;rw [e,hx] at this;simp at this
 ·have hw':y.cps.toList.findIdx (· == c)=i:=hw;have hlt:y.cps.toList.findIdx (· == c) < y.cps.toList.length:=by lia
  have:=List.findIdx_getElem (w:=hlt);simp only [hw',e] at this
  simpa using this
theorem ve (y:Str) (c:Nat):whereN y c<=y.length:=by
 have:=bF y;have:y.cps.toList.findIdx (· == c)<=y.cps.toList.length:=List.findIdx_le_length;unfold whereN;lia
theorem wN {w:Str} (h1:w≠ "ahead") (h2:w≠ "behind"):inV (V.str w) [V.str "ahead",V.str "behind"]=false:=by
 have:=jv w ["ahead","behind"];rw [show [V.str "ahead",V.str "behind"]=List.map V.str ["ahead","behind"] from rfl,this];simp [h1,h2]
theorem oq (T:Tx K mg ad) {f:Addr} {fd:FuncData} (F:Gn K mg "_law_next" fN ["look","kind","value"] f fd):FnOk P w K mg base CX0 26 f fd ["look","kind","value"] (om K ad):=by
 obtain ⟨f1,d1,Ka⟩:=T.kind_behind;have Ko:=cC (P:=P) (w:=w) (base:=base) T Ka;obtain ⟨f2,d2,LK⟩:=T.turned;have Me:=sH (P:=P) (w:=w) (base:=base) T LK;refine F.F.ok bB (λvs H Q E h=>?_) (λcdv A outer s H vs Q E hr h=>?_)
 ·obtain ⟨a,t,d,e,v,u,x,y,z,rfl,_⟩:=h
  rfl
 obtain ⟨a,t,d,e,v,u,x,y,z,rfl,ht,hd,hv,okt,sk,a5,fe,lv,q⟩:=h;refine ⟨_,(@pss_cons _ _ _ _ _ (@ps_set _ _ 3 _ _ _ _ bB.nd rfl (Or.inl rfl) (6) (0) (.inl rfl)) (@pss_cons _ _ _ _ _ (@ps_if _ _ _ _ _ _ _ _ (pt_cmpR (op_in_seqK (K:=K) rfl) (pv 3) (8,@pa2 _ _ _ _ _ pe_str pe_str (0) (0)) rfl) (@pss_cons _ _ _ _ _ (@ps_set _ _ 4 _ _ _ _ bB.nd rfl (Or.inl rfl) (pe_callB call_len_str rfl T.z_len PySem.boot_len (@pa1 _ _ _ (pv 2) (0))) (0) (.inl rfl)) (@pss_cons _ _ _ _ _ (dm PassesOwn.never rfl (cg rfl T.z_range (@pa1 _ _ _ (pe_callB call_len_str rfl T.z_len PySem.boot_len (@pa1 _ _ _ (pv 2) (0))) (0))) (ai (i:=5) bB.nd rfl (Or.inl rfl))
    (3,@ps_if _ _ _ _ _ _ _ _ (PW.pt (@fA _ _ _ _ _ _ _ (pt_cmpR op_eq (@pe_ix _ _ _ _ _ _ _ oK (pv 2) (pv 5) (λ_ _=>rfl)) (6) (nomark _)) (@eP _ _ _ _ (pt_cmpR op_eq (pv 4) (pe_callB call_len_str rfl T.z_len PySem.boot_len (@pa1 _ _ _ (pv 2) (0))) (nomark _))))) (3,@ps_set _ _ 4 _ _ _ _ bB.nd rfl (Or.inl rfl) (pv 5) (0) (.inl rfl)) pss_nil)) (3,(4,(8,(9,pv 1,@pe_ix _ _ _ _ _ _ _ (aL (K:=K) rfl) (@aB _ _ _ _ (9,cu oW (pv 2) dr (du (pv 4)),cu oW (pv 2) (du (@pe_op _ _ _ _ _ _ _ _ bg (pv 4) pe_int)) dr)) (pe_callTy rm rfl T.z_int boot_int (@pa1 _ _ _ (pe_cmpR op_eq (pv 3) pe_str (nomark _)) (0))) (λ_ _=>rfl))))))) pss_nil) (5,@ps_if _ _ _ _ _ _ _ _ (pt_cmpR op_eq (pv 3) pe_str (nomark _)) (5,@ps_set _ _ 6 _ _ _ _ bB.nd rfl (Or.inl rfl) (@pe_op _ _ _ _ _ _ _ _ op_sub pe_int (@pe_op _ _ _ _ _ _ _ _ aQ (@pe_op _ _ _ _ _ _ _ _ op_sub (@pe_op _ _ _ _ _ _ _ _ bg (@pe_op _ _ _ _ _ _ _ _ op_sub pe_int (pv 2)) (6)) pe_int) (6))) (0) (.inl rfl),(3,(4,(8,(9,(8,@pa3 _ _ _ _ _ _ _ pe_str (@pe_op _ _ _ _ _ _ _ _ aQ (@pi1 K _ _ _ _ _ _ _ rfl (pv 1)) (6)) (@pe_op _ _ _ _ _ _ _ _ aQ (@pi1 K _ _ _ _ _ _ _ rfl (pv 1)) (6)) (0) (0) (0)),pv 6))))) pss_nil,(5,@ps_if _ _ _ _ _ _ _ _ (pt_cmpR op_eq (pv 3) pe_str (nomark _)) (3,(4,(8,(9,(8,@pa3 _ _ _ _ _ _ _ pe_str pe_int (@pe_op _ _ _ _ _ _ _ _ op_sub (6) pe_int) (0) (0) (0)),@pe_op _ _ _ _ _ _ _ _ op_sub (pv 2) (@pe_op _ _ _ _ _ _ _ _ cS (@pe_op _ _ _ _ _ _ _ _ aQ (pv 2) (6)) (6)))))) pss_nil,(3,(4,(8,(9,pe_call Ko (hr.mono (by first | decide | lia)) rfl Ka.m Ka.F.kp Ka.b .nil uy (10,pv 1),(7,LK,Me,(11,pv 0,pv 1,pv 2)))))))))),?_⟩
 obtain ⟨w0,lw,et⟩:∃ w l,t=.tup (.str w :: l):=by
  cases lv with
  | turn g _=>obtain ⟨w,l,rfl,_⟩:=g.word;exact ⟨w,l,rfl⟩
  | _=>exact ⟨_,_,rfl⟩
 have ht0:IsP K H (.tup (.str w0 :: lw)) x:=et ▸ ht;refine ⟨_,rfl,_,_,_,ht0,rfl,at0 _ _,λv1 hv1=>?_⟩;obtain rfl:=ao hv1;refine ⟨_,rfl,[.str "ahead",.str "behind"],.cons .str (.cons .str .nil),sz2,λvt H1 g1 hvt=>?_⟩;obtain ⟨bt,xt,rfl,hbt,_,rt⟩:=hvt.unref;obtain rfl:=aN (ws:=["ahead","behind"]) rt;refine ⟨bt,_,rfl,.inr hbt,rfl,rfl,_,rfl,?_⟩;have ht1:=ht.same g1;have hd1:=hd.same g1;have hv1':=hv.same g1;rcases (show (∃ (c:Nat) (y0 z0:Str) (m:Int),t=.tup [.str w0,.str ⟨#[c]⟩]/\d=.tup [.str "text",.int m]/\e=d/\v=.str y0/\u=.str z0/\y0.length<=60/\((w0= "ahead" /\z0=(bW y0 ⟨#[c]⟩).1)\/(w0= "behind" /\z0=(bW y0 ⟨#[c]⟩).2)))\/(w0≠ "ahead" /\w0≠ "behind") by
  cases lv with
  | ahead c y0 m _ h=>cases et;exact .inl ⟨c,y0,_,m,rfl,rfl,rfl,rfl,rfl,h,.inl ⟨rfl,rfl⟩⟩
  | behind c y0 m _ h=>cases et;exact .inl ⟨c,y0,_,m,rfl,rfl,rfl,rfl,rfl,h,.inr ⟨rfl,rfl⟩⟩
  | parts=>cases et;exact .inr ⟨by decide,(1)⟩
  | rest=>cases et;exact .inr ⟨by decide,(1)⟩
  | turn g _ =>
   obtain ⟨w1,l1,e1,h1⟩:=g.word;rw [e1] at et
   cases et
   exact .inr ⟨(qS h1).1,(qS h1).2.1⟩) with ⟨c,y0,z0,m,rfl,rfl,rfl,rfl,rfl,l60,hz⟩ | ⟨n1,n2⟩
 ·cases et
  obtain rfl:=ao hv;have eI:inV (V.str w0) (List.map V.str ["ahead","behind"])=true:=by
   rw [jv];rcases hz with ⟨rfl,_⟩ | ⟨rfl,_⟩ <;> decide +kernel
  rw [eI];have hl:=bF y0;have wl:=ve y0 c;refine aq ⟨_,rfl,y0,rfl,small (by lia),?_⟩;refine ⟨_,rfl,y0,rfl,small (by lia),_,rfl,by lia,by lia,c7 (lo:=0) (λi σ H'=>H'=H1/\∃ v5 v6,σ=[some x,some y,some (.str y0),some (.str w0),some (.int ((if whereN y0 c < i then whereN y0 c else y0.length:Nat):Int)),v5,v6]) ⟨rfl,_,_,rfl⟩ ?_ ?_⟩
  ·rintro i σ H2 hi ⟨rfl,v5,v6,rfl⟩;have hi':i < y0.cps.toList.length:=by lia
   have hx:=aAi hi';obtain ⟨s1,s2⟩:=pU (c:=c) hx;refine ⟨_,rfl,_,rfl,y0,_,_,rfl,rfl,small (by lia),(by rw [aBy];exact eS hx),?_⟩;refine ⟨_,rfl,_,_,_,ht1,rfl,rfl,isS ?_⟩;have keep:whereN y0 c≠i->((if whereN y0 c < i then whereN y0 c else y0.length:Nat):Int)=((if whereN y0 c < i+1 then whereN y0 c else y0.length:Nat):Int):=λh=>by
    split <;> split <;> lia
   refine ⟨rfl,_,rfl,aE (λe1=>?_) λe1=>?_⟩
   ·have e1':y0.cps.toList[i]=c:=by injection e1 with e1;injection e1 with e1;exact (List.cons.inj (congrArg Array.toList e1)).1
    refine ⟨_,rfl,_,rfl,y0,rfl,small (by lia),rfl,_,rfl,aE (λe2=>?_) λe2=>?_⟩
    ·have e3:=V.int.inj e2;have e4:(0:Int)+i=((if whereN y0 c < i+1 then whereN y0 c else y0.length:Nat):Int):=by
      have:=s1 e1'
      split at e3 <;> split <;> lia
     exact ⟨_,rfl,rfl,_,_,by rw [<- e4];rfl⟩
    ·have nw:whereN y0 c≠i:=λh=>e2 (by rw [h,if_neg (aAx _)]);exact ⟨rfl,_,_,by rw [<- keep nw];rfl⟩
   ·have nw:whereN y0 c≠i:=λh=>e1 (by rw [s2 h]);exact ⟨rfl,_,_,by rw [<- keep nw];rfl⟩
  ·rintro σ H2 ⟨rfl,v5,v6,rfl⟩;have e4:((if whereN y0 c < ((y0.length:Int)).toNat then whereN y0 c else y0.length:Nat):Int)=(whereN y0 c:Int):=by
    split <;> lia
   rw [e4];have ep:=jz y0 c;refine ⟨_,rfl,_,rfl,_,rfl,_,rfl,y0,rfl,small (by lia),?_⟩;refine ⟨_,rfl,_,rfl,_,_,rfl,rfl,_,rfl,y0,rfl,small (by lia),sz2,λp hp=>?_⟩;have g2:=af hp (.lst [V.str (Txt.slice y0 none (some (whereN y0 c:Int))),V.str (Txt.slice y0 (some ((whereN y0 c:Int)+1)) none)]);have ez:atI [V.str (Txt.slice y0 none (some (whereN y0 c:Int))),V.str (Txt.slice y0 (some ((whereN y0 c:Int)+1)) none)] (if decide (V.str w0=V.str "behind")=true then 1 else 0)=some (V.str z0):=by
    rcases hz with ⟨rfl,rfl⟩ | ⟨rfl,rfl⟩
    ·rw [ep,decide_eq_false (ae (1))]
     rfl
    ·rw [ep,decide_eq_true rfl]
     rfl
   exact ⟨_,rfl,rfl,.inr ⟨_,rfl,p,_,_,_,rfl,rfl,SqL.of ac,ez,[.tup [.str "text",.int m],.str z0],.cons (hd1.same g2) (.cons .str .nil),sz2,λb H3 g3 hb=>q b H3 ((g1.trans g2).trans g3) hb⟩⟩
 rw [show inV (V.str w0) (List.map V.str ["ahead","behind"])=false from wN n1 n2];refine aA ?_;have get:∀ {l:List Dt} {n:Int} {i:Int} {x:V} {H':Hp} {Q':V->Hp->Prop},IsP K H' (.tup l) x->atI l i=some (.int n)->Q' (.int n) H'->Bc K x (.int i) H' Q':=λ{l n i x H' Q'} hx ha hq=>⟨_,_,_,hx,rfl,ha,λv hv=>by rw [bT hv];exact hq⟩
 cases lv with
 | ahead=>cases et;exact absurd rfl n1
 | behind=>cases et;exact absurd rfl n2
 | parts k i j x0 h1 h2 =>
  cases et
  obtain rfl:=bT hv;refine ⟨_,rfl,rfl,_,rfl,aC ?_⟩;refine ⟨_,rfl,_,_,rfl,rfl,_,rfl,get ht1 rfl ⟨_,_,rfl,rfl,_,_,rfl,rfl,_,rfl,get ht1 rfl ⟨_,_,rfl,rfl,⟨by lia,by lia⟩,_,_,rfl,rfl,?_⟩⟩⟩;rw [wM h1];refine ⟨_,rfl,get hd1 rfl ⟨_,rfl,get ht1 rfl ⟨_,_,rfl,rfl,⟨by lia,by lia⟩,_,rfl,get hd1 rfl ⟨_,rfl,get ht1 rfl ⟨_,_,rfl,rfl,⟨by lia,by lia⟩,?_⟩⟩⟩⟩⟩;refine ⟨[.str "number",.int (i / k),.int (j / k)],.cons .str (.cons .int (.cons .int .nil)),sz3,λv2 H2 g2 hv2=>?_⟩;exact ⟨_,rfl,[b6 (i / k) (j / k),.int (x0 / k)],.cons hv2 (.cons .int .nil),sz2,λb H3 g3 hb=>q b H3 ((g1.trans g2).trans g3) hb⟩
 | rest k i j x0 h1 h2 =>
  cases et
  obtain rfl:=bT hv;refine ⟨_,rfl,rfl,_,rfl,iteN (ae (1)) ⟨_,rfl,rfl,_,rfl,aC ?_⟩⟩;have em:x0 - x0 / k*k=x0 % k:=by
   have:=aBN x0 k;rw [Int.mul_comm] at this;lia
  refine ⟨_,rfl,get ht1 rfl ⟨_,_,rfl,rfl,[.str "number",.int 0,.int (k - 1)],.cons .str (.cons .int (.cons .int .nil)),sz3,λv2 H2 g2 hv2=>?_⟩⟩;refine ⟨_,rfl,_,rfl,_,rfl,get (ht1.same g2) rfl ⟨_,_,rfl,rfl,⟨by lia,by lia⟩,_,rfl,get (ht1.same g2) rfl ⟨_,_,rfl,rfl,.inr ⟨by lia,by lia⟩,_,_,rfl,rfl,?_⟩⟩⟩;rw [em];exact ⟨[b6 0 (k - 1),.int (x0 % k)],.cons hv2 (.cons .int .nil),sz2,λb H3 g3 hb=>q b H3 ((g1.trans g2).trans g3) hb⟩
 | turn g tv =>
  obtain ⟨w1,l1,e1,hw⟩:=g.word;obtain ⟨_,_,n3,n4⟩:=qS hw;rw [e1] at et
  cases et
  refine ⟨_,rfl,rfl,_,rfl,iteN (ae n3) ⟨_,rfl,rfl,_,rfl,iteN (ae n4) ?_⟩⟩;refine ⟨_,rfl,_,rfl,a,a,t,d,x,y,a5,rfl,ht1,hd1,okt,sk.fk,.inl ⟨e,fe,g,λb1 H2 g2 hb1=>?_⟩⟩;refine ⟨_,rfl,_,rfl,_,rfl,a,a,t,d,e,v,u,x,y,z,a5,fe,rfl,ht1.same g2,hd1.same g2,hv1'.same g2,okt,sk.fk,g,tv,λb2 H3 g3 hb2=>?_⟩;exact ⟨[e,u],.cons (hb1.same g3) (.cons hb2 .nil),sz2,λb H4 g4 hb=>q b H4 (((g1.trans g2).trans g3).trans g4) hb⟩
def Lit (K:W.Frag) (σ:L2.St) (t:TE) (d:Dt):Prop:=∀ (H:Hp) (Q:VK),(∀ v H',Same H H'->IsP K H' d v->Q v H')->t σ H Q
def ou (K:W.Frag) (σ:L2.St) (t:TA) (ds:List Dt):Prop:=∀ (H:Hp) (Q:List V->Hp->Prop),(∀ vs H',Same H H'->IsPs K H' ds vs->Q vs H')->t σ H Q
section
variable {K:W.Frag} {σ:L2.St}
theorem gw {i:Int}:Lit K σ (tC (.int i)) (.int i):=λH Q q=>q _ H (Same.refl H) .int
theorem gx {z:Str}:Lit K σ (tC (.str z)) (.str z):=λH Q q=>q _ H (Same.refl H) .str
theorem gy {t:TE} {i:Int} (h:Lit K σ t (.int i)):Lit K σ (tUn (rU λi=>V.int (-i)) t) (.int (-i)):=λH Q q=>h H _ λv H1 g hv=>by
 obtain rfl:=bT hv;exact ⟨i,rfl,q _ H1 g .int⟩
theorem eC:ou K σ sZ []:=λH Q q=>q [] H (Same.refl H) .nil
theorem dh {t:TE} {ts:TA} {d:Dt} {ds:List Dt} (h:Lit K σ t d) (hs:ou K σ ts ds):ou K σ (h9 t ts) (d :: ds):=λH Q q=>h H _ λv H1 g1 hv=>hs H1 _ λvs H2 g2 hvs=>q (v :: vs) H2 (g1.trans g2) (.cons (hv.same g2) hvs)
theorem gA {ts:TA} {ds:List Dt} (hs:ou K σ ts ds) (hl:Nat.ble ds.length 1000=true:=by rfl):Lit K σ (tU K ts) (.tup ds):=λH Q q=>hs H _ λvs H1 g1 hvs=>⟨ds,hvs,by rw [<- hvs.length];exact aAM (am (Nat.le_of_ble_eq_true hl)),λv H' g hv=>q v H' (g1.trans g) hv⟩
theorem qV {ts:TA} {ds:List Dt} (hs:ou K σ ts ds) (hl:ds.length<=1000) {H:Hp} {Q:VK} (q:∀ p vs H',Same H H'->H p=none->H' p=some (.lst vs)->IsPs K H' ds vs->Q (.ref p) H'):oH ts σ H Q:=hs H _ λvs H1 g1 hvs=>⟨by rw [<- hvs.length];exact aAM (am hl),λp hp=>q p vs _ (g1.trans (af hp _)) (g1.free hp) ac (hvs.same (af hp _))⟩
theorem wO {ts:TA} {d0 ds:List Dt} {i:Nat} {a:Addr} {xs:List V} {H:Hp} {Q:VK} (hi:σ[i]?=some (some (.ref a))) (ha:H a=some (.lst xs)) (h0:IsPs K H d0 xs) (hs:ou K σ ts ds) (hl:d0.length+ds.length<=1000)
  (q:∀ p vs H',Same H H'->H p=none->H' p=some (.lst vs)->IsPs K H' (d0++ds) vs->Q (.ref p) H'):tOp (ng K) (mD i) (oH ts) σ H Q :=
 ⟨.ref a,hi,qV hs (by lia) λp vs H1 g1 hn e1 hvs=>⟨a,p,xs,vs,rfl,rfl,SqL.of (g1 _ _ ha),SqL.of e1,by rw [<- h0.length,<- hvs.length];exact aAM (am hl),λr hr=>q r _ _ (g1.trans (af hr _)) (g1.free hr) ac (((h0.same g1).append hvs).same (af hr _))⟩⟩
theorem wP {ts:TA} {ds:List Dt} {i:Nat} {u:TS} {D:Ends} {H:Hp} (hs:ou K σ ts ds) (hl:ds.length<=1000) (q:∀ p vs H',Same H H'->H p=none->H' p=some (.lst vs)->IsPs K H' ds vs->u D (σ.set i (some (.ref p))) H'):sP (re (oH ts) (dX i)) u D σ H:=show oH ts σ H (λx H1=>u D (σ.set i (some x)) H1) from qV hs hl q
theorem iV {ts:TA} {d0 ds:List Dt} {i:Nat} {a:Addr} {xs:List V} {D:Ends} {H:Hp} (hi:σ[i]?=some (some (.ref a))) (ha:H a=some (.lst xs)) (h0:IsPs K H d0 xs) (hs:ou K σ ts ds) (hl:d0.length+ds.length<=1000)
  (q:∀ p vs H',Same H H'->H p=none->H' p=some (.lst vs)->IsPs K H' (d0++ds) vs->D.nx (σ.set i (some (.ref p))) H'):re (tOp (ng K) (mD i) (oH ts)) (dX i) D σ H:=show tOp (ng K) (mD i) (oH ts) σ H (λx H1=>D.nx (σ.set i (some x)) H1) from wO hi ha h0 hs hl q
end
def odd0:List Dt:=[.tup [],.tup [.str "ahead"],.tup [.str "bend",.int 2],.tup [.str "parts",.int 2,.int 2],.tup [.int 3],.tup [.str "behind",.str "-",.str "-"],.tup [.str "items",.tup []],.tup [.tup [],.tup []]]
def vg:List Dt:=[.tup [.str "parts",.int 2],.tup [.str "rest",.int 2],.tup [.str "bounds",.int 0,.int 1]]
def vh:List Dt:=[.tup [.str "parts",.int 1],.tup [.str "rest",.int 0],.tup [.str "parts",.int 1001],.tup [.str "rest",.int (-2)],.tup [.str "cut",.int 1],.tup [.str "parts",.str "2"]]
def vi:List Dt:=[.tup [.str "ahead",.str "-"],.tup [.str "behind",.str "a"]]
def vj:List Dt:=[.tup [.str "ahead",.str ""],.tup [.str "behind",.str "ab"],.tup [.str "ahead",.int 1],.tup [.str "behind",.tup [.str "-"]],.tup [.str "behind",.str "\""]]
def ow (u:Str):List Dt:=(odd0++if u= "number" then vh else vg)++if u= "text" then vj else vi
def tfB (t:Dt) (u:Str):Bool:=match t with
 | .tup [.str w,.int _,.int _]=>!cO t || (decide (w= "bounds") && !decide (u= "number"))
 | .tup [.str w,.tup []]=>!cO t || decide (w= "items")
 | .tup [.str w,.int _]=>!cO t || (decide (w= "cut") && !decide (u= "text"))
 | _=>!cO t
theorem Ju {t:Dt} {u:Str} {l:List Dt} {a:Nat} (sk:SK a (.tup (.str u :: l))) (h:tfB t u=true):TF t (.tup (.str u :: l)):=by
 have no:∀ {b:Bool},(!b)=true->b=false:=λ{b} h=>by cases b;rfl;cases h
 unfold tfB at h
 split at h
 ·rcases aBA.mp h with h | h
  ·exact .parts _ _ (no h)
  ·obtain ⟨h1,h2⟩:=Bool.and_eq_true_iff.mp h;obtain rfl:=of_decide_eq_true h1;exact .bounds _ _ _ _ (of_decide_eq_false (no h2))
 ·rcases aBA.mp h with h | h
  ·exact .parts _ _ (no h)
  ·obtain rfl:=of_decide_eq_true h
   by_cases hu:u= "list"
   ·subst hu
    generalize e:Dt.tup (.str "list" :: l)=d at sk ⊢
    cases sk with
    | list _ _ _=>exact .items _ _ _ (.parts _ _ rfl)
    | _=>injection e with e;injection e with e _;exact absurd (Dt.str.inj e) (1)
   ·exact .itemsS _ _ _ hu
 ·rcases aBA.mp h with h | h
  ·exact .parts _ _ (no h)
  ·obtain ⟨h1,h2⟩:=Bool.and_eq_true_iff.mp h;obtain rfl:=of_decide_eq_true h1;exact .cut _ _ _ (of_decide_eq_false (no h2))
 ·exact .parts _ _ (no h)
def pV (u:Str) (t:Dt):Bool:=okD t && (!gu t u && (!dU t u && tfB t u))
theorem vk:(ow "text").all (pV "text")=true:=by decide +kernel
theorem pW:(ow "choice").all (pV "choice")=true:=by decide +kernel
theorem pX:(ow "number").all (pV "number")=true:=by decide +kernel
theorem vm:(ow "list").all (pV "list")=true:=by decide +kernel
theorem qW {a:Nat} {d:Dt} (h:SK a d):∃ u l,d=.tup (.str u :: l)/\(ow u).all (pV u)=true:=by
 cases h with
 | text=>exact ⟨_,_,rfl,vk⟩
 | choice=>exact ⟨_,_,rfl,pW⟩
 | number=>exact ⟨_,_,rfl,pX⟩
 | list=>exact ⟨_,_,rfl,vm⟩
theorem BK {a:Nat} {u:Str} {l:List Dt} {t:Dt} (sk:SK a (.tup (.str u :: l))) (h:(ow u).all (pV u)=true) (ht:t∈ow u):OB t (.tup (.str u :: l)):=by
 have:=aAG.mp h t ht;unfold pV at this;simp only [aAq,Bool.not_eq_true'] at this;obtain ⟨h1,h2,h3,h4⟩:=this;refine ⟨h1,Ju sk h4,λu' l' e=>?_⟩;injection e with e
 injection e with e _
 rw [<- Dt.str.inj e];exact ⟨h2,h3⟩
theorem Jv {A B p:Prop} [Decidable p] (hp:p) (h:B):if (!decide p)=true then A else B:=by rw [decide_eq_true hp];exact h
def pY (K:W.Frag) (_:Ads):Sp:=λvs H Q _=>∃ (r:Addr) (c:Int) (a:Nat) (d:Dt) (y:V),vs=[.ref r,y]/\H r=some (.lst [.int c])/\IsP K H d y/\SK a d/\∀ (t:Dt) (x:V) (c':Int) H',But r H H'->H' r=some (.lst [.int c'])->IsP K H' t x->OB t d->Q x H'
theorem pZ (T:Tx K mg ad) {f:Addr} {fd:FuncData} (F:Gn K mg "_law_odd" hJ ["row","kind"] f fd):FnOk P w K mg base CX0 5 f fd ["row","kind"] (pY K ad):=by
 obtain ⟨f1,d1,J7⟩:=T.law_digit;have J8:=(aU (P:=P) (w:=w) (base:=base) T J7).imp pT;refine F.F.ok bO (λvs H Q E h=>?_) (λcdv A outer s H vs Q E hr h=>?_)
 ·obtain ⟨r,c,a,d,y,rfl,_⟩:=h
  rfl
 obtain ⟨r,c,a,d,y,rfl,hr0,hd,sk,q⟩:=h;refine ⟨_,(5,@ps_set _ _ 2 _ _ _ _ bO.nd rfl (Or.inl rfl) (@aB _ _ _ _ (@ak _ _ _ _ _ (8,cr) (@ak _ _ _ _ _ (8,@pa1 _ _ _ pe_str (0)) (@ak _ _ _ _ _ (8,@pa2 _ _ _ _ _ pe_str pe_int (0) (0)) (@ak _ _ _ _ _ (8,@pa3 _ _ _ _ _ _ _ pe_str pe_int pe_int (0) (0) (0)) (@ak _ _ _ _ _ (8,@pa1 _ _ _ pe_int (0)) (11,(8,@pa3 _ _ _ _ _ _ _ pe_str pe_str pe_str (0) (0) (0)),(8,@pa2 _ _ _ _ _ pe_str (8,cr) (0) (0)),(8,(9,(8,cr),(8,cr)))) (0)) (0)) (0)) (0)) (0))) (0) (.inl rfl),(5,@ps_if _ _ _ _ _ _ _ _ (pt_cmpR op_ne (@pi1 K _ _ _ _ _ _ _ rfl (pv 1)) pe_str (nomark _)) (3,@ps_set _ _ 2 _ _ _ _ bO.nd rfl (Or.inl rfl) (@pe_op _ _ _ _ _ _ _ _ (cz (K:=K) rfl) (pv 2) (@aB _ _ _ _ (11,(8,@pa2 _ _ _ _ _ pe_str pe_int (0) (0)),(8,@pa2 _ _ _ _ _ pe_str pe_int (0) (0)),(8,@pa3 _ _ _ _ _ _ _ pe_str pe_int pe_int (0) (0) (0))))) (0) (.inl rfl)) (3,@ps_set _ _ 2 _ _ _ _ bO.nd rfl (Or.inl rfl) (@pe_op _ _ _ _ _ _ _ _ (cz (K:=K) rfl) (pv 2) (@aB _ _ _ _ (@ak _ _ _ _ _ (8,@pa2 _ _ _ _ _ pe_str pe_int (0) (0)) (@ak _ _ _ _ _ (8,@pa2 _ _ _ _ _ pe_str pe_int (0) (0)) (@ak _ _ _ _ _ (8,@pa2 _ _ _ _ _ pe_str pe_int (0) (0)) (11,(8,@pa2 _ _ _ _ _ pe_str (@pe_un _ _ _ _ _ _ un_neg pe_int) (0) (0)),(8,@pa2 _ _ _ _ _ pe_str pe_int (0) (0)),(8,@pa2 _ _ _ _ _ pe_str pe_str (0) (0))) (0)) (0)) (0)))) (0) (.inl rfl)),(5,@ps_if _ _ _ _ _ _ _ _ (pt_cmpR op_ne (@pi1 K _ _ _ _ _ _ _ rfl (pv 1)) pe_str (nomark _)) (3,@ps_set _ _ 2 _ _ _ _ bO.nd rfl (Or.inl rfl) (@pe_op _ _ _ _ _ _ _ _ (cz (K:=K) rfl) (pv 2) (@aB _ _ _ _ (9,(8,@pa2 _ _ _ _ _ pe_str pe_str (0) (0)),(8,@pa2 _ _ _ _ _ pe_str pe_str (0) (0))))) (0) (.inl rfl)) (3,@ps_set _ _ 2 _ _ _ _ bO.nd rfl (Or.inl rfl) (@pe_op _ _ _ _ _ _ _ _ (cz (K:=K) rfl) (pv 2) (@aB _ _ _ _ (@ak _ _ _ _ _ (8,@pa2 _ _ _ _ _ pe_str pe_str (0) (0)) (@ak _ _ _ _ _ (8,@pa2 _ _ _ _ _ pe_str pe_str (0) (0)) (11,(8,@pa2 _ _ _ _ _ pe_str pe_int (0) (0)),(8,@pa2 _ _ _ _ _ pe_str (8,@pa1 _ _ _ pe_str (0)) (0) (0)),(8,@pa2 _ _ _ _ _ pe_str pe_str (0) (0))) (0)) (0)))) (0) (.inl rfl)),(3,(4,@pe_ix _ _ _ _ _ _ _ (aL (K:=K) rfl) (pv 2) (pcl J7 J8 (hr.mono (by lia)) rfl (10,pe_callB (cT (K:=K) rfl) rfl T.z_len PySem.boot_len (@pa1 _ _ _ (pv 2) (0)))) (λ_ _=>rfl)))))),?_⟩;obtain ⟨u,l,rfl,all⟩:=qW sk;refine wP (K:=K) (ds:=odd0) ?_ (1) λp0 x0 H0 g0 n0 e0 i0=>?_
 ·unfold odd0
  (repeat' first | with_reducible refine dh ?_ ?_ | with_reducible exact eC | with_reducible exact gx | with_reducible exact gw | refine gA ?_ | refine gy ?_)
 refine cE λk hk=>?_;have nxt:∀ (X:List Dt) (p:Addr) (vs:List V) (H':Hp),Same H H'->H p=none->H' p=some (.lst vs)->IsPs K H' (odd0++X) vs->X=(if u= "number" then vh else vg)->k [some (.ref r),some y,some (.ref p)] H':=by
  intro X p vs H1 g1 n1 e1 i1 eX;have lx:X.length<=6:=by rw [eX];split <;> decide
  refine hk _ _ (cE λk2 hk2=>?_);have nxt2:∀ (Y:List Dt) (p:Addr) (vs:List V) (H':Hp),Same H H'->H p=none->H' p=some (.lst vs)->IsPs K H' ((odd0++X)++Y) vs->Y=(if u= "text" then vj else vi)->k2 [some (.ref r),some y,some (.ref p)] H':=by
   intro Y p2 vs2 H2 g2 n2 e2 i2 eY;have ly:Y.length<=5:=by rw [eY];split <;> decide
   have len:=i2.length;rw [aAt,aAt,show odd0.length=8 from rfl] at len;have rL:=g2 _ _ hr0;have npr:p2≠r:=λc=>by rw [c,hr0] at n2;cases n2
   refine hk2 _ _ ⟨_,rfl,_,rfl,_,rfl,p2,vs2,rfl,.inl (SqL.of e2),r,c,_,rfl,rL,by lia,by lia,λdg n3 H3 d0 d1 B3 R3=>?_⟩;obtain ⟨j,ej⟩:∃ j:Nat,dg=j:=⟨dg.toNat,by lia⟩;subst ej;obtain ⟨z,hz⟩:∃ z,vs2[j]?=some z:=⟨_,aAi (by lia)⟩;obtain ⟨t,ht,hi⟩:=(i2.but rL B3).get' hz;refine ⟨p2,vs2,_,z,rfl,rfl,SqL.of (B3 _ _ npr e2),eS hz,q t z n3 H3 ((But.same g2).trans B3) R3 hi (BK sk all ?_)⟩;unfold ow;rw [<- eX,<- eY];exact aAs ht
  refine ⟨_,rfl,_,_,_,hd.same g1,rfl,at0 _ _,isS ?_⟩
  by_cases hu:u= "text"
  ·refine ⟨rfl,_,rfl,Jv (congrArg V.str hu) ?_⟩;refine iV (K:=K) (ds:=vj) rfl e1 i1 ?_ (by rw [aAt];show 8+X.length+5<=1000;lia) λp2 x2 H2 g2 n2 e2 i2=>nxt2 vj p2 x2 H2 (g1.trans g2) (g1.free n2) e2 i2 (if_pos hu).symm;unfold vj
   (repeat' first | with_reducible refine dh ?_ ?_ | with_reducible exact eC | with_reducible exact gx | with_reducible exact gw | refine gA ?_ | refine gy ?_)
  ·refine ⟨rfl,_,rfl,ii (ae hu) ?_⟩;refine iV (K:=K) (ds:=vi) rfl e1 i1 ?_ (by rw [aAt];show 8+X.length+2<=1000;lia) λp2 x2 H2 g2 n2 e2 i2=>nxt2 vi p2 x2 H2 (g1.trans g2) (g1.free n2) e2 i2 (if_neg hu).symm;unfold vi
   (repeat' first | with_reducible refine dh ?_ ?_ | with_reducible exact eC | with_reducible exact gx | with_reducible exact gw | refine gA ?_ | refine gy ?_)
 refine ⟨_,rfl,_,_,_,hd.same g0,rfl,at0 _ _,isS ?_⟩
 by_cases hu:u= "number"
 ·refine ⟨rfl,_,rfl,Jv (congrArg V.str hu) ?_⟩;refine iV (K:=K) (ds:=vh) rfl e0 i0 ?_ (1) λp2 x2 H2 g2 n2 e2 i2=>nxt vh p2 x2 H2 (g0.trans g2) (g0.free n2) e2 i2 (if_pos hu).symm;unfold vh
  (repeat' first | with_reducible refine dh ?_ ?_ | with_reducible exact eC | with_reducible exact gx | with_reducible exact gw | refine gA ?_ | refine gy ?_)
 ·refine ⟨rfl,_,rfl,ii (ae hu) ?_⟩;refine iV (K:=K) (ds:=vg) rfl e0 i0 ?_ (1) λp2 x2 H2 g2 n2 e2 i2=>nxt vg p2 x2 H2 (g0.trans g2) (g0.free n2) e2 i2 (if_neg hu).symm;unfold vg
  (repeat' first | with_reducible refine dh ?_ ?_ | with_reducible exact eC | with_reducible exact gx | with_reducible exact gw | refine gA ?_ | refine gy ?_)
def mf (K:W.Frag) (ad:Ads) (ea:Addr):Sp:=λvs H Q _=>vs=[.ref ea]/\HChn H ea ad.BadQuestion/\∀ p H',Same H H'->H' p=some (.lst [.int 7,.int 12])->Q (.ref p) H'
def pkL:Nat->List V
 | 0=>[]
 | i+1=>pkL i++if i == 7 || i == 12 then [.int (0+(i:Int))] else []
abbrev vn:List V:=[.bl false,.bl false,.bl false,.bl false,.bl false,.bl false,.bl false,.bl true,.bl false,.bl false,.bl false,.bl false,.bl true]
theorem wQ:∀ i:Nat,i < 13->atI vn (0+(i:Int))=some (.bl (i == 7 || i == 12)):=by decide +kernel
theorem vo:∀ i:Nat,(pkL i).length<=i
 | 0=>aAf 0
 | i+1=>by
  have:=vo i;show (pkL i++_).length<=_;rw [aAt]
  split
  ·show _+1<=_;lia
  ·show _+0<=_;lia
theorem mh (T:Tx K mg ad) {f:Addr} {fd:FuncData} (F:Gn K mg "_law_kinds" cQ ["e"] f fd):FnOkC P w K mg base 4 f fd ["e"] (mf K ad):=by
 refine F.F.okC bK (λea vs H Q E h=>?_) (λcdv A ea outer s H vs Q E hr hh h=>?_)
 ·obtain ⟨rfl,_⟩:=h
  rfl
 obtain ⟨rfl,he,q⟩:=h;refine ⟨_,(5,@ps_set _ _ 1 _ _ _ _ bK.nd rfl (Or.inl rfl) (@aB _ _ _ _ (@ak _ _ _ _ _ (pe_callB (aI (K:=K) rfl) rfl T.z_isinstance boot_isinstance (10,br rfl T.x_BadKind.m)) (11,pe_callB (aI (K:=K) rfl) rfl T.z_isinstance boot_isinstance (10,br rfl T.x_BadValue.m),pe_callB (aI (K:=K) rfl) rfl T.z_isinstance boot_isinstance (10,br rfl T.x_BadPath.m),pe_callB (aI (K:=K) rfl) rfl T.z_isinstance boot_isinstance (10,br rfl T.x_BadTurn.m)) (0))) (0) (.inl rfl),(5,@ps_set _ _ 2 _ _ _ _ bK.nd rfl (Or.inl rfl) (@aB _ _ _ _ (@ak _ _ _ _ _ (pe_callB (aI (K:=K) rfl) rfl T.z_isinstance boot_isinstance (10,br rfl T.x_BadPiece.m)) (11,pe_callB (aI (K:=K) rfl) rfl T.z_isinstance boot_isinstance (10,br rfl T.x_BadVersion.m),pe_callB (aI (K:=K) rfl) rfl T.z_isinstance boot_isinstance (10,br rfl T.x_BadText.m),pe_callB (aI (K:=K) rfl) rfl T.z_isinstance boot_isinstance (10,br rfl T.x_BadQuestion.m)) (0))) (0) (.inl rfl),(5,@ps_set _ _ 3 _ _ _ _ bK.nd rfl (Or.inl rfl) (@aB _ _ _ _ (@ak _ _ _ _ _ (pe_callB (aI (K:=K) rfl) rfl T.z_isinstance boot_isinstance (10,br rfl T.x_NoRecord.m)) (11,pe_callB (aI (K:=K) rfl) rfl T.z_isinstance boot_isinstance (10,br rfl T.x_Taken.m),pe_callB (aI (K:=K) rfl) rfl T.z_isinstance boot_isinstance (10,br rfl T.x_NoDeed.m),pe_callB (aI (K:=K) rfl) rfl T.z_isinstance boot_isinstance (10,br rfl T.x_Full.m)) (0))) (0) (.inl rfl),(5,@ps_set _ _ 4 _ _ _ _ bK.nd rfl (Or.inr rfl) (@pe_op _ _ _ _ _ _ _ _ (cz (K:=K) rfl) (@pe_op _ _ _ _ _ _ _ _ (cz (K:=K) rfl) (@pe_op _ _ _ _ _ _ _ _ (cz (K:=K) rfl) (pv 1) (pv 2)) (pv 3)) (@aB _ _ _ _ (@pa1 _ _ _ (pe_callB (pA (K:=K) rfl) rfl T.z_isinstance boot_isinstance (10,aH rfl T.z_ValueError A8)) (0)))) (0) (.inl rfl),(3,(4,pC (C0:=ad.BadQuestion) hh (csR (sc:=aa cQ) (NL:=["k"]) (N:=["e","one","two","three","heard"]) (ρ:=[4]) (N':=["k","heard"]) rfl rfl rfl (by decide +kernel) (by decide +kernel) (by decide +kernel) rfl (by decide +kernel)) (sj rfl T.z_range (@pa1 _ _ _ pe_int (0))) (λ_ _ _ _=>(ai (i:=0) (show List.Nodup (α:=Str) ["k","heard"] by decide +kernel) rfl (Or.inl rfl))) (λ_ _ _ _=>(@pt_val _ _ _ (@pe_ix _ _ _ _ _ _ _ (aL (K:=K) rfl) (pv 1) (pv 0) (λ_ _=>rfl)) (by intro _;rfl))) (λ_ _ _ _=>(pv 0)))))))),?_⟩;have kk:=T.kits;simp only [aAq] at kk;obtain ⟨⟨⟨⟨⟨⟨⟨⟨⟨⟨⟨⟨k1,k2⟩,k3⟩,k4⟩,k5⟩,k6⟩,k7⟩,k8⟩,k9⟩,k10⟩,k11⟩,k12⟩,k13⟩:=kk;have X:=T.x_BadQuestion.k;refine ⟨_,rfl,ea,_,_,_,rfl,he,X,beq_iff_eq.mp k1,_,rfl,ea,_,_,_,rfl,he,X,beq_iff_eq.mp k2,_,rfl,ea,_,_,_,rfl,he,X,beq_iff_eq.mp k3,_,rfl,ea,_,_,_,rfl,he,X,beq_iff_eq.mp k4,(by show 4<=sizeLine;decide),λp1 n1=>?_⟩;have g1:=af n1 (.lst [.bl false,.bl false,.bl false,.bl false]);have he1:=he.same g1;refine ⟨_,rfl,ea,_,_,_,rfl,he1,X,beq_iff_eq.mp k5,_,rfl,ea,_,_,_,rfl,he1,X,beq_iff_eq.mp k6,_,rfl,ea,_,_,_,rfl,he1,X,beq_iff_eq.mp k7,_,rfl,ea,_,_,_,rfl,he1,X,beq_iff_eq.mp k8,(by show 4<=sizeLine;decide),λp2 n2=>?_⟩;have g2:=af n2 (.lst [.bl false,.bl false,.bl false,.bl true]);have he2:=he1.same g2;refine ⟨_,rfl,ea,_,_,_,rfl,he2,X,beq_iff_eq.mp k9,_,rfl,ea,_,_,_,rfl,he2,X,beq_iff_eq.mp k10,_,rfl,ea,_,_,_,rfl,he2,X,beq_iff_eq.mp k11,_,rfl,ea,_,_,_,rfl,he2,X,beq_iff_eq.mp k12,(by show 4<=sizeLine;decide),λp3 n3=>?_⟩;have g3:=af n3 (.lst [.bl false,.bl false,.bl false,.bl false]);have he3:=he2.same g3;refine ⟨_,rfl,_,rfl,p1,p2,_,_,rfl,rfl,SqL.of (g3 _ _ (g2 _ _ ac)),SqL.of (g3 _ _ ac),(by show 8<=sizeLine;decide),λp4 n4=>?_⟩;have g4:=af n4 (.lst [.bl false,.bl false,.bl false,.bl false,.bl false,.bl false,.bl false,.bl true]);refine ⟨_,rfl,p4,p3,_,_,rfl,rfl,SqL.of ac,SqL.of (g4 _ _ ac),(by show 12<=sizeLine;decide),λp5 n5=>?_⟩;have g5:=af n5 (.lst [.bl false,.bl false,.bl false,.bl false,.bl false,.bl false,.bl false,.bl true,.bl false,.bl false,.bl false,.bl false]);have he5:=(he3.same g4).same g5;refine ⟨_,rfl,ea,_,_,_,rfl,he5,X,beq_iff_eq.mp k13,sz1,λp6 n6=>?_⟩;have g6:=af n6 (.lst [.bl true]);refine ⟨p5,p6,_,_,rfl,rfl,SqL.of (g6 _ _ ac),SqL.of ac,(by show 13<=sizeLine;decide),λp7 n7=>?_⟩;have g7:=af n7 (.lst vn);have G:Same H _:=((((g1.trans g2).trans g3).trans g4).trans g5).trans (g6.trans g7);have he7:=(he5.same g6).same g7;refine ⟨13,rfl,(1),(1),λl hl=>?_⟩;refine ie (lo:=0) (n:=(13:Int).toNat) (λi ys σ H'=>ys=pkL i/\Same _ H'/\H' l=some (.lst ys)/\∃ v0,σ=[v0,some (.ref p7)]) ⟨rfl,af hl _,ac,_,rfl⟩ ?_ ?_
 ·rintro i ys σ H2 N hi ⟨rfl,g,el,v0,rfl⟩ next;have hi':i < 13:=hi;have pl:=vo i;refine ⟨_,rfl,_,rfl,p7,vn,_,_,rfl,rfl,SqL.of (g _ _ ac),wQ i hi',_,rfl,?_⟩;dsimp only
  by_cases c:(i == 7 || i == 12)=true
  ·rw [if_pos c];refine ⟨_,rfl,el,am (by lia),next _ _ _ ⟨?_,aK hl g,ac,_,rfl⟩⟩;show _=pkL i++_;rw [if_pos c]
  ·rw [if_neg c];have e:pkL (i+1)=pkL i:=by
    show pkL i++_=_;rw [if_neg c,aAP]
   exact next _ _ _ ⟨e.symm,g,el,_,rfl⟩
 ·rintro ys σ H2 ⟨rfl,g,el,v0,rfl⟩;exact ⟨he7.same g,q l H2 (G.trans g) (by rw [el];rfl)⟩
def Refd (K:W.Frag) (H:Hp) (x y z:V):Prop:=∃ (ts:List Dt) (d v:Dt),IsP K H (.tup ts) x/\IsP K H d y/\IsP K H v z/\eh ts=true/\Fit d/\(8 < ts.length\/(ts.length<=8/\Go ts d none))
def ml (K:W.Frag) (_:Ads):Sp:=λvs H Q _=>∃ (i:Int) (x y z:V),vs=[.int i,x,y,z]/\Refd K H x y z/\∀ p H',Same H H'->H' p=some (.lst [.int 7,.int 12])->Q (.ref p) H'
theorem mm (T:Tx K mg ad) {f:Addr} {fd:FuncData} (F:Gn K mg "_law_heard" eL ["way","looks","kind","value"] f fd):FnOk P w K mg base CX0 28 f fd ["way","looks","kind","value"] (ml K ad):=by
 obtain ⟨f1,d1,J9⟩:=T.kind_looked;have Kn:=cD (P:=P) (w:=w) (base:=base) T J9;obtain ⟨f2,d2,Km⟩:=T.looked;have Ln:=kR (P:=P) (w:=w) (base:=base) T Km;obtain ⟨f3,d3,KG⟩:=T.law_kinds;have LZ:=mh (P:=P) (w:=w) (base:=base) T KG;refine F.F.ok cf (λvs H Q E h=>?_) (λcdv A outer s H vs Q E hr h=>?_)
 ·obtain ⟨i,x,y,z,rfl,_⟩:=h
  rfl
 obtain ⟨i,x,y,z,rfl,⟨ts,d,v,ht,hd,hv,okt,fit,alt⟩,q⟩:=h;refine ⟨_,(5,@ps_set _ _ 4 _ _ _ _ cf.nd rfl (Or.inl rfl) (@aB _ _ _ _ cr) (0) (.inl rfl),(5,sv (i:=5) rfl rfl (wn (pt_cmpR op_eq (pv 0) pe_int (nomark _)) (nF (nE Kn (hr.mono (by first | decide | lia)) rfl J9.m J9.F.kp J9.b (9,pv 1,pv 2))) (nF (nE Ln (hr.mono (by first | decide | lia)) rfl Km.m Km.F.kp Km.b (11,pv 1,pv 2,pv 3)))) T.x_HandError.m rfl cf.nd rfl rfl (λea=>(3,@ps_set _ _ 4 _ _ _ _ cf.nd rfl (Or.inl rfl) (uA (ea:=ea) rfl LZ ((hr.mono (by first | decide | lia)).toH _) rfl KG.m KG.F.kp KG.b (@pa1 _ _ _ (pv 5) (0))) (0) (.inl rfl))),(3,(4,pv 4)))),?_⟩;refine ⟨(by show 0<=sizeLine;decide),λl hl=>?_⟩;have g1:=af hl (.lst []);have alt':∀ {X R:Prop},X->(8 < ts.length/\X)\/(ts.length<=8/\Go ts d none/\X)\/R:=λ{X R} h=>by
  rcases alt with a | ⟨a,b⟩
  ·exact .inl ⟨a,h⟩
  ·exact .inr (.inl ⟨a,b,h⟩)
 refine ⟨_,rfl,rfl,_,rfl,aE (λ_=>?_) λ_=>?_⟩
 ·refine ⟨_,rfl,_,rfl,ts,d,x,y,rfl,ht.same g1,hd.same g1,okt,fit,alt' (λH' g2=>⟨_,rfl,T.exq,λea H3 hea g4 hch=>?_⟩)⟩;exact ⟨_,rfl,rfl,hch,λp H'' g3 hp=>⟨_,rfl,q p H'' (((g1.trans g2).trans g4).trans g3) hp⟩⟩
 ·refine ⟨_,rfl,_,rfl,_,rfl,ts,d,v,x,y,z,rfl,ht.same g1,hd.same g1,hv.same g1,okt,fit,alt' (λH' g2=>⟨_,rfl,T.exq,λea H3 hea g4 hch=>?_⟩)⟩;exact ⟨_,rfl,rfl,hch,λp H'' g3 hp=>⟨_,rfl,q p H'' (((g1.trans g2).trans g4).trans g3) hp⟩⟩
def jA (K:W.Frag) (_:Ads):Sp:=λvs H Q _=>∃ (x y z:V),vs=[x,y,z]/\Refd K H x y z/\∀ H',Same H H'->Q (.bl true) H'
theorem Refd.same {K:W.Frag} {H H':Hp} {x y z:V} (h:Refd K H x y z) (g:Same H H'):Refd K H' x y z:=by
 obtain ⟨ts,d,v,ht,hd,hv,r⟩:=h;exact ⟨ts,d,v,ht.same g,hd.same g,hv.same g,r⟩
theorem jB (T:Tx K mg ad) {f:Addr} {fd:FuncData} (F:Gn K mg "_law_refused" cY ["looks","kind","value"] f fd):FnOk P w K mg base CX0 29 f fd ["looks","kind","value"] (jA K ad):=by
 obtain ⟨f1,d1,KR⟩:=T.law_heard;have Lj:=mm (P:=P) (w:=w) (base:=base) T KR;refine F.F.ok jI (λvs H Q E h=>?_) (λcdv A outer s H vs Q E hr h=>?_)
 ·obtain ⟨x,y,z,rfl,_⟩:=h
  rfl
 obtain ⟨x,y,z,rfl,rf,q⟩:=h;refine ⟨_,(3,(4,pe_and (pe_cmpR (tO hr.units) (7,KR,Lj,@ak _ _ _ _ _ pe_int (11,pv 0,pv 1,pv 2) (0)) (@aB _ _ _ _ (@pa2 _ _ _ _ _ pe_int pe_int (0) (0))) (nomark _)) (pe_one (pe_cmpR (tO hr.units) (7,KR,Lj,@ak _ _ _ _ _ pe_int (11,pv 0,pv 1,pv 2) (0)) (@aB _ _ _ _ (@pa2 _ _ _ _ _ pe_int pe_int (0) (0))) (nomark _))))),?_⟩;refine ⟨_,rfl,_,rfl,_,rfl,0,x,y,z,rfl,rf,λp1 H1 g1 e1=>⟨sz2,λl1 n1=>?_⟩⟩;have g2:=af n1 (.lst [.int 7,.int 12]);refine ⟨p1,l1,_,_,[.int 7,.int 12],[.int 7,.int 12],rfl,rfl,SqL.of (g2 _ _ e1),SqL.of ac,.cons .int (.cons .int .nil),.cons .int (.cons .int .nil),(1),_,rfl,?_⟩;refine aq ⟨_,rfl,_,rfl,_,rfl,1,x,y,z,rfl,rf.same (g1.trans g2),λp3 H3 g3 e3=>⟨sz2,λl3 n3=>?_⟩⟩;have g4:=af n3 (.lst [.int 7,.int 12]);exact ⟨p3,l3,_,_,[.int 7,.int 12],[.int 7,.int 12],rfl,rfl,SqL.of (g4 _ _ e3),SqL.of ac,.cons .int (.cons .int .nil),.cons .int (.cons .int .nil),(1),q _ (((g1.trans g2).trans g3).trans g4)⟩
inductive CH:List Dt->Dt->Dt->Dt->Dt->Prop
 | nil (d v:Dt):CH [] d v d v
 | cons {t d e v u d' v':Dt} {ts:List Dt}:LB t d e->Fit e->LV t d v u->CH ts e u d' v'->CH (t :: ts) d v d' v'
theorem CH.snoc {ts:List Dt} {d v e u t e' u':Dt} (h:CH ts d v e u) (lb:LB t e e') (fe:Fit e') (lv:LV t e u u'):CH (ts++[t]) d v e' u':=by
 induction h with
 | nil d v=>exact .cons lb fe lv (.nil _ _)
 | cons a b c _ ih=>exact .cons a b c (ih lb lv)
theorem CH.go {ts:List Dt} {d v e u:Dt} (h:CH ts d v e u):Go ts d (some e):=by
 induction h with
 | nil d v=>exact .nil d
 | cons a b c _ ih=>exact .cons a b ih
theorem CH.chv {ts:List Dt} {d v e u:Dt} (h:CH ts d v e u):ChV ts d v u:=by
 induction h with
 | nil d v=>exact .nil d v
 | cons a b c _ ih=>exact .cons a b c ih
theorem CH.bad {ts:List Dt} {d v e u t:Dt} (h:CH ts d v e u) (ob:OB t e):Go (ts++[t]) d none:=by
 induction h with
 | nil d v=>exact .bad [] ob
 | cons a b c _ ih=>exact .cons a b (ih ob)
theorem qa:∀ {l:List Dt} {B:Nat},(∀ x∈l,x.dep<=B)->fU l<=B
 | [],B,_=>aAI _
 | x :: l,B,h=>Nat.max_le.mpr ⟨h x aAr,qa λy hy=>h y (aAp _ hy)⟩
theorem BL {a:Nat} {d:Dt} (h:SK a d):d.dep<=a+2:=by
 induction h with
 | text i h1 h2=>simp [Dt.dep,fU]
 | choice ws hw =>
  have:=qa (l:=ws.map Dt.str) (B:=0) λx hx=>by obtain ⟨z,_,rfl⟩:=aAO.mp hx;exact aAf _
  simp only [Dt.dep,fU];lia
 | number i j h1 h2 h3=>simp [Dt.dep,fU]
 | list _ h1 h2 ih =>
  simp only [Dt.dep,fU];lia
theorem BM {a:Nat} {d e:Dt} (h:SK a d) (v:FV d e):e.dep<=2*a:=by
 induction h generalizing e with
 | text i h1 h2=>obtain ⟨z,rfl,_⟩:=iT v i rfl;simp [Dt.dep]
 | choice ws hw=>obtain ⟨z,rfl,_⟩:=gU v ws rfl;simp [Dt.dep]
 | number i j=>obtain ⟨z,rfl,_⟩:=fH v i j rfl;simp [Dt.dep]
 | @list a k i g h1 h2 ih =>
  obtain ⟨vs,rfl,v1,v2⟩:=iU v k i rfl;have:=qa (l:=vs) (B:=2*a) λx hx=>ih (v1 x hx);simp only [Dt.dep,fU];lia
theorem qb {l m:List Dt} (h1:eh l=true) (h2:eh m=true):eh (l++m)=true:=jf λd hd=>by
 rcases aA9.mp hd with h | h
 ·exact ay h1 d h
 ·exact ay h2 d h
theorem qc {d:Dt} (h:okD d=true):eh [d]=true:=by rw [eh,h];rfl
def qe (K:W.Frag) (_:Ads):Sp:=λvs H Q _=>∃ (r:Addr) (c m:Int) (a:Nat) (d v:Dt) (y z:V),vs=[.ref r,y,z,.int m]/\H r=some (.lst [.int c])/\0<=m/\m<=8/\IsP K H d y/\IsP K H v z/\SK a d/\a<=5/\FV d v/\∀ H',But r H H'->Q (.bl true) H'
theorem LB.word {t d e:Dt} (h:LB t d e):∃ w l,t=.tup (.str w :: l):=by
 cases h with
 | turn g=>obtain ⟨w,l,rfl,_⟩:=g.word;exact ⟨w,l,rfl⟩
 | _=>exact ⟨_,_,rfl⟩
theorem qf (T:Tx K mg ad) {f:Addr} {fd:FuncData} (F:Gn K mg "_law_one" hV ["row","kind","value","many"] f fd):FnOk P w K mg base CX0 30 f fd ["row","kind","value","many"] (qe K ad):=by
 obtain ⟨f1,d1,K1⟩:=T.law_look_for;have Ly:=iI (P:=P) (w:=w) (base:=base) T K1;obtain ⟨f2,d2,Lu⟩:=T.law_next;have L6:=oq (P:=P) (w:=w) (base:=base) T Lu;obtain ⟨f3,d3,J9⟩:=T.kind_looked;have Kn:=cD (P:=P) (w:=w) (base:=base) T J9;obtain ⟨f4,d4,Km⟩:=T.looked;have Ln:=kR (P:=P) (w:=w) (base:=base) T Km;obtain ⟨f5,d5,K0⟩:=T.is_of;obtain ⟨f6,d6,D6⟩:=T.holds_items;obtain ⟨f7,d7,D7⟩:=T.is_record_of;obtain ⟨f8,d8,D8⟩:=T.is_pair_of;have Li:=n9 (P:=P) (w:=w) (base:=base) T K0 D6 D7 D8 5;obtain ⟨f9,d9,KM⟩:=T.law_refused;have K9:=jB (P:=P) (w:=w) (base:=base) T KM;obtain ⟨f10,d10,LG⟩:=T.law_odd;have Md:=pZ (P:=P) (w:=w) (base:=base) T LG;refine F.F.ok bh (λvs H Q E h=>?_) (λcdv A outer s H vs Q E hr h=>?_)
 ·obtain ⟨r,c,m,a,d,v,y,z,rfl,_⟩:=h
  rfl
 obtain ⟨r,c,m,a,d,v,y,z,rfl,hr0,m0,m8,hd,hv,sk,a5,fv,q⟩:=h;refine ⟨_,(@pss_cons _ _ _ _ _ (@ps_set _ _ 4 _ _ _ _ bh.nd rfl (Or.inl rfl) (8,cr) (0) (.inl rfl)) (@pss_cons _ _ _ _ _ (@ps_set _ _ 5 _ _ _ _ bh.nd rfl (Or.inl rfl) (8,(9,pv 1,pv 2)) (0) (.inl rfl)) (@pss_cons _ _ _ _ _ (dm PassesOwn.never rfl (cg rfl T.z_range (@pa1 _ _ _ (pv 3) (0))) (ai (i:=6) bh.nd rfl (Or.inl rfl))
    (5,(12,PW.pt (@fA _ _ _ _ _ _ _ (pt_cmpR op_eq (@pi1 K _ _ _ _ _ _ _ rfl (pv 1)) pe_str (nomark _)) (@eP _ _ _ _ (pt_cmpR op_eq (@pi1 K _ _ _ _ _ _ _ rfl (pv 1)) pe_int (nomark _))))),(5,@ps_set _ _ 7 _ _ _ _ bh.nd rfl (Or.inl rfl) (7,K1,Ly,(10,pv 1)) (0) (.inl rfl),(5,(12,PW.pt (@fA _ _ _ _ _ _ _ (pt_cmpR op_eq (@pi1 K _ _ _ _ _ _ _ rfl (pv 7)) pe_str (nomark _)) (@eP _ _ _ _ (pt_cmpR op_gt (pe_callB (call_lenDN (K:=K) rfl) rfl T.z_len PySem.boot_len (@pa1 _ _ _ (pv 4) (0))) pe_int (nomark _))))),(5,sQ (7,Lu,L6,(11,pv 7,pv 1,pv 2)) (oE rfl (az (ai (i:=1) bh.nd rfl (Or.inl rfl)) (az (ai (i:=2) bh.nd rfl (Or.inl rfl)) bY))),(5,@ps_set _ _ 4 _ _ _ _ bh.nd rfl (Or.inl rfl) (@pe_op _ _ _ _ _ _ _ _ (op_catPN (K:=K) rfl) (pv 4) (8,@pa1 _ _ _ (pv 7) (0))) (0) (.inl rfl),(5,(12,PW.pt (@pw_or _ _ _ _ _ _ _ (pt_cmpR (qv (K:=K) rfl hr.units) (pe_call Kn (hr.mono (by first | decide | lia)) rfl J9.m J9.F.kp J9.b .nil uB (9,pv 4,@pi1 K _ _ _ _ _ _ _ rfl (pv 5))) (pv 1) (nomark _)) (@pw_or1 _ _ _ _ (pt_cmpR (qv (K:=K) rfl hr.units) (pe_call Ln (hr.mono (by first | decide | lia)) rfl Km.m Km.F.kp Km.b .nil uB (11,pv 4,@pi1 K _ _ _ _ _ _ _ rfl (pv 5),@pi1 K _ _ _ _ _ _ _ rfl (pv 5))) (pv 2) (nomark _))))),(3,(12,@pt_not _ _ _ _ (@pt_val _ _ _ (7,K0,Li,(9,pv 2,pv 1)) (by intro _;rfl))))))))))) (5,(12,@pt_not _ _ _ _ (@pt_val _ _ _ (7,KM,K9,(11,@pe_op _ _ _ _ _ _ _ _ (op_catPN (K:=K) rfl) (pv 4) (8,@pa1 _ _ _ (7,LG,Md,(10,pv 1)) (0)),@pi1 K _ _ _ _ _ _ _ rfl (pv 5),@pi1 K _ _ _ _ _ _ _ rfl (pv 5))) (by intro _;rfl))),(3,(4,pe_or (pe_cmpR op_eq (pv 3) pe_int (nomark _)) (pe_one (7,KM,K9,(11,@pe_op _ _ _ _ _ _ _ _ (op_catPN (K:=K) rfl) (8,@pa1 _ _ _ (@pi1 K _ _ _ _ _ _ _ rfl (pv 4)) (0)) (@pe_op _ _ _ _ _ _ _ _ (uz (K:=K) rfl) (8,(9,(8,@pa2 _ _ _ _ _ pe_str pe_int (0) (0)),(8,@pa1 _ _ _ pe_str (0)))) pe_int),@pi1 K _ _ _ _ _ _ _ rfl (pv 5),@pi1 K _ _ _ _ _ _ _ rfl (pv 5)))))))))),?_⟩
 refine ⟨[],.nil,(by show 0<=sizeLine;decide),λv4 H1 g1 hv4=>?_⟩;refine ⟨_,rfl,_,rfl,[d,v],.cons (hd.same g1) (.cons (hv.same g1) .nil),sz2,λv5 H2 g2 hv5=>?_⟩;have R2:=g2 _ _ (g1 _ _ hr0);have fit:=sk.fit a5;refine ⟨_,rfl,m,rfl,by lia,by lia,c7 (lo:=0) (n:=m.toNat) (λi σ H'=>∃ (ts:List Dt) (e u:Dt) (a':Nat) (y' z' x4:V) (c':Int),But r H2 H'/\H' r=some (.lst [.int c'])/\ts.length=i/\eh ts=true/\IsP K H' (.tup ts) x4/\IsP K H' e y'/\IsP K H' u z'/\SK a' e/\a'<=5/\FV e u/\CH ts d v e u/\∃ w6 w7,σ=[some (.ref r),some y',some z',some (.int m),some x4,some v5,w6,w7]) ⟨[],d,v,a,y,z,v4,c,But.refl _ _,R2,rfl,rfl,hv4.same g2,(hd.same g1).same g2,(hv.same g1).same g2,sk,a5,fv,.nil d v,_,_,rfl⟩ ?_ ?_⟩
 ·rintro i σ H3 hi ⟨ts,e,u,a',y',z',x4,c',B3,R3,lt,okt,hx4,he,hu,sk',a5',fu,ch,w6,w7,rfl⟩;have hv5':=hv5.but R2 B3;refine cE λk hk=>?_;have rest:k [some (.ref r),some y',some z',some (.int m),some x4,some v5,some (.int (0+i)),w7] H3:=by
   refine hk _ _ ⟨_,rfl,_,rfl,r,c',a',e,y',rfl,R3,he,sk',a5',λt x c4 H4 B4 R4 hx nx=>?_⟩;obtain ⟨okx,e2,a2,lb,sk2,a25⟩:=nx;obtain ⟨u2,fu2,lbv⟩:=Jt lb sk' a5' fu;obtain ⟨w,l,et⟩:=lb.word;have hxw:IsP K H4 (.tup (.str w :: l)) x:=et ▸ hx;have B4':=(But.same (g1.trans g2)).trans (B3.trans B4);have hx44:=hx4.but R3 B4;dsimp only [dX];refine cE λk2 hk2=>?_;have rest2:k2 [some (.ref r),some y',some z',some (.int m),some x4,some v5,some (.int (0+i)),some x] H4:=by
    refine hk2 _ _ ⟨_,rfl,_,rfl,_,rfl,a',t,e,e2,u,u2,x,y',z',rfl,hx,he.but R3 B4,hu.but R3 B4,okx,sk',a5',sk2.fit a25,lbv,λb H5 g5 hb=>?_⟩;obtain ⟨ab,xb,rfl,hab,_,rb⟩:=hb.unref
    cases rb with
    | cons r1 rb =>
     cases rb with
     | cons r2 rb =>
      cases rb
      refine ⟨ab,_,rfl,hab,rfl,_,_,rfl,_,_,rfl,rfl,?_⟩;refine ⟨_,rfl,_,rfl,[t],.cons (hx.same g5) .nil,sz1,λv6 H6 g6 hv6=>?_⟩;refine ⟨ts,[t],(hx44.same g5).same g6,hv6,(by show ts.length+1<=sizeLine;exact small (by lia)),λv7 H7 g7 hv7=>?_⟩;have g57:=(g5.trans g6).trans g7;have hv5'':=((hv5'.but R3 B4).same g57);have ch2:=ch.snoc lbv.lb (sk2.fit a25) lbv.lv;have okt2:=qb okt (qc okx);have l8:(ts++[t]).length<=8:=by rw [aAt];show ts.length+1<=8;lia
      refine ⟨_,rfl,_,rfl,_,_,_,hv5'',rfl,at0 _ _,λb0 hb0=>?_⟩;refine ⟨_,d,_,b0,rfl,hv7,hb0,okt2,fit,.inr (.inr ⟨l8,_,ch2.go,λb8 H8 g8 hb8=>?_⟩)⟩;have dk:=BL sk2;have dv:=BM sk2 fu2;have ge:=(g6.trans g7).trans g8;refine ⟨_,rfl,e2,e2,hb8.d,(r1.same ge).d,by lia,_,rfl,?_⟩;rw [fV];refine aA ?_;have hv58:=hv5''.same g8;refine ⟨_,rfl,_,rfl,_,_,_,hv58,rfl,at0 _ _,λc0 hc0=>⟨_,rfl,_,_,_,hv58,rfl,rfl,λc1 hc1=>?_⟩⟩;refine ⟨_,d,v,_,c0,c1,rfl,hv7.same g8,hc0,hc1,okt2,fit,.inr (.inr ⟨l8,_,ch2.chv,λb9 H9 g9 hb9=>?_⟩)⟩;refine ⟨_,rfl,u2,u2,hb9.d,((r2.same ge).same g9).d,by lia,_,rfl,?_⟩;rw [fV];refine aA ?_;have ge9:=ge.trans g9;refine ⟨_,rfl,_,rfl,a2,a2,e2,u2,_,_,a25,rfl,r1.same ge9,r2.same ge9,sk2.fk,fu2,λH10 g10=>⟨_,rfl,aA ?_⟩⟩;have gF:=g5.trans (ge9.trans g10);exact ⟨ts++[t],e2,u2,a2,_,_,v7,c4,B3.trans (B4.trans (But.same gF)),gF _ _ R4,(by rw [aAt,lt];rfl),okt2,((hv7.same g8).same g9).same g10,(r1.same ge9).same g10,(r2.same ge9).same g10,sk2,a25,fu2,ch2,_,_,rfl⟩
   refine ⟨_,rfl,_,_,_,hxw,rfl,at0 _ _,isS ?_⟩;refine ⟨rfl,_,rfl,aE (λ_=>?_) λ_=>rest2⟩;exact ⟨_,rfl,_,ts,rfl,hx44.d,_,_,rfl,rfl,_,rfl,aE (λ_=>q H4 B4') λ_=>rest2⟩
  obtain ⟨w,l,ee,_⟩:=qW sk';have hew:IsP K H3 (.tup (.str w :: l)) y':=ee ▸ he;refine ⟨_,rfl,_,_,_,hew,rfl,at0 _ _,isS ?_⟩;refine ⟨rfl,_,rfl,aE (λcw=>?_) λ_=>rest⟩
  cases sk' with
  | @list a0 k0 i0 g h1 h2 =>
   refine ⟨_,rfl,_,_,_,he,rfl,rfl,isI ?_⟩;exact ⟨rfl,_,rfl,iteN (λc=>by injection c with c;lia) rest⟩
  | _ =>
   exfalso
   injection ee with ee
   injection ee with ee _
   rw [<- Dt.str.inj ee] at cw;exact absurd (V.str.inj cw) (1)
 ·rintro σ H3 ⟨ts,e,u,a',y',z',x4,c',B3,R3,lt,okt,hx4,he,hu,sk',a5',fu,ch,w6,w7,rfl⟩;have hv5':=hv5.but R2 B3;dsimp only;refine ⟨_,rfl,_,rfl,_,rfl,r,c',a',e,y',rfl,R3,he,sk',λt x c4 H4 B4 R4 hx ob=>?_⟩;have hx44:=hx4.but R3 B4;refine ⟨[t],.cons hx .nil,sz1,λv6 H6 g6 hv6=>⟨ts,[t],hx44.same g6,hv6,(by show ts.length+1<=sizeLine;exact small (by lia)),λv7 H7 g7 hv7=>?_⟩⟩;have hv57:=((hv5'.but R3 B4).same g6).same g7;have okt2:=qb okt (qc ob.1);have ll:(ts++[t]).length=ts.length+1:=by rw [aAt];rfl
  have alt:8 < (ts++[t]).length\/((ts++[t]).length<=8/\Go (ts++[t]) d none):=by
   by_cases h:ts.length < 8
   ·exact .inr ⟨by lia,ch.bad ob⟩
   ·exact .inl (by lia)
  refine ⟨_,rfl,_,_,_,hv57,rfl,at0 _ _,λb0 hb0=>⟨_,rfl,_,_,_,hv57,rfl,rfl,λb1 hb1=>?_⟩⟩;refine ⟨v7,b0,b1,rfl,⟨ts++[t],d,v,hv7,hb0,hb1,okt2,fit,alt⟩,λH8 g8=>⟨_,rfl,aA ?_⟩⟩;have B8:=((But.same (g1.trans g2)).trans (B3.trans B4)).trans (But.same ((g6.trans g7).trans g8));refine ⟨_,rfl,rfl,_,rfl,aE (λ_=>q H8 B8) λnz=>?_⟩;have nz':m≠0:=λh=>nz (by rw [h])
  cases ts with
  | nil=>exact absurd (show (0:Nat)=m.toNat from lt) (by lia)
  | cons t0 ts =>
   refine ⟨_,rfl,_,_,_,((hx44.same g6).same g7).same g8,rfl,at0 _ _,λx0 hx0=>?_⟩;refine ⟨[t0],.cons hx0 .nil,sz1,λw1 G1 k1 hw1=>?_⟩;refine ⟨[.str "one",.int 1],.cons .str (.cons .int .nil),sz2,λw2 G2 k2 hw2=>?_⟩;refine ⟨[.str "out"],.cons .str .nil,sz1,λw3 G3 k3 hw3=>?_⟩;refine ⟨[.tup [.str "one",.int 1],.tup [.str "out"]],.cons (hw2.same k3) (.cons hw3 .nil),sz2,λw4 G4 k4 hw4=>?_⟩;refine ⟨_,_,hw4,rfl,λw5 G5 k5 hw5=>?_⟩;have k25:=((k2.trans k3).trans k4).trans k5;refine ⟨[t0],_,hw1.same k25,hw5,(by show 9<=sizeLine;decide),λw6 G6 k6 hw6=>?_⟩;have hv56:=hv57.same (g8.trans ((k1.trans k25).trans k6));refine ⟨_,rfl,_,_,_,hv56,rfl,at0 _ _,λb0 hb0=>⟨_,rfl,_,_,_,hv56,rfl,rfl,λb1 hb1=>?_⟩⟩;exact ⟨w6,b0,b1,rfl,⟨_,d,v,hw6,hb0,hb1,qb (qc (ay okt t0 aAr)) rfl,fit,.inl (by show 8 < 9;decide)⟩,λH9 g9=>q H9 (B8.trans (But.same (((k1.trans k25).trans k6).trans g9)))⟩
theorem J6 (T:Tx K mg ad) {f:Addr} {fd:FuncData} (F:Gn K mg "law" qX ["script"] f fd):FnOk P w K mg base CX0 depth f fd ["script"] (Bo K ad):=by
 obtain ⟨f1,d1,Ld⟩:=T.law_stream;have LR:=jV (P:=P) (w:=w) (base:=base) T Ld;obtain ⟨f2,d2,Lq⟩:=T.law_leaf;have L8:=nQ (P:=P) (w:=w) (base:=base) T Lq;obtain ⟨f3,d3,J7⟩:=T.law_digit;have J8:=(aU (P:=P) (w:=w) (base:=base) T J7).imp pT;obtain ⟨f4,d4,Kw⟩:=T.law_value;have KU:=qT (P:=P) (w:=w) (base:=base) T Kw 5;obtain ⟨f5,d5,LE⟩:=T.law_one;have Mb:=qf (P:=P) (w:=w) (base:=base) T LE;refine F.F.ok jJ (λvs H Q E h=>?_) (λcdv A outer s H vs Q E hr h=>?_)
 ·obtain ⟨a,ns,rfl,_⟩:=h
  rfl
 obtain ⟨a,ns,rfl,hS,h63,q⟩:=h;refine ⟨_,(@pss_cons _ _ _ _ _ (dm PassesOwn.never rfl (cg rfl T.z_range (@pa1 _ _ _ pe_int (0))) (ai (i:=1) jJ.nd rfl (Or.inl rfl))
    (5,@ps_set _ _ 2 _ _ _ _ jJ.nd rfl (Or.inl rfl) (7,Ld,LR,(10,pv 1)) (0) (.inl rfl),(5,@ps_set _ _ 3 _ _ _ _ jJ.nd rfl (Or.inl rfl) (7,Lq,L8,@pa1 _ _ _ (pv 2) (0)) (0) (.inl rfl),(5,@ps_if _ _ _ _ _ _ _ _ (pt_cmpR op_eq (pcl J7 J8 (hr.mono (by lia)) rfl (@pa2 _ _ _ _ _ (pv 2) pe_int (0) (0))) pe_int (nomark _)) (3,@ps_set _ _ 3 _ _ _ _ jJ.nd rfl (Or.inl rfl) (8,@pa3 _ _ _ _ _ _ _ pe_str (pv 3) (@pe_op _ _ _ _ _ _ _ _ bg pe_int (pcl J7 J8 (hr.mono (by lia)) rfl (@pa2 _ _ _ _ _ (pv 2) pe_int (0) (0)))) (0) (0) (0)) (0) (.inl rfl)) pss_nil,(3,(12,@pt_not _ _ _ _ (@pt_val _ _ _ (7,LE,Mb,@ak _ _ _ _ _ (pv 2) (11,pv 3,(7,Kw,KU,(9,pv 2,pv 3)),pcl J7 J8 (hr.mono (by lia)) rfl (@pa2 _ _ _ _ _ (pv 2) pe_int (0) (0))) (0)) (by intro _;rfl)))))))) (3,(4,pe_bl))),?_⟩
 refine ⟨9,rfl,(1),(1),c7 (lo:=0) (n:=(9:Int).toNat) (λi σ H'=>Same H H'/\∃ v1 v2 v3,σ=[some (.ref a),v1,v2,v3]) ⟨Same.refl H,_,_,_,rfl⟩ ?_ ?_⟩
 ·rintro i σ H1 hi ⟨g1,v1,v2,v3,rfl⟩;have hi9:i < 9:=hi;refine ⟨_,rfl,_,rfl,a,ns,_,rfl,g1.seq hS,by lia,by lia,by lia,λr n H2 hr2 s2 e2=>?_⟩;have hrH:H r=none:=g1.free hr2;have keep:∀ {H3 H4:Hp},Same H H3->But r H3 H4->Same H H4:=λs b c o e=>b c o (ah e hrH) (s c o e);have g2:=g1.trans s2;refine ⟨_,rfl,r,n,rfl,e2,λv d c3 H3 b3 e3 hv sk=>?_⟩;have g3:=keep g2 b3;dsimp only [dX];refine cE λk hk=>?_;have rest:∀ (d:Dt) (a':Nat) (y:V) (c:Int) (H4:Hp),Same H H4->H4 r=some (.lst [.int c])->IsP K H4 d y->SK a' d->a'<=5->k [some (.ref a),some (.int (0+i)),some (.ref r),some y] H4:=by
   intro d a' y c H4 g4 e4 hy sk a5;refine hk _ _ ⟨_,rfl,_,rfl,_,rfl,_,rfl,r,c,a',d,y,by lia,rfl,e4,hy,sk,λv e c5 H5 B5 e5 hv5 fv=>?_⟩;refine ⟨_,rfl,r,c5,_,rfl,e5,(1),(1),λm c6 H6 m0 m9 B6 e6=>?_⟩;have g6:=keep (keep g4 B5) B6;refine ⟨r,c6,m,a',d,e,y,v,rfl,e6,m0,by lia,(hy.but e4 B5).but e5 B6,hv5.but e5 B6,sk,a5,fv,λH7 B7=>⟨_,rfl,aA ⟨keep g6 B7,_,_,_,rfl⟩⟩⟩
  refine ⟨_,rfl,r,c3,_,rfl,e3,(1),(1),λw0 c4 H4 _ _ B4 e4=>?_⟩;have g4:=keep g3 B4;have hv4:=hv.but e3 B4;refine ⟨rfl,_,rfl,aE (λ_=>?_) λ_=>rest d 1 v c4 H4 g4 e4 hv4 sk (1)⟩;refine ⟨_,rfl,_,rfl,r,c4,_,rfl,e4,(1),(1),λw1 c5 H5 w10 w13 B5 e5=>⟨_,_,rfl,rfl,?_⟩⟩;refine ⟨[.str "list",d,.int (1+w1)],.cons .str (.cons (hv4.but e4 B5) (.cons .int .nil)),sz3,λy H6 g6 hy=>?_⟩;exact rest _ 2 y c5 H6 ((keep g4 B5).trans g6) (g6 _ _ e5) hy (.list sk (by lia) (by lia)) (1)
 ·rintro σ H1 ⟨g1,v1,v2,v3,rfl⟩;exact q _
end
@[elab_as_elim] theorem wR {α:Type} {p:List α->Prop} {us:List α} (hl:us.length=0) (h:p []):p us:=by
 cases us with
 | nil=>exact h
 | cons a r=>cases hl
@[elab_as_elim] theorem wS {α:Type} {p:List α->Prop} {us:List α} (hl:us.length=1) (h:∀ x0,p [x0]):p us:=by
 cases us with
 | nil=>cases hl
 | cons a r=>exact wR (p:=λr=>p (a :: r)) (Nat.succ.inj hl) (h a)
@[elab_as_elim] theorem wT {α:Type} {p:List α->Prop} {us:List α} (hl:us.length=2) (h:∀ x0 x1,p [x0,x1]):p us:=by
 cases us with
 | nil=>cases hl
 | cons a r=>exact wS (p:=λr=>p (a :: r)) (Nat.succ.inj hl) (h a)
@[elab_as_elim] theorem wU {α:Type} {p:List α->Prop} {us:List α} (hl:us.length=3) (h:∀ x0 x1 x2,p [x0,x1,x2]):p us:=by
 cases us with
 | nil=>cases hl
 | cons a r=>exact wT (p:=λr=>p (a :: r)) (Nat.succ.inj hl) (h a)
@[elab_as_elim] theorem wV {α:Type} {p:List α->Prop} {us:List α} (hl:us.length=4) (h:∀ x0 x1 x2 x3,p [x0,x1,x2,x3]):p us:=by
 cases us with
 | nil=>cases hl
 | cons a r=>exact wU (p:=λr=>p (a :: r)) (Nat.succ.inj hl) (h a)
@[elab_as_elim] theorem wW {α:Type} {p:List α->Prop} {us:List α} (hl:us.length=5) (h:∀ x0 x1 x2 x3 x4,p [x0,x1,x2,x3,x4]):p us:=by
 cases us with
 | nil=>cases hl
 | cons a r=>exact wV (p:=λr=>p (a :: r)) (Nat.succ.inj hl) (h a)
@[elab_as_elim] theorem Jw {α:Type} {p:List α->Prop} {us:List α} (hl:us.length=6) (h:∀ x0 x1 x2 x3 x4 x5,p [x0,x1,x2,x3,x4,x5]):p us:=by
 cases us with
 | nil=>cases hl
 | cons a r=>exact wW (p:=λr=>p (a :: r)) (Nat.succ.inj hl) (h a)
theorem gnM {K:W.Frag} {h:Heap} {mg:Str->Option Value} (X:K.In h) (G:h.Ns mainGlobals mg) {x:Str} {st:Stmt} {ps:List Str} {f:Addr} {od an:Option Addr} {sl:Array (Option Value)} {oc kV dc pm cd ct:Value}
  (a:W.nsIn K mainGlobals x=some (some (.ref f))) (l:K.lookup f=some ⟨oc,od,.func (W.fnOf x x (cN st) (aX st) (aa st) .none kV dc pm an cd ct),sl⟩) (c:W.codeIn K cd x=true) (k:W.keepIn K (.ref f)=true)
  (b:∀ (kV doc pm:Value) (an:Option Addr) (cdv ct:Value) (us:List Value),us.length=ps.length->bindArgs (W.fnOf x x (cN st) (aX st) (aa st) .none kV doc pm an cdv ct) ⟨us,[]⟩=pure (ps.zip us)):∃ f fd,Gn K mg x st ps f fd :=
 ⟨f,_,tz (st:=st) l c k,(tz (st:=st) l c k).binds b,W.mg_of X G a⟩
theorem exM {K:W.Frag} {h:Heap} {mg:Str->Option Value} (X:K.In h) (G:h.Ns mainGlobals mg) {x:Str} {C:Addr} {d:ClassData} (xa:W.nsIn K mainGlobals x=some (some (.ref C))) (xq:W.excIn K C bmV "ValueError.__new__" = true) (xg:W.findIn K (.ref C) "__getattribute__" = some (some (.builtin "BaseException.__getattribute__"))) (xt:W.findIn K (.ref C) "__getattr__" = some none) (xc:W.findIn K (.ref C) "__class__" = some (some (.builtin "object.__class__"))) (xb:W.mroIn K C (.type "BaseException")=some true) (xo:W.mroIn K C (.type "object")=some true) (xd:W.clsIn K C=some d) (xk:W.keepIn K (.ref C)=true):ExC K mg x C:=⟨W.mg_of X G xa,xq,⟨xg,xt,xc,xb,xo,_,xd⟩,xk⟩
theorem csM {K:W.Frag} {h:Heap} {mg:Str->Option Value} (X:K.In h) (G:h.Ns mainGlobals mg) {x z:Str} {t:Tok} (g:W.nsIn K mainGlobals x=some (some (.str z t))):∃ t,mg x=some (.str z t):=⟨_,W.mg_of X G g⟩
theorem ciM {K:W.Frag} {h:Heap} {mg:Str->Option Value} (X:K.In h) (G:h.Ns mainGlobals mg) {x:Str} {i:Int} {t:Tok} (g:W.nsIn K mainGlobals x=some (some (.int i t))):∃ t,mg x=some (.int i t):=⟨_,W.mg_of X G g⟩
theorem cdM {K:W.Frag} {h:Heap} {mg:Str->Option Value} (X:K.In h) (G:h.Ns mainGlobals mg) {x:Str} {a:Addr} {l:List (Str×Int)} (g:W.nsIn K mainGlobals x=some (some (.ref a))) (d:KTD.tabLook (KTD.datLooks λb=>K.lookup b) (λb=>K.lookup b) a (jL l)=true):∃ a,mg x=some (.ref a)/\mY K a l:=⟨_,W.mg_of X G g,tQ d⟩
theorem txI {K:W.Frag} {mg:Str->Option Value} {a0 a1 a2 a3 a4 a5 a6 a7 a8 a9 a10 a11 a12:Addr} (T:Tx K mg ⟨a0,a1,a2,a3,a4,a5,a6,a7,a8,a9,a10,a11,a12⟩):∃ ad,Tx K mg ad:=⟨_,T⟩
theorem BP {K:W.Frag} {f:Addr} {fd:FuncData} (F:Fun K "law" "law" qX f fd):∀ (s:Shared) (u:Value),BindsTo s fd ⟨[u],[]⟩ [("script",u)]:=by
 obtain ⟨oc,od,kV,doc,pm,an,cdv,ct,osl,rfl,lk,hcd⟩:=F.ex;exact λs u=>.of_eq rfl
end K73
open PySem PySem.W PyProof.Rows
set_option maxRecDepth 100000 in
set_option maxHeartbeats 0 in
theorem PySem.Challenge.cw_oldhands_k73_looks_holds : PySem.Challenge.rw_oldhands_k73_looks.Holds := by
 w_on
 refine W.holds_law K73.said λsaid=>?_;refine W.holds_open (q:=K73.hQ) (loose:=K73.hW) (Xt:=K73.hX) (XP:=λ_ _=>True) (Yf:=K73.hH.obs) (Ya:=K73.hH.val) (YP:=W.InK K73.hK) (N:=6418) K73.hl K73.hH.of K73.hH.keeps (λ_ _=>trivial) (λ_ _ _ _ _=>trivial) (0) (0) (0) (λs e=>W.recFacts_of e) (0) said (by decide +kernel) ⟨rfl,rfl,rfl,rfl,rfl,by decide +kernel⟩ ?hw ?hc
 case hw=>w_witness2
 k_fill
 refine L2.II (l:=PySem.Challenge.rw_oldhands_k73_looks) (K:=K73.hK) (n:=63) (k:=K73.depth) (x:= "script") (CX:=L2.CX0) (sp:=K73.Jl) rfl (1) rfl ⟨rfl,(1),(1)⟩ (λw h Y=>Y) ?F (λ_ _ a ns hl _ hS=>⟨a,ns,rfl,hS,hl,λ_=>rfl⟩) (λ_ _ _ _ z=>z)
 case F =>
  intro w mg fa h KX G hmg;have T:∃ ad,K73.Tx (L2.KOf KX) mg ad:=by
   dsimp only [L2.KOf];refine' K73.txI ⟨K73.gnM KX G ?_ ?_ ?_ ?_ ?_,K73.gnM KX G ?_ ?_ ?_ ?_ ?_,K73.gnM KX G ?_ ?_ ?_ ?_ ?_,K73.gnM KX G ?_ ?_ ?_ ?_ ?_,K73.gnM KX G ?_ ?_ ?_ ?_ ?_,K73.gnM KX G ?_ ?_ ?_ ?_ ?_,K73.gnM KX G ?_ ?_ ?_ ?_ ?_,K73.gnM KX G ?_ ?_ ?_ ?_ ?_,K73.gnM KX G ?_ ?_ ?_ ?_ ?_,K73.gnM KX G ?_ ?_ ?_ ?_ ?_,K73.gnM KX G ?_ ?_ ?_ ?_ ?_,K73.gnM KX G ?_ ?_ ?_ ?_ ?_,K73.gnM KX G ?_ ?_ ?_ ?_ ?_,K73.gnM KX G ?_ ?_ ?_ ?_ ?_,K73.gnM KX G ?_ ?_ ?_ ?_ ?_,K73.gnM KX G ?_ ?_ ?_ ?_ ?_,K73.gnM KX G ?_ ?_ ?_ ?_ ?_,K73.gnM KX G ?_ ?_ ?_ ?_ ?_,K73.gnM KX G ?_ ?_ ?_ ?_ ?_,K73.gnM KX G ?_ ?_ ?_ ?_ ?_,K73.gnM KX G ?_ ?_ ?_ ?_ ?_,K73.gnM KX G ?_ ?_ ?_ ?_ ?_,K73.gnM KX G ?_ ?_ ?_ ?_ ?_,K73.gnM KX G ?_ ?_ ?_ ?_ ?_,K73.gnM KX G ?_ ?_ ?_ ?_ ?_,K73.gnM KX G ?_ ?_ ?_ ?_ ?_,K73.gnM KX G ?_ ?_ ?_ ?_ ?_,K73.gnM KX G ?_ ?_ ?_ ?_ ?_,K73.gnM KX G ?_ ?_ ?_ ?_ ?_,K73.gnM KX G ?_ ?_ ?_ ?_ ?_,K73.gnM KX G ?_ ?_ ?_ ?_ ?_,K73.gnM KX G ?_ ?_ ?_ ?_ ?_,K73.gnM KX G ?_ ?_ ?_ ?_ ?_,K73.gnM KX G ?_ ?_ ?_ ?_ ?_,K73.gnM KX G ?_ ?_ ?_ ?_ ?_,K73.gnM KX G ?_ ?_ ?_ ?_ ?_,K73.gnM KX G ?_ ?_ ?_ ?_ ?_,K73.gnM KX G ?_ ?_ ?_ ?_ ?_,K73.gnM KX G ?_ ?_ ?_ ?_ ?_,K73.gnM KX G ?_ ?_ ?_ ?_ ?_,K73.gnM KX G ?_ ?_ ?_ ?_ ?_,K73.gnM KX G ?_ ?_ ?_ ?_ ?_,K73.gnM KX G ?_ ?_ ?_ ?_ ?_,K73.gnM KX G ?_ ?_ ?_ ?_ ?_,K73.gnM KX G ?_ ?_ ?_ ?_ ?_,K73.gnM KX G ?_ ?_ ?_ ?_ ?_,K73.gnM KX G ?_ ?_ ?_ ?_ ?_,K73.gnM KX G ?_ ?_ ?_ ?_ ?_,K73.gnM KX G ?_ ?_ ?_ ?_ ?_,K73.gnM KX G ?_ ?_ ?_ ?_ ?_,K73.gnM KX G ?_ ?_ ?_ ?_ ?_,K73.gnM KX G ?_ ?_ ?_ ?_ ?_,K73.gnM KX G ?_ ?_ ?_ ?_ ?_,K73.gnM KX G ?_ ?_ ?_ ?_ ?_,K73.gnM KX G ?_ ?_ ?_ ?_ ?_,K73.gnM KX G ?_ ?_ ?_ ?_ ?_,K73.gnM KX G ?_ ?_ ?_ ?_ ?_,K73.gnM KX G ?_ ?_ ?_ ?_ ?_,K73.gnM KX G ?_ ?_ ?_ ?_ ?_,K73.gnM KX G ?_ ?_ ?_ ?_ ?_,K73.gnM KX G ?_ ?_ ?_ ?_ ?_,K73.gnM KX G ?_ ?_ ?_ ?_ ?_,K73.gnM KX G ?_ ?_ ?_ ?_ ?_,K73.gnM KX G ?_ ?_ ?_ ?_ ?_,K73.gnM KX G ?_ ?_ ?_ ?_ ?_,K73.exM KX G ?_ ?_ ?_ ?_ ?_ ?_ ?_ ?_ ?_,K73.exM KX G ?_ ?_ ?_ ?_ ?_ ?_ ?_ ?_ ?_,K73.exM KX G ?_ ?_ ?_ ?_ ?_ ?_ ?_ ?_ ?_,K73.exM KX G ?_ ?_ ?_ ?_ ?_ ?_ ?_ ?_ ?_,K73.exM KX G ?_ ?_ ?_ ?_ ?_ ?_ ?_ ?_ ?_,K73.exM KX G ?_ ?_ ?_ ?_ ?_ ?_ ?_ ?_ ?_,K73.exM KX G ?_ ?_ ?_ ?_ ?_ ?_ ?_ ?_ ?_,K73.exM KX G ?_ ?_ ?_ ?_ ?_ ?_ ?_ ?_ ?_,K73.exM KX G ?_ ?_ ?_ ?_ ?_ ?_ ?_ ?_ ?_,K73.exM KX G ?_ ?_ ?_ ?_ ?_ ?_ ?_ ?_ ?_,K73.exM KX G ?_ ?_ ?_ ?_ ?_ ?_ ?_ ?_ ?_,K73.exM KX G ?_ ?_ ?_ ?_ ?_ ?_ ?_ ?_ ?_,K73.exM KX G ?_ ?_ ?_ ?_ ?_ ?_ ?_ ?_ ?_,K73.csM KX G ?_,K73.ciM KX G ?_,K73.csM KX G ?_,K73.ciM KX G ?_,K73.ciM KX G ?_,K73.ciM KX G ?_,K73.ciM KX G ?_,K73.ciM KX G ?_,K73.ciM KX G ?_,K73.cdM KX G ?_ ?_,K73.ciM KX G ?_,K73.csM KX G ?_,K73.ciM KX G ?_,K73.ciM KX G ?_,K73.cdM KX G ?_ ?_,⟨W.mg_of KX G ?_,L2.BN ?_,L2.Je ?_⟩,K73.ciM KX G ?_,⟨_,W.mg_of KX G ?_,L2.BO ?_⟩,W.mg_none_of KX G ?_,W.mg_none_of KX G ?_,W.mg_none_of KX G ?_,W.mg_none_of KX G ?_,W.mg_none_of KX G ?_,W.mg_none_of KX G ?_,W.mg_none_of KX G ?_,W.mg_none_of KX G ?_,W.mg_none_of KX G ?_,W.mg_none_of KX G ?_,W.mg_none_of KX G ?_,W.mg_none_of KX G ?_,W.mg_none_of KX G ?_,W.mg_none_of KX G ?_,W.mg_none_of KX G ?_,W.mg_none_of KX G ?_,W.mg_none_of KX G ?_,?_,?_,?_⟩
   any_goals (first | k_is | kernel_rfl | exact λ_ _ _ _ _ _ _ e=>K73.wR e rfl | exact λ_ _ _ _ _ _ _ e=>K73.wS e λ_=>rfl | exact λ_ _ _ _ _ _ _ e=>K73.wT e λ_ _=>rfl | exact λ_ _ _ _ _ _ _ e=>K73.wU e λ_ _ _=>rfl | exact λ_ _ _ _ _ _ _ e=>K73.wV e λ_ _ _ _=>rfl | exact λ_ _ _ _ _ _ _ e=>K73.wW e λ_ _ _ _ _=>rfl | exact λ_ _ _ _ _ _ _ e=>K73.Jw e λ_ _ _ _ _ _=>rfl)
  obtain ⟨ad,T⟩:=T;obtain ⟨fL,dL,L⟩:=T.law;have e:=hmg.symm.trans L.m
  cases e
  exact ⟨dL,K73.BP L.F,λbase _ _=>K73.J6 T L⟩
end
